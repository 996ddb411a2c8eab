import PyProof.Rows.All
import Wide.All
import OpenK.AllK
import Wide.FinOn
import Lean
import PyProof.EqAt
import PyProof.EqKinds
import PyProof.TupleCall
import PyProof.P3Statements
import KE.KIntText
import KE.KRevIter
import KE.KRevSl
import KE.KSortTup
import KE.KDictSum
import KE.KIsAll
import PyProof.ExcAttrAll.ValueError
import PySem.Challenge.RW_penwright_k28_deeds_of_trails
set_option Elab.async false
set_option linter.all false
set_option maxRecDepth 100000
set_option maxHeartbeats 4000000
/-! THE HAND LAYER, for ints, bools, texts, own classes, LISTS and tuples (index, slices, in, append, pop ..), calls, loops. Paste it whole ahead of your own text; what your proof does not reach may be deleted. -/
namespace L2
open PySem PySem.Spec PyProof.Rows

/-- a key: an int or a str -/
noncomputable abbrev Key := Sum Int Str
noncomputable def keyIs : Key → Value → Bool
  | .inl k, v => Value.isInt k v
  | .inr x, v => Value.isStrOf x v
noncomputable def keyH (w : World) : Key → Int
  | .inl k => hashInt k
  | .inr x => hashStr w x
theorem keyIs_shape : ∀ {k : Key} {v : Value}, keyIs k v = true → (∃ i t, k = Sum.inl i ∧ v = Value.int i t) ∨ (∃ x t, k = Sum.inr x ∧ v = Value.str x t)
  | .inl i, v, h => by
    obtain ⟨t, e⟩ := Value.isInt_shape (k := i) (v := v) h
    exact .inl ⟨i, t, rfl, e⟩
  | .inr x, v, h => by
    obtain ⟨t, e⟩ := Value.isStrOf_shape (x := x) (v := v) h
    exact .inr ⟨x, t, rfl, e⟩
theorem key_ll (a b : Int) : decide ((Sum.inl a : Key) = Sum.inl b) = (a == b) := by
  by_cases e : a = b
  · subst e; simp
  · have h : ¬ (Sum.inl a : Key) = Sum.inl b := fun q => e (Sum.inl.inj q)
    rw [decide_eq_false h]
    exact (beq_eq_false_iff_ne.mpr e).symm
theorem key_rr (a b : Str) : decide ((Sum.inr a : Key) = Sum.inr b) = decide (a = b) := by
  by_cases e : a = b
  · subst e; simp
  · have h : ¬ (Sum.inr a : Key) = Sum.inr b := fun q => e (Sum.inr.inj q)
    rw [decide_eq_false h, decide_eq_false e]
theorem key_lr (a : Int) (b : Str) : decide ((Sum.inl a : Key) = Sum.inr b) = false := decide_eq_false (fun q => nomatch q)
theorem key_rl (a : Str) (b : Int) : decide ((Sum.inr a : Key) = Sum.inl b) = false := decide_eq_false (fun q => nomatch q)

noncomputable def mixKind (prog : Program) (w : World) : PySem.KeyKind prog w Key where
  is := keyIs
  hash := keyH w
  inj := fun v a b ha hb => by
    rcases keyIs_shape ha with ⟨i, t, rfl, rfl⟩ | ⟨x, t, rfl, rfl⟩
    · rcases keyIs_shape hb with ⟨j, u, rfl, e⟩ | ⟨y, u, rfl, e⟩
      · injection e with e1 _; rw [e1]
      · exact nomatch e
    · rcases keyIs_shape hb with ⟨j, u, rfl, e⟩ | ⟨y, u, rfl, e⟩
      · exact nomatch e
      · injection e with e1 _; rw [e1]
  byValue := fun k v h => by
    rcases keyIs_shape h with ⟨i, t, rfl, rfl⟩ | ⟨x, t, rfl, rfl⟩ <;> rfl
  pyHash := fun hv h => by
    rcases keyIs_shape hv with ⟨i, t, rfl, rfl⟩ | ⟨x, t, rfl, rfl⟩
    · exact wpAny_pyHash_int h
    · exact wpAny_pyHash_str h
  eqBool := fun hu hv h => by
    rcases keyIs_shape hu with ⟨i, t, rfl, rfl⟩ | ⟨x, t, rfl, rfl⟩
    · rcases keyIs_shape hv with ⟨j, u, rfl, rfl⟩ | ⟨y, u, rfl, rfl⟩
      · rw [key_ll] at h; exact wpAny_eqBool_int h
      · rw [key_lr] at h; exact SeqAt.EqAt.int_str i t y u _ _ _ _ h
    · rcases keyIs_shape hv with ⟨j, u, rfl, rfl⟩ | ⟨y, u, rfl, rfl⟩
      · rw [key_rl] at h; exact SeqAt.EqAt.str_int x t j u _ _ _ _ h
      · rw [key_rr] at h; exact wpAny_eqBool_str h
  «strs» := fun k x t v h => by
    rcases keyIs_shape h with ⟨i, u, rfl, e⟩ | ⟨y, u, rfl, e⟩
    · exact nomatch e
    · injection e with e1 _
      subst e1
      cases v <;> rfl

end L2

namespace L2
open PySem PySem.Spec PyProof.Rows

/-- a value, without the heap -/
inductive V where
  | non | bl (b : Bool) | int (i : Int) | str (x : Str) | byt (b : Array UInt8) | flt (b : UInt64) | ref (a : Addr) | ty (n : String)
  deriving DecidableEq

noncomputable def RelV : V → Value → Prop
  | .non, u => u = Value.none
  | .bl b, u => u = Value.bool b
  | .int i, u => ∃ t, u = Value.int i t
  | .str x, u => ∃ t, u = Value.str x t
  | .byt b, u => ∃ t, u = Value.bytes b t
  | .flt b, u => ∃ t, u = Value.float b t
  | .ref a, u => u = Value.ref a
  | .ty n, u => u = Value.type n

noncomputable abbrev Vals : List V → List Value → Prop := Paired RelV
theorem Vals.length {xs : List V} {us : List Value} (r : Vals xs us) : xs.length = us.length := Paired.length r
theorem Vals.get : ∀ {xs : List V} {us : List Value} {i : Nat} {x : V}, Vals xs us → xs[i]? = some x → ∃ u, us[i]? = some u ∧ RelV x u
  | _, _, _, _, .nil, e => by simp at e
  | _, _, 0, _, .cons r _, e => by simp at e; subst e; exact ⟨_, rfl, r⟩
  | _, _, i + 1, x, .cons _ t, e => by
    obtain ⟨u, h1, h2⟩ := Vals.get (i := i) (x := x) t (by simpa using e)
    exact ⟨u, by simpa using h1, h2⟩
theorem Vals.set {x : V} {u : Value} (r : RelV x u) : ∀ {xs : List V} {us : List Value} (i : Nat), Vals xs us → Vals (xs.set i x) (us.set i u)
  | _, _, _, .nil => .nil
  | _, _, 0, .cons _ t => .cons r t
  | _, _, i + 1, .cons q t => .cons q (Vals.set r i t)
theorem Vals.append : ∀ {xs ys : List V} {us ws : List Value}, Vals xs us → Vals ys ws → Vals (xs ++ ys) (us ++ ws)
  | _, _, _, _, .nil, s => s
  | _, _, _, _, .cons r t, s => .cons r (Vals.append t s)
theorem Vals.take : ∀ {xs : List V} {us : List Value} (n : Nat), Vals xs us → Vals (xs.take n) (us.take n)
  | _, _, 0, _ => .nil
  | _, _, _ + 1, .nil => .nil
  | _, _, n + 1, .cons r t => .cons r (Vals.take n t)
theorem Vals.drop : ∀ {xs : List V} {us : List Value} (n : Nat), Vals xs us → Vals (xs.drop n) (us.drop n)
  | _, _, 0, r => r
  | _, _, _ + 1, .nil => .nil
  | _, _, n + 1, .cons _ t => Vals.drop n t
noncomputable def RelO : Option V → Option Value → Prop
  | some v, some u => RelV v u
  | none, none => True
  | _, _ => False
noncomputable def KV {κ : Type} : List (κ × V) → List (κ × Value) → Prop := Paired fun (p : κ × V) (q : κ × Value) => p.1 = q.1 ∧ RelV p.2 q.2

/-- a key of a dict (00_mix): an int or a text -/
noncomputable def kV : Key → V
  | .inl i => .int i
  | .inr x => .str x

/-- what stands at a tracked address -/
inductive HO where
  /-- a list -/
  | lst (xs : List V)
  /-- a tuple (never changes) -/
  | tup (xs : List V)
  /-- a dict whose keys are ints and texts; one whose keys are tuples of ints and texts (the empty one is both) -/
  | dK (kvs : List (Key × V)) | dT (kvs : List (List Key × V))
  /-- a set of ints: its members, its size -/
  | set (S : Int → Bool) (n : Nat)
  /-- an instance of the class at C, its dict at dx, its attributes -/
  | ins (C dx : Addr) (fs : List (Str × V))
  /-- the dict of the instance at x -/
  | own (x : Addr)
  /-- the dict of an exception -/
  | xd (fs : List (Str × V))
  /-- a bound method, f of x -/
  | met (f x : Addr)
  /-- a range object lo, lo + 1, .. below hi -/
  | rng (lo hi : Int)
  /-- a thing that is known to the object (the script; a dict while a loop walks it): read, never written while it is so -/
  | frz (o : Obj) (u : HO)
  /-- a code object's table -/
  | tbl (ps : Array Value)
  /-- any other thing, by what is true of its one object (a def of one's own: SetO a S n := HO.ext fun h => ..) -/
  | ext (φ : Heap → Prop)

noncomputable abbrev Hp := Addr → Option HO
noncomputable def upd (H : Hp) (a : Addr) (o : HO) : Hp := fun b => if b = a then some o else H b
theorem upd_same {H : Hp} {a : Addr} {o : HO} : upd H a o a = some o := by unfold upd; rw [if_pos rfl]
theorem upd_ne {H : Hp} {a b : Addr} {o : HO} (h : b ≠ a) : upd H a o b = H b := by unfold upd; rw [if_neg h]
/-- two objects of different content stand apart -/
theorem ne_of {H : Hp} {a b : Addr} {o u : HO} (h : H a = some o) (h' : H b = some u) (d : o ≠ u) : a ≠ b := by
  intro e; subst e; rw [h] at h'; exact d (Option.some.inj h')
theorem ne_of_none {H : Hp} {a b : Addr} {o : HO} (h : H a = some o) (h' : H b = none) : a ≠ b := by
  intro e; subst e; rw [h] at h'; cases h'

section
variable (P : Program) (w : World)
noncomputable def ObjOk (H : Hp) (h : Heap) (a : Addr) : HO → Prop
  | .lst xs => xs.length ≤ sizeLine ∧ ∃ (its : List Value) (n : Nat), Vals xs its ∧ h.get? a = some { cls := .type "list", data := .seq its.toArray n }
  | .tup xs => xs.length ≤ sizeLine ∧ ∃ its : List Value, Vals xs its ∧ IsTup h a its.toArray
  | .dK kvs => kvs.length ≤ sizeLine ∧ (a == sysModules) = false ∧ ∃ vs, KV kvs vs ∧ h.DictOf (mixKind P w) a vs
  | .dT kvs => kvs.length ≤ sizeLine ∧ (a == sysModules) = false ∧ ∃ xs : List (List Key × Addr × Value),
      Paired (fun (p : List Key × V) (q : List Key × Addr × Value) => p.1 = q.1 ∧ H q.2.1 = some (.tup (p.1.map kV)) ∧ RelV p.2 q.2.2) kvs xs ∧
      ∃ o es ep, h.get? a = some o ∧ o.ExactDict ∧ o.data = .dict es ep ∧ es.toList = xs.map (entryOfKey (tupleKind (mixKind P w))) ∧ (xs.map (·.1)).Nodup
  | .set S n => h.SetOf (intKind P w) a S n
  | .ins C dx fs => H dx = some (.own a) ∧ fs.length ≤ 1000 ∧ dx ≠ a ∧ h.get? a = some (PySem.W.instObj C dx) ∧
      ∃ mA, h.Ns1 dx mA ∧ (∀ f, RelO (fs.lookup f) (mA f)) ∧ PySem.Within mA (fs.map (·.1))
  | .own _ => ∃ o, h.get? a = some o
  | .xd fs => ∃ mA, h.Ns1 a mA ∧ ∀ f, RelO (fs.lookup f) (mA f)
  | .rng lo hi => ∃ t u v, h.get? a = some { cls := .type "range", data := .fields #[.int lo t, .int hi u, .int 1 v] }
  | .frz o u => h.get? a = some o ∧ ObjOk H h a u
  | .tbl ps => h.get? a = some { cls := .none, data := .fields ps }
  | .met f x => h.get? a = some (PySem.W.methodObj (.ref f) (.ref x))
  | .ext φ => φ h ∧ (∃ o, h.get? a = some o) ∧ ∀ h1 h2 : Heap, φ h1 → (∀ o, h1.get? a = some o → h2.get? a = some o) → φ h2
/-- the abstract heap is held -/
noncomputable def HOk (H : Hp) (h : Heap) : Prop := ∀ a o, H a = some o → ObjOk P w H h a o
end

section
variable {P : Program} {w : World} {H H' : Hp} {h h' : Heap} {a : Addr} {o : HO}
theorem ObjOk.lt (x : ObjOk P w H h a o) : a < h.objs.size := by
  cases o with
  | lst xs => obtain ⟨_, _, _, _, e⟩ := x; exact Heap.lt_size e
  | tup xs => obtain ⟨_, _, _, p⟩ := x; exact p.lt
  | dK kvs => obtain ⟨_, _, _, _, o, _, _, e, _⟩ := x; exact Heap.lt_size e
  | dT kvs => obtain ⟨_, _, _, _, o, _, _, e, _⟩ := x; exact Heap.lt_size e
  | set S n => obtain ⟨o, _, _, _, e, _⟩ := x; exact Heap.lt_size e
  | ins C dx fs => obtain ⟨_, _, _, e, _⟩ := x; exact Heap.lt_size e
  | own y => obtain ⟨_, e⟩ := x; exact Heap.lt_size e
  | xd fs => obtain ⟨_, ⟨_, _, _, e, _⟩, _⟩ := x; exact Heap.lt_size e
  | rng lo hi => obtain ⟨_, _, _, e⟩ := x; exact Heap.lt_size e
  | frz ob u => obtain ⟨e, _⟩ := x; exact Heap.lt_size e
  | tbl ps => exact Heap.lt_size (show h.get? a = some _ from x)
  | met f y => exact Heap.lt_size (show h.get? a = some _ from x)
  | ext φ => obtain ⟨_, ⟨_, e⟩, _⟩ := x; exact Heap.lt_size e
theorem Paired.mapP {α β : Type} {F G : α → β → Prop} : ∀ {l₁ : List α} {l₂ : List β}, Paired F l₁ l₂ → (∀ a b, F a b → G a b) → Paired G l₁ l₂
  | _, _, .nil, _ => .nil
  | _, _, .cons r t, f => .cons (f _ _ r) (Paired.mapP t f)
/-- what an object's description leans on: its own object, its own dict, the tuples -/
theorem ObjOk.stay (x : ObjOk P w H h a o) (k : ∀ b u, (b = a ∨ H b = some (.own a)) → h.get? b = some u → h'.get? b = some u)
    (ho : ∀ b, H b = some (.own a) → H' b = some (.own a)) (ht : ∀ b xs, H b = some (.tup xs) → H' b = some (.tup xs)) : ObjOk P w H' h' a o := by
  induction o with
  | lst xs => obtain ⟨z, its, n, r, e⟩ := x; exact ⟨z, its, n, r, k _ _ (.inl rfl) e⟩
  | tup xs => obtain ⟨z, its, r, ob, e, c⟩ := x; exact ⟨z, its, r, ob, k _ _ (.inl rfl) e, c⟩
  | dK kvs => obtain ⟨z, y, vs, r, ob, es, ep, e, c⟩ := x; exact ⟨z, y, vs, r, ob, es, ep, k _ _ (.inl rfl) e, c⟩
  | dT kvs =>
    obtain ⟨z, y, xs, r, ob, es, ep, e, c⟩ := x
    exact ⟨z, y, xs, Paired.mapP r fun p q z => ⟨z.1, ht _ _ z.2.1, z.2.2⟩, ob, es, ep, k _ _ (.inl rfl) e, c⟩
  | set S n => obtain ⟨ob, es, ep, t, e, c⟩ := x; exact ⟨ob, es, ep, t, k _ _ (.inl rfl) e, c⟩
  | ins C dx fs =>
    obtain ⟨d, z, ne, e, mA, ⟨od, es, ep, e2, c⟩, r⟩ := x
    exact ⟨ho _ d, z, ne, k _ _ (.inl rfl) e, mA, ⟨od, es, ep, k _ _ (.inr d) e2, c⟩, r⟩
  | own y => obtain ⟨ob, e⟩ := x; exact ⟨ob, k _ _ (.inl rfl) e⟩
  | xd fs => obtain ⟨mA, ⟨od, es, ep, e, c⟩, r⟩ := x; exact ⟨mA, ⟨od, es, ep, k _ _ (.inl rfl) e, c⟩, r⟩
  | rng lo hi => obtain ⟨t, u, v, e⟩ := x; exact ⟨t, u, v, k _ _ (.inl rfl) e⟩
  | frz ob u ih => obtain ⟨e, q⟩ := x; exact ⟨k _ _ (.inl rfl) e, ih q⟩
  | tbl ps =>
    have e : h.get? a = some { cls := .none, data := .fields ps } := x
    show h'.get? a = some { cls := .none, data := .fields ps }
    exact k a _ (.inl rfl) e
  | met f y =>
    have e : h.get? a = some (PySem.W.methodObj (.ref f) (.ref y)) := x
    show h'.get? a = some (PySem.W.methodObj (.ref f) (.ref y))
    exact k a _ (.inl rfl) e
  | ext φ => obtain ⟨p, ⟨o, e⟩, st⟩ := x; exact ⟨st _ _ p fun o q => k _ _ (.inl rfl) q, ⟨o, k _ _ (.inl rfl) e⟩, st⟩
theorem HOk.lt (x : HOk P w H h) (e : H a = some o) : a < h.objs.size := (x a o e).lt
theorem HOk.fresh (x : HOk P w H h) (e : h.objs.size ≤ a) : H a = none := by
  cases q : H a with
  | none => rfl
  | some u => exact absurd (Nat.lt_of_lt_of_le (x.lt q) e) (Nat.lt_irrefl _)
/-- every object of the heap is kept -/
theorem HOk.kept (x : HOk P w H h) (k : ∀ b u, h.get? b = some u → h'.get? b = some u) : HOk P w H h' := fun a o e =>
  (x a o e).stay (fun b u _ q => k b u q) (fun _ q => q) fun _ _ q => q
/-- a new object is laid and tracked -/
theorem HOk.laid (x : HOk P w H h) (k : ∀ b u, h.get? b = some u → h'.get? b = some u) (hp : h.objs.size ≤ a) (new : ObjOk P w (upd H a o) h' a o) : HOk P w (upd H a o) h' := fun b u e => by
  have hn := x.fresh hp
  by_cases hb : b = a
  · subst hb; rw [upd_same] at e; cases e; exact new
  · rw [upd_ne hb] at e
    exact (x b u e).stay (fun c v _ q => k c v q) (fun c q => by rw [upd_ne (ne_of_none q hn)]; exact q) fun c xs q => by rw [upd_ne (ne_of_none q hn)]; exact q
end

/-- what may be read as u: it is u, or a known u -/
noncomputable def Rd (H : Hp) (a : Addr) (u : HO) : Prop := H a = some u ∨ ∃ o, H a = some (.frz o u)
theorem Rd.ok {P : Program} {w : World} {H : Hp} {h : Heap} {a : Addr} {u : HO} (r : Rd H a u) (x : HOk P w H h) : ObjOk P w H h a u := by
  rcases r with r | ⟨o, r⟩
  · exact x a u r
  · obtain ⟨_, q⟩ := x a _ r
    exact q
/-- what may be written -/
noncomputable def Mut : Option HO → Prop
  | some (.lst _) => True
  | some (.dK _) => True
  | some (.dT _) => True
  | some (.set _ _) => True
  | some (.ins _ _ _) => True
  | some (.ext _) => True
  | _ => False
section
variable {P : Program} {w : World} {H : Hp} {h h' : Heap} {x e : Addr} {o' : HO}
/-- the object at e is changed: x itself, or the dict of the instance x -/
theorem HOk.write (ok : HOk P w H h) (mu : Mut (H x)) (he : e = x ∨ H e = some (.own x)) (k : ∀ b u, b ≠ e → h.get? b = some u → h'.get? b = some u) (heo : ∃ u, h'.get? e = some u)
    (new : ObjOk P w (upd H x o') h' x o') : HOk P w (upd H x o') h' := fun b u q => by
  have nown : ∀ c y, H c = some (.own y) → c ≠ x := fun c y r z => by subst z; rw [r] at mu; exact mu
  have ntup : ∀ c xs, H c = some (.tup xs) → c ≠ x := fun c xs r z => by subst z; rw [r] at mu; exact mu
  by_cases hb : b = x
  · subst hb; rw [upd_same] at q; cases q; exact new
  · rw [upd_ne hb] at q
    by_cases hbe : b = e
    · have q' : H b = some (.own x) := by
        rcases he with z | z
        · exact absurd (hbe.trans z) hb
        · rw [hbe]; exact z
      rw [q] at q'; cases q'
      obtain ⟨v, hv⟩ := heo
      exact ⟨v, by rw [hbe]; exact hv⟩
    · refine (ok b u q).stay (fun c v hc r => k c v ?_ r) (fun c r => by rw [upd_ne (nown c b r)]; exact r) fun c xs r => by rw [upd_ne (ntup c xs r)]; exact r
      rcases hc with rfl | hc
      · exact hbe
      · rintro rfl
        rcases he with z | z
        · exact nown c b hc z
        · rw [hc] at z; cases z; exact hb rfl
end

/-! ### kept unless tracked; of the frames at fs (the callers') the slots may change (an exception that passes writes there); of the records at ex (iterators) nothing is said -/
structure Un (fs ex : List Addr) (H H' : Hp) (h h' : Heap) : Prop where
  keep : ∀ b o, h.get? b = some o → H b = none → b ∉ fs → b ∉ ex → h'.get? b = some o
  slot : ∀ b o, h.get? b = some o → H b = none → b ∈ fs → b ∉ ex → ∃ sl, h'.get? b = some { o with slots := sl }
  free : ∀ b o, h.get? b = some o → H b = none → b ∉ ex → H' b = none
  there : ∀ b o, h.get? b = some o → b ∉ ex → ∃ o', h'.get? b = some o'
  tups : ∀ b xs, H b = some (.tup xs) → H' b = some (.tup xs)
  frzs : ∀ b o u, H b = some (.frz o u) → H' b = some (.frz o u)
  tbls : ∀ b ps, H b = some (.tbl ps) → ∃ more, H' b = some (.tbl (ps ++ more))
section
variable {fs fs' ex ex' : List Addr} {H H1 H2 : Hp} {h h1 h2 h' : Heap} {a x e : Addr} {o : HO}
theorem Un.any (u : Un fs ex H H1 h h1) {b : Addr} {ob : Obj} (q : h.get? b = some ob) (n : H b = none) (hx : b ∉ ex) : ∃ sl, h1.get? b = some { ob with slots := sl } := by
  by_cases hb : b ∈ fs
  · exact u.slot b ob q n hb hx
  · exact ⟨ob.slots, u.keep b ob q n hb hx⟩
theorem Un.kept (k : ∀ b u, h.get? b = some u → h'.get? b = some u) : Un fs ex H H h h' :=
  ⟨fun b ob q _ _ _ => k b ob q, fun b ob q _ _ _ => ⟨ob.slots, k b ob q⟩, fun _ _ _ n _ => n, fun b ob q _ => ⟨ob, k b ob q⟩, fun _ _ q => q, fun _ _ _ q => q, fun _ ps q => ⟨#[], by rw [q]; simp⟩⟩
theorem Un.refl : Un fs ex H H h h := Un.kept fun _ _ q => q
theorem Un.laid (k : ∀ b u, h.get? b = some u → h'.get? b = some u) (hp : h.objs.size ≤ a) (hn : H a = none) : Un fs ex H (upd H a o) h h' where
  keep := fun b u q _ _ _ => k b u q
  slot := fun b u q _ _ _ => ⟨u.slots, k b u q⟩
  free := fun b u q n _ => by rw [upd_ne (Nat.ne_of_lt (Nat.lt_of_lt_of_le (Heap.lt_size q) hp))]; exact n
  there := fun b u q _ => ⟨u, k b u q⟩
  tups := fun b xs q => by rw [upd_ne (ne_of_none q hn)]; exact q
  frzs := fun b u xs q => by rw [upd_ne (ne_of_none q hn)]; exact q
  tbls := fun b ps q => ⟨#[], by rw [upd_ne (ne_of_none q hn), q]; simp⟩
theorem Un.write (mu : Mut (H x)) (he : e = x ∨ H e = some (.own x)) (k : ∀ b u, b ≠ e → h.get? b = some u → h'.get? b = some u) (heo : ∃ u, h'.get? e = some u) : Un fs ex H (upd H x o) h h' := by
  have hx : ∀ b, H b = none → b ≠ x := fun b n z => by subst z; rw [n] at mu; exact mu
  have hb : ∀ b, H b = none → b ≠ e := fun b n z => by
    subst z
    rcases he with r | r
    · exact hx b n r
    · rw [n] at r; cases r
  have hm : ∀ b u, H b = some u → ¬ Mut (some u) → b ≠ x := fun b u q nm z => by subst z; rw [q] at mu; exact nm mu
  refine ⟨fun b u q n _ _ => k b u (hb b n) q, fun b u q n _ _ => ⟨u.slots, k b u (hb b n) q⟩, fun b u q n _ => by rw [upd_ne (hx b n)]; exact n, fun b u q _ => ?_,
    fun b xs q => by rw [upd_ne (hm b _ q fun z => z)]; exact q, fun b u xs q => by rw [upd_ne (hm b _ q fun z => z)]; exact q, fun b ps q => ⟨#[], by rw [upd_ne (hm b _ q fun z => z), q]; simp⟩⟩
  by_cases hbe : b = e
  · subst hbe; exact heo
  · exact ⟨u, k b u hbe q⟩
end

/-! ### the heap without what is tracked -/
noncomputable def trk (h : Heap) (H : Hp) : List Addr := (List.range h.objs.size).filter fun a => (H a).isSome
noncomputable def hidT (h : Heap) (H : Hp) : Heap := PySem.W.hideAll h (trk h H)
theorem hidT_size (h : Heap) (H : Hp) : (hidT h H).objs.size = h.objs.size := PySem.W.hideAll_size _ _
theorem hidT_get {h : Heap} {H : Hp} {b : Addr} {o : Obj} (e : h.get? b = some o) (n : H b = none) : (hidT h H).get? b = some o :=
  PySem.W.hideAll_get _ e fun hm => by
    have q : (H b).isSome = true := (List.mem_filter.mp hm).2
    rw [n] at q; simp at q
theorem of_hidT {h : Heap} {H : Hp} {b : Addr} {o : Obj} (e : (hidT h H).get? b = some o) : h.get? b = some o ∧ H b = none := by
  have e' : h.get? b = some o := PySem.W.of_hideAll (trk h H) e
  refine ⟨e', ?_⟩
  cases q : H b with
  | none => rfl
  | some x =>
    have hm : b ∈ trk h H := List.mem_filter.mpr ⟨List.mem_range.mpr (Heap.lt_size e'), by simp [q]⟩
    have z : (hidT h H).get? b = none := PySem.W.hideAll_none (trk h H) hm
    rw [z] at e; cases e

/-! ### OpenK's ledger, filled with every new object but one -/
noncomputable def allNews (g h : Heap) (L : Addr) : List (Addr × Obj) := (List.range h.objs.size).filterMap fun a => if a = L ∨ (g.get? a).isSome = true then none else (h.get? a).map fun o => (a, o)
noncomputable def rest (g h : Heap) (L d : Addr) : List (Addr × Obj) := (allNews g h L).filter fun p => decide (p.1 ≠ d)
end L2

namespace L2
open PySem PySem.Spec PyProof.Rows

/-- the module's facts, over the base: the heap at the law's entry without what is tracked there -/
structure Mod (K : PySem.W.Frag) (mg : Str → Option Value) (base : Heap) : Prop where
  kin : K.In base
  glob : base.Ns mainGlobals mg
  blt : ∃ mb, base.Ns builtinsNs mb ∧ ∀ x : Str, x ≠ "__name__" → mb x = bootBuiltins x
  nolimit : base.NoLimit

/-- the context: a def's body (or a comprehension's block) running. base: fixed through the whole law; s₀, H₀: the entry; outer: the frames whose slots others may change (a def's callers); stack: all frames that run;
   ex: iterators that were made ahead of the entry and are walked here (a comprehension's); fn: the names whose cells were made at the entry (a def: all; a comprehension's block: its own); calm: not within an except suite; pn: pins that every state bears; xe: what is wanted of an exception that leaves the code -/
structure Cx where
  prog : Program
  w : World
  K : PySem.W.Frag
  mg : Str → Option Value
  base : Heap
  A : Around
  N : List Str
  s₀ : Shared
  H₀ : Hp
  env : Env
  outer : List Env
  stack : List Env
  ex : List Addr
  fn : Str → Bool
  calm : Bool
  pn : List (Addr × Obj)
  xe : Value → Shared → Prop
/-- the callers' frames -/
noncomputable def frs (l : List Env) : List Addr := l.filterMap (·.frame)
noncomputable abbrev Cx.fs (X : Cx) : List Addr := frs X.outer

noncomputable def Vis (sc : Scope) (x : Str) : Prop := sc.names.lookup x = some .local ∨ sc.names.lookup x = some .cell ∨ sc.names.lookup x = some .free
noncomputable def Loc (sc : Scope) (x : Str) : Prop := sc.names.lookup x = some .local ∨ sc.names.lookup x = some .cell
noncomputable def Look (env : Env) (h : Heap) (m : Str → Option Value) (x : Str) (u : Value) : Prop :=
  (env.kindOf x = some .local ∧ m x = some u) ∨ ((env.kindOf x = some .cell ∨ env.kindOf x = some .free) ∧ ∃ c, env.cells.lookup x = some c ∧ h.IsCell c (some u))

structure Cx.Ok (X : Cx) : Prop where
  mod : Mod X.K X.mg X.base
  kind : X.env.scope.kind = .function
  glob : X.env.globals = mainGlobals
  blt : X.env.builtins = builtinsNs
  above : X.s₀.heap.objs.size ≤ X.env.locals
  inj : ∀ x y c, X.env.cells.lookup x = some c → X.env.cells.lookup y = some c → x = y
  has : ∀ x, (X.env.kindOf x = some .cell ∨ X.env.kindOf x = some .free) → ∃ c, X.env.cells.lookup x = some c
  cab : ∀ x c, X.fn x = true → X.env.cells.lookup x = some c → X.s₀.heap.objs.size ≤ c
  hd : X.calm = true → X.A.handled = none
  frames : X.A.frames = some X.stack
  stk : X.stack = X.outer ∨ (X.stack = X.env :: X.outer ∧ X.env.frame = some X.env.locals)
  exf : ∀ b ∈ X.ex, b ≠ X.env.locals ∧ ∀ x c, X.env.cells.lookup x = some c → c ≠ b
  bs : ∀ b o, X.base.get? b = some o → X.s₀.heap.get? b = some o ∧ X.H₀ b = none
  bsz : X.base.objs.size ≤ X.s₀.heap.objs.size
  noex : ∀ b o, X.base.get? b = some o → b ∉ X.ex
  exfs : ∀ b ∈ X.ex, b ∉ X.fs
  funs : X.s₀.heap.FunFrames X.base X.outer
  frf : ∀ b ∈ X.fs, X.H₀ b = none

structure Inv (X : Cx) (pins : List (Addr × Obj)) (σ : List (Option V)) (H : Hp) (s : Shared) : Prop where
  ok : X.Ok
  os : s.os = X.s₀.os
  bare : AllBare s.gens
  base : Un X.fs X.ex X.H₀ H X.s₀.heap s.heap
  loc : ∃ m, s.heap.Ns X.env.locals m ∧ ∀ (i : Nat) (x : Str) (v : V), X.N[i]? = some x → σ[i]? = some (some v) → Vis X.env.scope x → ∃ u, RelV v u ∧ Look X.env s.heap m x u
  cell : ∀ x c, X.env.cells.lookup x = some c → ∃ v, s.heap.IsCell c v
  free : H X.env.locals = none
  freeC : ∀ x c, X.env.cells.lookup x = some c → H c = none
  pin : ∀ p ∈ X.pn ++ pins, s.heap.get? p.1 = some p.2 ∧ H p.1 = none ∧ p.1 ≠ X.env.locals ∧ p.1 ∉ X.fs ∧ ∀ v, p.2.data ≠ .cell v
  hok : HOk X.prog X.w H s.heap
  len : σ.length = X.N.length

section
variable {X : Cx} {pins : List (Addr × Obj)} {σ : List (Option V)} {H H' : Hp} {s : Shared} {h' : Heap}

theorem Cx.Ok.nofr (ok : X.Ok) {b : Addr} {o : Obj} (e : X.base.get? b = some o) : b ∉ X.fs := fun hb => by
  have := (ok.funs.mem hb).1
  rw [e] at this; cases this
theorem Inv.bs (I : Inv X pins σ H s) : ∀ b o, X.base.get? b = some o → s.heap.get? b = some o ∧ H b = none := fun b o e =>
  ⟨I.base.keep b o (I.ok.bs b o e).1 (I.ok.bs b o e).2 (I.ok.nofr e) (I.ok.noex b o e), I.base.free b o (I.ok.bs b o e).1 (I.ok.bs b o e).2 (I.ok.noex b o e)⟩
theorem Inv.bk (I : Inv X pins σ H s) : ∀ b o, X.base.get? b = some o → s.heap.get? b = some o := fun b o e => (I.bs b o e).1
theorem Inv.mod (I : Inv X pins σ H s) : Mod X.K X.mg X.base := I.ok.mod
theorem Inv.kIn (I : Inv X pins σ H s) : X.K.In s.heap := I.ok.mod.kin.keeps I.bk
theorem Inv.lt (I : Inv X pins σ H s) : X.env.locals < s.heap.objs.size := let ⟨_, hn, _⟩ := I.loc; hn.lt
theorem Inv.sz (I : Inv X pins σ H s) : X.s₀.heap.objs.size ≤ s.heap.objs.size := Nat.le_trans I.ok.above (Nat.le_of_lt I.lt)
theorem Inv.nofs (I : Inv X pins σ H s) {a : Addr} (h : s.heap.objs.size ≤ a) : a ∉ X.fs := fun hb => by
  obtain ⟨_, o, ho, _⟩ := I.ok.funs.mem hb
  exact absurd (Nat.lt_of_lt_of_le (Heap.lt_size ho) (Nat.le_trans I.sz h)) (Nat.lt_irrefl _)
theorem Inv.cne (I : Inv X pins σ H s) : ∀ x c, X.env.cells.lookup x = some c → c ≠ X.env.locals := fun x c e z => by
  obtain ⟨v, o, ho, hd⟩ := I.cell x c e
  obtain ⟨m, ⟨o', es, ep, ho', hd', _⟩, _⟩ := I.loc
  rw [z, ho'] at ho; cases ho; rw [hd'] at hd; cases hd
theorem Inv.funs (I : Inv X pins σ H s) : s.heap.FunFrames X.base X.outer := by
  have all : ∀ (l : List Env), (∀ b ∈ frs l, b ∈ X.fs) → X.s₀.heap.FunFrames X.base l → s.heap.FunFrames X.base l := by
    intro l
    induction l with
    | nil => intro _ _; trivial
    | cons env r ih =>
      intro hs hl
      obtain ⟨hk, ⟨L, o, hf, hn, ho, hd⟩, hr⟩ := hl
      have hL : L ∈ X.fs := hs L (by unfold frs; rw [List.filterMap_cons, hf]; exact List.mem_cons_self)
      obtain ⟨sl, e⟩ := I.base.slot L o ho (I.ok.frf L hL) hL fun z => I.ok.exfs L z hL
      exact ⟨hk, ⟨L, _, hf, hn, e, hd⟩, ih (fun b hb => hs b (by unfold frs; rw [List.filterMap_cons, hf]; exact List.mem_cons_of_mem _ hb)) hr⟩
  exact all X.outer (fun _ hb => hb) I.ok.funs

/-- the frames that run, for a call -/
theorem Inv.stack (I : Inv X pins σ H s) : s.heap.FunFrames X.base X.stack := by
  rcases I.ok.stk with e | ⟨e, hf⟩
  · rw [e]; exact I.funs
  · rw [e]
    obtain ⟨m, hn, _⟩ := I.loc
    refine .cons (by rw [I.ok.kind]; decide) hf hn ?_ I.funs
    exact Heap.get?_none_of_le (Nat.le_trans I.ok.bsz I.ok.above)
theorem Inv.stkSub (I : Inv X pins σ H s) : ∀ b ∈ frs X.stack, b ∈ X.env.locals :: X.fs := fun b hb => by
  rcases I.ok.stk with e | ⟨e, hf⟩
  · rw [e] at hb; exact List.mem_cons_of_mem _ hb
  · rw [e] at hb
    unfold frs at hb
    rw [List.filterMap_cons, hf] at hb
    exact hb
theorem Inv.stkFree (I : Inv X pins σ H s) : ∀ b ∈ frs X.stack, H b = none := fun b hb => by
  rcases List.mem_cons.mp (I.stkSub b hb) with e | hb
  · rw [e]; exact I.free
  · obtain ⟨_, o, ho, _⟩ := I.ok.funs.mem hb
    exact I.base.free b o ho (I.ok.frf b hb) fun z => I.ok.exfs b z hb

/-- THE STEP: the untracked objects but the frame and the records at ch are kept (the callers' frames up to slots), the frame's map is kept, the new abstract heap is held -/
theorem Inv.step {g' : Array GenState} {t' : Nat} {d' : Drawn} {ch : List Addr} (I : Inv X pins σ H s)
    (hch : ∀ b ∈ ch, (b ∈ X.ex ∨ X.s₀.heap.objs.size ≤ b) ∧ b ≠ X.env.locals ∧ (∀ x c, X.env.cells.lookup x = some c → c ≠ b) ∧ ∀ p ∈ X.pn ++ pins, p.1 ≠ b)
    (keep : ∀ b o, b ≠ X.env.locals → b ∉ X.fs → b ∉ ch → s.heap.get? b = some o → H b = none → h'.get? b = some o)
    (slot : ∀ b o, b ≠ X.env.locals → b ∈ X.fs → b ∉ ch → s.heap.get? b = some o → H b = none → ∃ sl, h'.get? b = some { o with slots := sl }) (free : ∀ b o, b ∉ ch → s.heap.get? b = some o → H b = none → H' b = none)
    (there : ∀ b o, b ∉ ch → s.heap.get? b = some o → ∃ o', h'.get? b = some o')
    (tups : ∀ b xs, H b = some (.tup xs) → H' b = some (.tup xs)) (frzs : ∀ b o u, H b = some (.frz o u) → H' b = some (.frz o u)) (tbls : ∀ b ps, H b = some (.tbl ps) → ∃ more, H' b = some (.tbl (ps ++ more)))
    (ns : ∀ m, s.heap.Ns X.env.locals m → h'.Ns X.env.locals m) (hok : HOk X.prog X.w H' h') (hg : AllBare g') :
    Inv X pins σ H' { s with heap := h', gens := g', drawn := d', toks := t' } := by
  have neL : ∀ b o, X.s₀.heap.get? b = some o → b ≠ X.env.locals := fun b o e => Nat.ne_of_lt (Nat.lt_of_lt_of_le (Heap.lt_size e) I.ok.above)
  have neC : ∀ b o, X.s₀.heap.get? b = some o → b ∉ X.ex → b ∉ ch := fun b o e hx hb => by
    rcases (hch b hb).1 with z | z
    · exact hx z
    · exact absurd (Nat.lt_of_lt_of_le (Heap.lt_size e) z) (Nat.lt_irrefl _)
  have cellK : ∀ x c, X.env.cells.lookup x = some c → ∀ v, s.heap.IsCell c v → h'.IsCell c v := fun x c e v ⟨o, ho, hd⟩ => by
    have nch : c ∉ ch := fun z => (hch c z).2.2.1 x c e rfl
    by_cases hc : c ∈ X.fs
    · obtain ⟨sl, q⟩ := slot c o (I.cne x c e) hc nch ho (I.freeC x c e)
      exact ⟨_, q, hd⟩
    · exact ⟨o, keep c o (I.cne x c e) hc nch ho (I.freeC x c e), hd⟩
  refine ⟨I.ok, I.os, hg, ⟨fun b o e n hb hx => ?_, fun b o e n hb hx => ?_, fun b o e n hx => ?_, fun b o e hx => ?_, fun b xs e => tups b xs (I.base.tups b xs e), fun b o xs e => frzs b o xs (I.base.frzs b o xs e), fun b ps e => ?_⟩, ?_, fun x c e => ?_, ?_, fun x c e => ?_, fun p hp => ?_, hok, I.len⟩
  · exact keep b o (neL b o e) hb (neC b o e hx) (I.base.keep b o e n hb hx) (I.base.free b o e n hx)
  · obtain ⟨sl, e1⟩ := I.base.slot b o e n hb hx
    obtain ⟨sl', e2⟩ := slot b _ (neL b o e) hb (neC b o e hx) e1 (I.base.free b o e n hx)
    exact ⟨sl', e2⟩
  · obtain ⟨o', e1⟩ := I.base.there b o e hx
    exact free b o' (neC b o e hx) e1 (I.base.free b o e n hx)
  · obtain ⟨o', e1⟩ := I.base.there b o e hx
    exact there b o' (neC b o e hx) e1
  · obtain ⟨m1, e1⟩ := I.base.tbls b ps e
    obtain ⟨m2, e2⟩ := tbls b _ e1
    exact ⟨m1 ++ m2, by rw [e2, Array.append_assoc]⟩
  · obtain ⟨m, hn, hl⟩ := I.loc
    refine ⟨m, ns m hn, fun i x v e1 e2 e3 => ?_⟩
    obtain ⟨u, r, l⟩ := hl i x v e1 e2 e3
    refine ⟨u, r, ?_⟩
    rcases l with l | ⟨k, c, e, z⟩
    · exact .inl l
    · exact .inr ⟨k, c, e, cellK x c e _ z⟩
  · obtain ⟨v, z⟩ := I.cell x c e
    exact ⟨v, cellK x c e v z⟩
  · obtain ⟨m, ⟨o, _, _, ho, _⟩, _⟩ := I.loc
    exact free _ o (fun z => (hch _ z).2.1 rfl) ho I.free
  · obtain ⟨v, o, ho, hd⟩ := I.cell x c e
    exact free c o (fun z => (hch c z).2.2.1 x c e rfl) ho (I.freeC x c e)
  · obtain ⟨e, n, ne, nf, d⟩ := I.pin p hp
    have nch : p.1 ∉ ch := fun z => (hch p.1 z).2.2.2 p hp rfl
    exact ⟨keep p.1 p.2 ne nf nch e n, free p.1 p.2 nch e n, ne, nf, d⟩
/-- .. where the frame's own object is kept too -/
theorem Inv.un {t' : Nat} (I : Inv X pins σ H s) (u : Un X.fs [] H H' s.heap h') (hok : HOk X.prog X.w H' h') : Inv X pins σ H' { s with heap := h', toks := t' } := by
  obtain ⟨m, ⟨o, es, ep, ho, r⟩, _⟩ := id I.loc
  obtain ⟨sl, hL⟩ := u.any ho I.free (by simp)
  exact I.step (g' := s.gens) (d' := s.drawn) (ch := []) (fun _ z => nomatch z) (fun b o _ hb _ e n => u.keep b o e n hb (by simp)) (fun b o _ hb _ e n => u.slot b o e n hb (by simp)) (fun b o _ e n => u.free b o e n (by simp)) (fun b o _ e => u.there b o e (by simp)) u.tups u.frzs u.tbls (fun m' hm => by
    obtain ⟨o', es', ep', ho', r'⟩ := hm
    rw [ho] at ho'; cases ho'
    exact ⟨_, es', ep', hL, r'⟩) hok I.bare
/-- behind a call (or a comprehension's block): the slots of this frame may have changed too, the records at ch may have turned -/
theorem Inv.call {g' : Array GenState} {t' : Nat} {d' : Drawn} {ch : List Addr} (I : Inv X pins σ H s) (u : Un (frs X.stack) ch H H' s.heap h') (hok : HOk X.prog X.w H' h') (hg : AllBare g')
    (hch : ∀ b ∈ ch, (b ∈ X.ex ∨ X.s₀.heap.objs.size ≤ b) ∧ b ≠ X.env.locals ∧ (∀ x c, X.env.cells.lookup x = some c → c ≠ b) ∧ ∀ p ∈ X.pn ++ pins, p.1 ≠ b) :
    Inv X pins σ H' { s with heap := h', gens := g', drawn := d', toks := t' } := by
  obtain ⟨m, ⟨o, es, ep, ho, r⟩, _⟩ := id I.loc
  obtain ⟨sl, hL⟩ := u.any ho I.free fun z => (hch _ z).2.1 rfl
  exact I.step (ch := ch) hch (fun b o hL hb hc e n => u.keep b o e n (fun z => (List.mem_cons.mp (I.stkSub b z)).elim hL hb) hc) (fun b o _ _ hc e n => u.any e n hc) (fun b o hc e n => u.free b o e n hc) (fun b o hc e => u.there b o e hc) u.tups u.frzs u.tbls (fun m' hm => by
    obtain ⟨o', es', ep', ho', r'⟩ := hm
    rw [ho] at ho'; cases ho'
    exact ⟨_, es', ep', hL, r'⟩) hok hg
/-- an untracked record of ours (an iterator) has turned -/
theorem Inv.turned {t' : Nat} {it : Addr} (I : Inv X pins σ H s) (k : ∀ b o, b ≠ it → s.heap.get? b = some o → h'.get? b = some o) (hn : H it = none) (hL : it ≠ X.env.locals)
    (h1 : it ∈ X.ex ∨ X.s₀.heap.objs.size ≤ it) (h2 : ∀ x c, X.env.cells.lookup x = some c → c ≠ it) (h3 : ∀ p ∈ X.pn ++ pins, p.1 ≠ it) : Inv X pins σ H { s with heap := h', toks := t' } := by
  have nit : ∀ b u, H b = some u → b ≠ it := fun b u e z => by rw [z, hn] at e; cases e
  refine I.step (g' := s.gens) (d' := s.drawn) (ch := [it]) (fun b hb => ?_) (fun b o _ _ hc e _ => k b o (fun z => hc (by simp [z])) e) (fun b o _ _ hc e _ => ⟨o.slots, k b o (fun z => hc (by simp [z])) e⟩) (fun _ _ _ _ n => n)
    (fun b o hc e => ⟨o, k b o (fun z => hc (by simp [z])) e⟩) (fun _ _ e => e) (fun _ _ _ e => e) (fun b ps e => ⟨#[], by rw [e]; simp⟩) (fun m hm => ?_) (fun b u e => ?_) I.bare
  · have e : b = it := by simpa using hb
    subst e
    exact ⟨h1, hL, h2, h3⟩
  · obtain ⟨o, es, ep, ho, r⟩ := hm
    exact ⟨o, es, ep, k _ o (Ne.symm hL) ho, r⟩
  · refine (I.hok b u e).stay (fun c v hc q => k c v ?_ q) (fun _ q => q) fun _ _ q => q
    rcases hc with z | z
    · rw [z]; exact nit b u e
    · exact nit c _ z
theorem Inv.tok (I : Inv X pins σ H s) (t : Nat) : Inv X pins σ H { s with toks := t } := I.un (h' := s.heap) (t' := t) Un.refl I.hok
/-- all objects kept -/
theorem Inv.kept {t' : Nat} (I : Inv X pins σ H s) (k : ∀ b u, s.heap.get? b = some u → h'.get? b = some u) : Inv X pins σ H { s with heap := h', toks := t' } := I.un (Un.kept k) (I.hok.kept k)
/-- a new object laid and tracked -/
theorem Inv.laid {a : Addr} {o : HO} {t' : Nat} (I : Inv X pins σ H s) (k : ∀ b u, s.heap.get? b = some u → h'.get? b = some u) (hp : s.heap.objs.size ≤ a) (new : ObjOk X.prog X.w (upd H a o) h' a o) :
    Inv X pins σ (upd H a o) { s with heap := h', toks := t' } := I.un (Un.laid k hp (I.hok.fresh hp)) (I.hok.laid k hp new)
/-- an object written -/
theorem Inv.write {x e : Addr} {o : HO} {t' : Nat} (I : Inv X pins σ H s) (mu : Mut (H x)) (he : e = x ∨ H e = some (.own x)) (k : ∀ b u, b ≠ e → s.heap.get? b = some u → h'.get? b = some u) (heo : ∃ u, h'.get? e = some u)
    (new : ObjOk X.prog X.w (upd H x o) h' x o) : Inv X pins σ (upd H x o) { s with heap := h', toks := t' } := I.un (Un.write mu he k heo) (I.hok.write mu he k heo new)
theorem Inv.pins_of {pins' : List (Addr × Obj)} (I : Inv X pins σ H s) (h : ∀ p ∈ pins', s.heap.get? p.1 = some p.2 ∧ H p.1 = none ∧ p.1 ≠ X.env.locals ∧ p.1 ∉ X.fs ∧ ∀ v, p.2.data ≠ .cell v) : Inv X pins' σ H s :=
  ⟨I.ok, I.os, I.bare, I.base, I.loc, I.cell, I.free, I.freeC, fun p hp => (List.mem_append.mp hp).elim (fun z => I.pin p (List.mem_append_left _ z)) (h p), I.hok, I.len⟩

theorem nodup_ix {N : List Str} (hN : N.Nodup) {i j : Nat} {x : Str} (a : N[i]? = some x) (b : N[j]? = some x) : i = j := by
  obtain ⟨h1, e1⟩ := List.getElem?_eq_some_iff.mp a
  obtain ⟨h2, e2⟩ := List.getElem?_eq_some_iff.mp b
  exact (List.getElem_inj hN).mp (e1.trans e2.symm)

/-- a name is stored; what changed -/
theorem store_ok2 {M : Model} {A : Around} {E : Value → Shared → Prop} {i : Nat} {x : Str} {v : V} {u : Value} {Q : Unit → Shared → Prop} (I : Inv X pins σ H s) (hN : X.N.Nodup) (hi : X.N[i]? = some x) (hx : Loc X.env.scope x) (r : RelV v u)
    (h : ∀ s', Inv X pins (σ.set i (some v)) H s' → (∃ a, Heap.SameBut a s.heap s'.heap ∧ (a = X.env.locals ∨ X.env.cells.lookup x = some a)) → Q () s') (hf : X.fn x = true ∨ X.env.scope.names.lookup x = some .local := by first | exact .inl rfl | exact .inr rfl | assumption) : wpAny M A (storeName X.env x u) Q E s := by
  obtain ⟨m, hn, hl⟩ := id I.loc
  have hcls : (X.env.scope.kind == .class || (X.env.scope.kind == .module && X.env.locals != X.env.globals)) = false := by rw [I.ok.kind]; rfl
  have hiσ : i < σ.length := by rw [I.len]; exact (List.getElem?_eq_some_iff.mp hi).1
  have cne := I.cne
  have tracked : ∀ {a : Addr} {h' : Heap}, (∃ o, s.heap.get? a = some o ∧ H a = none) → Heap.SameBut a s.heap h' → HOk X.prog X.w H h' := fun {a h'} ha hs b ob e => by
    obtain ⟨_, _, hfree⟩ := ha
    refine (I.hok b ob e).stay (fun c w' hc q => (hs.2 c ?_).trans q) (fun _ q => q) fun _ _ q => q
    rintro rfl
    rcases hc with rfl | hc
    · rw [hfree] at e; cases e
    · rw [hfree] at hc; cases hc
  rcases hx with hk | hk
  · refine wpAny_storeName_local hk hn (fun h' hn' hs => ?_) hcls
    obtain ⟨oL, _, _, hoL, _⟩ := id hn
    refine h _ ⟨I.ok, I.os, I.bare, ⟨fun b o e n hb hx => ?_, fun b o e n hb hx => ?_, I.base.free, fun b o e hx => ?_, I.base.tups, I.base.frzs, I.base.tbls⟩, ⟨_, hn', fun j y v' e1 e2 e3 => ?_⟩, fun y c e => ?_, I.free, I.freeC, fun p hp => ?_, tracked ⟨oL, hoL, I.free⟩ hs, by simpa using I.len⟩ ⟨_, hs, .inl rfl⟩
    · exact (hs.2 b (Nat.ne_of_lt (Nat.lt_of_lt_of_le (Heap.lt_size e) I.ok.above))).trans (I.base.keep b o e n hb hx)
    · obtain ⟨sl, e1⟩ := I.base.slot b o e n hb hx
      exact ⟨sl, (hs.2 b (Nat.ne_of_lt (Nat.lt_of_lt_of_le (Heap.lt_size e) I.ok.above))).trans e1⟩
    · obtain ⟨o', e1⟩ := I.base.there b o e hx
      exact ⟨o', (hs.2 b (Nat.ne_of_lt (Nat.lt_of_lt_of_le (Heap.lt_size e) I.ok.above))).trans e1⟩
    · by_cases hj : j = i
      · subst hj
        rw [hi] at e1; cases e1
        rw [List.getElem?_set_self hiσ] at e2
        cases e2
        exact ⟨u, r, .inl ⟨hk, by simp⟩⟩
      · rw [List.getElem?_set_ne (Ne.symm hj)] at e2
        obtain ⟨u', r', q⟩ := hl j y v' e1 e2 e3
        refine ⟨u', r', ?_⟩
        rcases q with ⟨k, e⟩ | ⟨k, c, e, z⟩
        · refine .inl ⟨k, ?_⟩
          have : y ≠ x := fun e => hj (nodup_ix hN e1 (e ▸ hi))
          simp [this, e]
        · exact .inr ⟨k, c, e, z.sameBut hs (cne y c e)⟩
    · obtain ⟨w', z⟩ := I.cell y c e
      exact ⟨w', z.sameBut hs (cne y c e)⟩
    · obtain ⟨e, n, ne, nf, d⟩ := I.pin p hp
      exact ⟨(hs.2 p.1 ne).trans e, n, ne, nf, d⟩
  · have hfn : X.fn x = true := by
      rcases hf with z | z
      · exact z
      · rw [z] at hk; cases hk
    obtain ⟨c, hc⟩ := I.ok.has x (.inl hk)
    obtain ⟨w', z⟩ := I.cell x c hc
    refine wpAny_storeName_cell I.ok.kind hk hc z (fun h' hc' hs => ?_)
    obtain ⟨oc, hoc, hocd⟩ := id z
    refine h { s with heap := h' } ⟨I.ok, I.os, I.bare, ⟨fun b o e n hb hx => ?_, fun b o e n hb hx => ?_, I.base.free, fun b o e hx => ?_, I.base.tups, I.base.frzs, I.base.tbls⟩, ⟨m, hn.sameBut hs (Ne.symm (cne x c hc)), fun j y v' e1 e2 e3 => ?_⟩, fun y c' e => ?_, I.free, I.freeC, fun p hp => ?_, tracked ⟨oc, hoc, I.freeC x c hc⟩ hs, by simpa using I.len⟩ ⟨c, hs, .inr hc⟩
    · exact (hs.2 b (Nat.ne_of_lt (Nat.lt_of_lt_of_le (Heap.lt_size e) (I.ok.cab x c hfn hc)))).trans (I.base.keep b o e n hb hx)
    · obtain ⟨sl, e1⟩ := I.base.slot b o e n hb hx
      exact ⟨sl, (hs.2 b (Nat.ne_of_lt (Nat.lt_of_lt_of_le (Heap.lt_size e) (I.ok.cab x c hfn hc)))).trans e1⟩
    · obtain ⟨o', e1⟩ := I.base.there b o e hx
      exact ⟨o', (hs.2 b (Nat.ne_of_lt (Nat.lt_of_lt_of_le (Heap.lt_size e) (I.ok.cab x c hfn hc)))).trans e1⟩
    · by_cases hj : j = i
      · subst hj
        rw [hi] at e1; cases e1
        rw [List.getElem?_set_self hiσ] at e2
        cases e2
        exact ⟨u, r, .inr ⟨.inl hk, c, hc, hc'⟩⟩
      · rw [List.getElem?_set_ne (Ne.symm hj)] at e2
        obtain ⟨u', r', q⟩ := hl j y v' e1 e2 e3
        refine ⟨u', r', ?_⟩
        rcases q with q | ⟨k, c', e, z'⟩
        · exact .inl q
        · refine .inr ⟨k, c', e, z'.sameBut hs ?_⟩
          rintro rfl
          exact hj (nodup_ix hN e1 (I.ok.inj _ _ _ e hc ▸ hi))
    · by_cases hcc : c' = c
      · subst hcc; exact ⟨_, hc'⟩
      · obtain ⟨w2, z2⟩ := I.cell y c' e
        exact ⟨w2, z2.sameBut hs hcc⟩
    · obtain ⟨e, n, ne, nf, d⟩ := I.pin p hp
      refine ⟨(hs.2 p.1 ?_).trans e, n, ne, nf, d⟩
      intro q
      rw [q, hoc] at e
      have q' : oc = p.2 := Option.some.inj e
      exact d w' (by rw [← q']; exact hocd)
theorem store_ok {M : Model} {A : Around} {E : Value → Shared → Prop} {i : Nat} {x : Str} {v : V} {u : Value} {Q : Unit → Shared → Prop} (I : Inv X pins σ H s) (hN : X.N.Nodup) (hi : X.N[i]? = some x) (hx : Loc X.env.scope x) (r : RelV v u)
    (h : ∀ s', Inv X pins (σ.set i (some v)) H s' → Q () s') (hf : X.fn x = true ∨ X.env.scope.names.lookup x = some .local := by first | exact .inl rfl | exact .inr rfl | assumption) : wpAny M A (storeName X.env x u) Q E s :=
  store_ok2 I hN hi hx r (fun s' I' _ => h s' I') hf
/-- behind a call or a block, the state as it is -/
theorem Inv.call' {s' : Shared} {ch : List Addr} (I : Inv X pins σ H s) (ho : s'.os = s.os) (u : Un (frs X.stack) ch H H' s.heap s'.heap) (hok : HOk X.prog X.w H' s'.heap) (hg : AllBare s'.gens)
    (hch : ∀ b ∈ ch, (b ∈ X.ex ∨ X.s₀.heap.objs.size ≤ b) ∧ b ≠ X.env.locals ∧ (∀ x c, X.env.cells.lookup x = some c → c ≠ b) ∧ ∀ p ∈ X.pn ++ pins, p.1 ≠ b) : Inv X pins σ H' s' := by
  obtain ⟨h', g', d', t', o'⟩ := s'
  have e : o' = s.os := ho
  subst e
  exact I.call (g' := g') (t' := t') (d' := d') u hok hg hch
end

/-! ### the judgements -/
/-- an exception: its class, its own dict's address (where it has one), the abstract heap behind it -/
noncomputable abbrev XK := Value → Option Addr → Hp → Prop
noncomputable abbrev St := List (Option V)
noncomputable abbrev VK := V → Hp → Prop
/-- an expression's reading; a test's; an argument list's -/
noncomputable abbrev TE := St → Hp → VK → Prop
noncomputable abbrev TT := St → Hp → (Bool → Hp → Prop) → Prop
noncomputable abbrev TA := St → Hp → (List V → Hp → Prop) → Prop
/-- what is wanted behind a statement -/
structure Ends where
  nx : St → Hp → Prop
  rt : VK
  bk : St → Hp → Prop := fun _ _ => False
  ct : St → Hp → Prop := fun _ _ => False
noncomputable abbrev TS := Ends → St → Hp → Prop

noncomputable def EP (X : Cx) (pins : List (Addr × Obj)) (σ : St) (Q : VK) (u : Value) (s' : Shared) : Prop := ∃ v H', Inv X pins σ H' s' ∧ RelV v u ∧ Q v H'
noncomputable def TP (X : Cx) (pins : List (Addr × Obj)) (σ : St) (Q : Bool → Hp → Prop) (b : Bool) (s' : Shared) : Prop := ∃ H', Inv X pins σ H' s' ∧ Q b H'
noncomputable def AP (X : Cx) (pins : List (Addr × Obj)) (σ : St) (Q : List V → Hp → Prop) (us : List Value) (s' : Shared) : Prop := ∃ vs H', Inv X pins σ H' s' ∧ Vals vs us ∧ Q vs H'
noncomputable def SP (X : Cx) (pins : List (Addr × Obj)) (D : Ends) (f : Flow) (s' : Shared) : Prop :=
  match f with
  | .next => ∃ σ' H', Inv X pins σ' H' s' ∧ D.nx σ' H'
  | .brk => ∃ σ' H', Inv X pins σ' H' s' ∧ D.bk σ' H'
  | .cont => ∃ σ' H', Inv X pins σ' H' s' ∧ D.ct σ' H'
  | .ret u => ∃ v σ' H', Inv X pins σ' H' s' ∧ RelV v u ∧ D.rt v H'

noncomputable def PE (X : Cx) (e : Expr) (t : TE) : Prop :=
  ∀ (pins : List (Addr × Obj)) (s : Shared) (σ : St) (H : Hp) (Q : VK), Inv X pins σ H s → t σ H Q → wpAny (model X.prog X.w) X.A (eval e X.env) (EP X pins σ Q) X.xe s
noncomputable def PT (X : Cx) (e : Expr) (t : TT) : Prop :=
  ∀ (pins : List (Addr × Obj)) (s : Shared) (σ : St) (H : Hp) (Q : Bool → Hp → Prop), Inv X pins σ H s → t σ H Q → wpAny (model X.prog X.w) X.A (isTrue e X.env (eval e X.env)) (TP X pins σ Q) X.xe s
/-- a test whatever its 'whole' is (and, or) -/
noncomputable def PW (X : Cx) (e : Expr) (t : TT) : Prop :=
  ∀ (whole : Sem Value) (pins : List (Addr × Obj)) (s : Shared) (σ : St) (H : Hp) (Q : Bool → Hp → Prop), Inv X pins σ H s → t σ H Q → wpAny (model X.prog X.w) X.A (isTrue e X.env whole) (TP X pins σ Q) X.xe s
theorem PW.pt {X : Cx} {e : Expr} {t : TT} (h : PW X e t) : PT X e t := h _
/-- an argument list (no star), from the left -/
noncomputable def PA (X : Cx) (es : List Expr) (t : TA) : Prop :=
  ∀ (pos : Pos) (pins : List (Addr × Obj)) (s : Shared) (σ : St) (H : Hp) (Q : List V → Hp → Prop), Inv X pins σ H s → t σ H Q → wpAny (model X.prog X.w) X.A (spliced (backTo pos (starEach es X.env))) (AP X pins σ Q) X.xe s
noncomputable def PS (X : Cx) (st : Stmt) (t : TS) : Prop :=
  ∀ (pins : List (Addr × Obj)) (s : Shared) (σ : St) (H : Hp) (D : Ends), Inv X pins σ H s → t D σ H → wpAny (model X.prog X.w) X.A (exec st X.env) (SP X pins D) X.xe s
noncomputable def PSs (X : Cx) (st : List Stmt) (t : TS) : Prop :=
  ∀ (pins : List (Addr × Obj)) (s : Shared) (σ : St) (H : Hp) (D : Ends), Inv X pins σ H s → t D σ H → wpAny (model X.prog X.w) X.A (execs st X.env) (SP X pins D) X.xe s
/-- weaken the end -/
theorem thn {α : Type} {t : Sem α} {Q Q' : α → Shared → Prop} {M : Model} {A : Around} {E : Value → Shared → Prop} {s : Shared} (h : wpAny M A t Q E s) (hQ : ∀ a s, Q a s → Q' a s) : wpAny M A t Q' E s := wpAny_mono h hQ fun _ _ x => x
end L2

namespace L2
open PySem PySem.Spec PyProof.Rows
section
variable {X : Cx}

/-! ### names and constants -/
noncomputable def tVar (i : Nat) : TE := fun σ H Q => ∃ v, σ[i]? = some (some v) ∧ Q v H
noncomputable def tC (v : V) : TE := fun _ H Q => Q v H
theorem pe_var {i : Nat} {x : Str} {pos : Pos} (hN : X.N[i]? = some x) (hv : Vis X.env.scope x) (hd : (x == ("__debug__" : Str)) = false := by decide) (hcd : (x == ("__classdict__" : Str)) = false := by decide) : PE X (.Name x pos) (tVar i) := by
  intro pins s σ H Q I h
  obtain ⟨v, e, h⟩ := h
  obtain ⟨m, hn, hl⟩ := I.loc
  obtain ⟨u, r, l⟩ := hl i x v hN e hv
  have fin : EP X pins σ Q u s := ⟨v, H, I, r, h⟩
  rcases l with ⟨hk, hm⟩ | ⟨hk, c, hc, hcell⟩
  · exact wpAny_Name (wpAny_loadName_local I.ok.kind hk hn hm fin) hd
  · rcases hk with hk | hk
    · exact wpAny_Name (wpAny_loadName_cell I.ok.kind hk hc hcell fin) hd
    · exact wpAny_Name (wpAny_loadName_free I.ok.kind hk hc hcell fin hcd) hd
theorem pe_int {i j pos} : PE X (.Constant (.int i) j pos) (tC (.int i)) := fun _ _ _ H _ I h => wpAny_Constant_int ⟨.int i, H, I.tok _, ⟨_, rfl⟩, h⟩
theorem pe_bl {b j pos} : PE X (.Constant (.bool b) j pos) (tC (.bl b)) := fun _ _ _ H _ I h => Constant_bool ⟨.bl b, H, I, rfl, h⟩
theorem pe_non {j pos} : PE X (.Constant .none j pos) (tC .non) := fun _ _ _ H _ I h => Constant_none ⟨.non, H, I, rfl, h⟩
theorem pe_str {x j pos} : PE X (.Constant (.str x) j pos) (tC (.str x)) := fun _ _ _ H _ I h => Calls.Constant_str ⟨.str x, H, I.tok _, ⟨_, rfl⟩, h⟩

/-- a global name of the def -/
noncomputable def Gl (X : Cx) (x : Str) : Prop := X.env.kindOf x = some .globalImplicit
theorem ld_glob {E : Value → Shared → Prop} {pins : List (Addr × Obj)} {s : Shared} {σ : St} {H : Hp} {x : Str} {u : Value} {pos : Pos} {Q : Value → Shared → Prop} (I : Inv X pins σ H s) (hg : Gl X x) (hm : X.mg x = some u) (h : Q u s)
    (hd : (x == ("__debug__" : Str)) = false := by decide) : wpAny (model X.prog X.w) X.A (eval (.Name x pos) X.env) Q E s :=
  Calls.Name_function_global I.ok.kind hg (Calls.loadGlobal_global (by rw [I.ok.glob]; exact I.mod.glob.keeps I.bk) hm h) hd
theorem ld_blt {E : Value → Shared → Prop} {pins : List (Addr × Obj)} {s : Shared} {σ : St} {H : Hp} {x : Str} {u : Value} {pos : Pos} {Q : Value → Shared → Prop} (I : Inv X pins σ H s) (hg : Gl X x) (hm : X.mg x = none) (hv : bootBuiltins x = some u) (h : Q u s)
    (hn : x ≠ "__name__" := by decide) (hd : (x == ("__debug__" : Str)) = false := by decide) : wpAny (model X.prog X.w) X.A (eval (.Name x pos) X.env) Q E s := by
  obtain ⟨mb, h1, h2⟩ := I.mod.blt
  exact Calls.Name_function_global I.ok.kind hg (Calls.loadGlobal_builtin (by rw [I.ok.glob]; exact I.mod.glob.keeps I.bk) hm (by rw [I.ok.blt]; exact h1.keeps I.bk) ((h2 x hn).trans hv) h) hd
/-- a module's constant, a class, a function, as a value -/
theorem pe_glob {x : Str} {v : V} {u : Value} {pos : Pos} (hg : Gl X x) (hm : X.mg x = some u) (r : RelV v u) (hd : (x == ("__debug__" : Str)) = false := by decide) : PE X (.Name x pos) (tC v) :=
  fun _ _ _ H _ I h => ld_glob I hg hm ⟨v, H, I, r, h⟩ hd
theorem pe_bltn {x : Str} {v : V} {u : Value} {pos : Pos} (hg : Gl X x) (hm : X.mg x = none) (hv : bootBuiltins x = some u) (r : RelV v u) (hn : x ≠ "__name__" := by decide) (hd : (x == ("__debug__" : Str)) = false := by decide) : PE X (.Name x pos) (tC v) :=
  fun _ _ _ H _ I h => ld_blt I hg hm hv ⟨v, H, I, r, h⟩ hn hd

variable {a b : Expr} {ta tb : TE} {pos : Pos}
/-- a comparison as a value, as a test -/
noncomputable def tB (t : TE) : TT := fun σ H Q => t σ H fun x H1 => ∃ c, x = .bl c ∧ Q c H1
/-- an expression whose value is a bool, as a test -/
theorem pt_val {e : Expr} {t : TE} (h : PE X e t) (he : ∀ whole, isTrue e X.env whole = (do let v ← whole; standAt e.pos; holding [v] (truthy v)) := by intro _; rfl) : PT X e (tB t) := by
  intro pins s σ H Q I hw
  refine isTrue_plain (thn (h pins s σ H _ I hw) fun v s1 ⟨x, H1, I1, r1, q1⟩ => ?_) (he _)
  obtain ⟨d, rfl, q⟩ := q1
  cases r1
  exact wpAny_truthy_bool ⟨H1, I1, q⟩

/-! ### and, or, not -/
variable {tA tB' : TT} {rest : List Expr}
noncomputable def tAnd (t u : TT) : TT := fun σ H Q => t σ H fun c H1 => if c = true then u σ H1 Q else Q false H1
noncomputable def tOr (t u : TT) : TT := fun σ H Q => t σ H fun c H1 => if c = true then Q true H1 else u σ H1 Q
noncomputable def tNot (t : TT) : TT := fun σ H Q => t σ H fun c H1 => Q (!c) H1
theorem pw_and1 (ha : PT X a tA) : PW X (.BoolOp .And [a] pos) tA := by
  intro wh pins s σ H Q I h
  refine isTrue_and (thn (ha pins s σ H Q I h) fun c s1 e => ?_)
  cases c with
  | true => exact isTrue_and_nil e
  | false => exact e
theorem pw_or1 (ha : PT X a tA) : PW X (.BoolOp .Or [a] pos) tA := by
  intro wh pins s σ H Q I h
  refine isTrue_or (thn (ha pins s σ H Q I h) fun c s1 e => ?_)
  cases c with
  | false => exact isTrue_or_nil e
  | true => exact e
theorem pw_and (ha : PT X a tA) (hb : PW X (.BoolOp .And (b :: rest) pos) tB') : PW X (.BoolOp .And (a :: b :: rest) pos) (tAnd tA tB') := by
  intro wh pins s σ H Q I h
  refine isTrue_and (thn (ha pins s σ H _ I h) fun c s1 ⟨H1, I1, q1⟩ => ?_)
  cases c with
  | true => exact hb wh pins s1 σ H1 Q I1 q1
  | false => exact ⟨H1, I1, q1⟩
theorem pw_or (ha : PT X a tA) (hb : PW X (.BoolOp .Or (b :: rest) pos) tB') : PW X (.BoolOp .Or (a :: b :: rest) pos) (tOr tA tB') := by
  intro wh pins s σ H Q I h
  refine isTrue_or (thn (ha pins s σ H _ I h) fun c s1 ⟨H1, I1, q1⟩ => ?_)
  cases c with
  | true => exact ⟨H1, I1, q1⟩
  | false => exact hb wh pins s1 σ H1 Q I1 q1
theorem pt_not (ha : PT X a tA) : PT X (.UnaryOp .Not a pos) (tNot tA) := by
  intro pins s σ H Q I h
  exact isTrue_not (ha pins s σ H (fun c H1 => Q (!c) H1) I h)
/-- .. as values (bools) -/
noncomputable def tAndV (ta tb : TE) : TE := fun σ H Q => ta σ H fun x H1 => ∃ c, x = .bl c ∧ if c = true then tb σ H1 Q else Q (.bl false) H1
noncomputable def tNotV (ta : TE) : TE := fun σ H Q => ta σ H fun x H1 => ∃ c, x = .bl c ∧ Q (.bl (!c)) H1
theorem pe_one {op} {t : TE} (h : PE X a t) : PE X (.BoolOp op [a] pos) t := fun pins s σ H Q I hw => BoolOp_one (h pins s σ H Q I hw)
theorem pe_and (ha : PE X a ta) (hb : PE X (.BoolOp .And (b :: rest) pos) tb) : PE X (.BoolOp .And (a :: b :: rest) pos) (tAndV ta tb) := by
  intro pins s σ H Q I h
  refine BoolOp_and (thn (ha pins s σ H _ I h) fun v s1 ⟨x, H1, I1, r1, q1⟩ => ?_)
  obtain ⟨c, rfl, q1⟩ := q1
  cases r1
  refine wpAny_truthy_bool ?_
  cases c with
  | true => exact hb pins s1 σ H1 Q I1 q1
  | false => exact ⟨.bl false, H1, I1, rfl, q1⟩
theorem pe_not (ha : PE X a ta) : PE X (.UnaryOp .Not a pos) (tNotV ta) := by
  intro pins s σ H Q I h
  refine UnaryOp_ (thn (ha pins s σ H _ I h) fun v s1 ⟨x, H1, I1, r1, q1⟩ => ?_)
  obtain ⟨c, rfl, q1⟩ := q1
  cases r1
  exact not_of (wpAny_truthy_bool ⟨.bl (!c), H1, I1, rfl, q1⟩)
/-- a if t else b -/
noncomputable def tIf (t : TT) (ta tb : TE) : TE := fun σ H Q => t σ H fun c H1 => if c = true then ta σ H1 Q else tb σ H1 Q
theorem pe_ifExp {c : Expr} (hc : PT X c tA) (ha : PE X a ta) (hb : PE X b tb) : PE X (.IfExp c a b pos) (tIf tA ta tb) := by
  intro pins s σ H Q I h
  refine wpAny_IfExp (thn (hc pins s σ H _ I h) fun d s1 ⟨H1, I1, q1⟩ => ?_)
  cases d with
  | true => exact ha pins s1 σ H1 Q I1 q1
  | false => exact hb pins s1 σ H1 Q I1 q1
end
end L2

namespace L2
open PySem PySem.Spec PyProof.Rows

/-! ### a list, a tuple that is read: tracked, frozen, or an object of the module -/
noncomputable def SqL (K : PySem.W.Frag) (H : Hp) (a : Addr) (xs : List V) : Prop :=
  Rd H a (.lst xs) ∨
    ∃ (o : Obj) (its : Array Value) (n : Nat), K.lookup a = some o ∧ o.cls = .type "list" ∧ o.dict = none ∧ o.data = .seq its n ∧ its.size ≤ sizeLine ∧ Vals xs its.toList
noncomputable def SqT (K : PySem.W.Frag) (H : Hp) (a : Addr) (xs : List V) : Prop :=
  Rd H a (.tup xs) ∨
    ∃ (o : Obj) (its : Array Value) (n : Nat), K.lookup a = some o ∧ o.cls = .type "tuple" ∧ o.data = .seq its n ∧ its.size ≤ sizeLine ∧ Vals xs its.toList
noncomputable def absV : Value → Option V
  | .none => some .non
  | .bool b => some (.bl b)
  | .int i _ => some (.int i)
  | .str x _ => some (.str x)
  | .bytes b _ => some (.byt b)
  | .float b _ => some (.flt b)
  | .ref a => some (.ref a)
  | .type n => some (.ty n)
  | _ => none
theorem RelV.abs {x : V} {u : Value} (r : RelV x u) : absV u = some x := by
  cases x with
  | non => cases r; rfl
  | bl _ => cases r; rfl
  | int _ => obtain ⟨t, rfl⟩ := r; rfl
  | str _ => obtain ⟨t, rfl⟩ := r; rfl
  | byt _ => obtain ⟨t, rfl⟩ := r; rfl
  | flt _ => obtain ⟨t, rfl⟩ := r; rfl
  | ref _ => cases r; rfl
  | ty _ => cases r; rfl
theorem RelV.inj {x y : V} {u : Value} (r : RelV x u) (q : RelV y u) : x = y := Option.some.inj (r.abs.symm.trans q.abs)
theorem Vals.inj : ∀ {xs ys : List V} {us : List Value}, Vals xs us → Vals ys us → xs = ys
  | _, _, _, .nil, .nil => rfl
  | _, _, _, .cons r t, .cons r' t' => by rw [r.inj r', Vals.inj t t']
section
variable {X : Cx} {pins : List (Addr × Obj)} {σ : St} {H : Hp} {s : Shared} {a : Addr} {xs ys : List V}
theorem SqL.of {K : PySem.W.Frag} (h : H a = some (.lst xs)) : SqL K H a xs := .inl (.inl h)
theorem SqT.of {K : PySem.W.Frag} (h : H a = some (.tup xs)) : SqT K H a xs := .inl (.inl h)
theorem Inv.list (I : Inv X pins σ H s) (h : SqL X.K H a xs) : ∃ its : List Value, Vals xs its ∧ PlainL s.heap a its.toArray ∧ xs.length ≤ sizeLine := by
  rcases h with h | ⟨o, its, n, hk, hc, hd, hs, hz, r⟩
  · obtain ⟨z, its, n, r, e⟩ := h.ok I.hok
    exact ⟨its, r, ⟨_, n, e, rfl, rfl, rfl⟩, z⟩
  · refine ⟨its.toList, r, ⟨o, n, I.kIn a o hk, hc, hd, by simpa using hs⟩, ?_⟩
    have e := r.length
    simp only [Array.length_toList] at e
    omega
theorem Inv.tuple (I : Inv X pins σ H s) (h : SqT X.K H a xs) : ∃ its : List Value, Vals xs its ∧ IsTup s.heap a its.toArray ∧ xs.length ≤ sizeLine := by
  rcases h with h | ⟨o, its, n, hk, hc, hs, hz, r⟩
  · obtain ⟨z, its, r, p⟩ := h.ok I.hok
    exact ⟨its, r, p, z⟩
  · refine ⟨its.toList, r, ⟨o, I.kIn a o hk, hc, n, by simpa using hs⟩, ?_⟩
    have e := r.length
    simp only [Array.length_toList] at e
    omega
theorem Inv.list_inj (I : Inv X pins σ H s) (h : SqL X.K H a xs) (h' : SqL X.K H a ys) : xs = ys := by
  obtain ⟨its, r, ⟨o, n, e, _, _, d⟩, _⟩ := I.list h
  obtain ⟨its', r', ⟨o', n', e', _, _, d'⟩, _⟩ := I.list h'
  rw [e] at e'; cases e'
  rw [d] at d'
  injection d' with d1 _
  have : its = its' := by simpa using congrArg Array.toList d1
  subst this
  exact r.inj r'
theorem Inv.tuple_inj (I : Inv X pins σ H s) (h : SqT X.K H a xs) (h' : SqT X.K H a ys) : xs = ys := by
  obtain ⟨its, r, ⟨o, e, _, n, d⟩, _⟩ := I.tuple h
  obtain ⟨its', r', ⟨o', e', _, n', d'⟩, _⟩ := I.tuple h'
  rw [e] at e'; cases e'
  rw [d] at d'
  injection d' with d1 _
  have : its = its' := by simpa using congrArg Array.toList d1
  subst this
  exact r.inj r'
end

/-! ### another wish about exceptions -/
noncomputable abbrev Cx.wish (X : Cx) (E : Value → Shared → Prop) : Cx := { X with xe := E }
/-- no exception leaves -/
noncomputable abbrev Cx.nox (X : Cx) : Cx := X.wish fun _ _ => False
theorem Cx.Ok.wish {X : Cx} (ok : X.Ok) (E : Value → Shared → Prop) : (X.wish E).Ok :=
  ⟨ok.mod, ok.kind, ok.glob, ok.blt, ok.above, ok.inj, ok.has, ok.cab, ok.hd, ok.frames, ok.stk, ok.exf, ok.bs, ok.bsz, ok.noex, ok.exfs, ok.funs, ok.frf⟩
theorem Cx.Ok.unwish {X : Cx} {E : Value → Shared → Prop} (ok : (X.wish E).Ok) : X.Ok :=
  ⟨ok.mod, ok.kind, ok.glob, ok.blt, ok.above, ok.inj, ok.has, ok.cab, ok.hd, ok.frames, ok.stk, ok.exf, ok.bs, ok.bsz, ok.noex, ok.exfs, ok.funs, ok.frf⟩
section
variable {X : Cx} {pins : List (Addr × Obj)} {σ : St} {H : Hp} {s : Shared} {E : Value → Shared → Prop}
theorem Inv.wish (I : Inv X pins σ H s) (E : Value → Shared → Prop) : Inv (X.wish E) pins σ H s := ⟨I.ok.wish E, I.os, I.bare, I.base, I.loc, I.cell, I.free, I.freeC, I.pin, I.hok, I.len⟩
theorem Inv.unwish (I : Inv (X.wish E) pins σ H s) : Inv X pins σ H s := ⟨I.ok.unwish, I.os, I.bare, I.base, I.loc, I.cell, I.free, I.freeC, I.pin, I.hok, I.len⟩
theorem SP.unwish {D : Ends} {f : Flow} {s' : Shared} (h : SP (X.wish E) pins D f s') : SP X pins D f s' := by
  cases f with
  | next => obtain ⟨σ', H', I, q⟩ := h; exact ⟨σ', H', I.unwish, q⟩
  | brk => obtain ⟨σ', H', I, q⟩ := h; exact ⟨σ', H', I.unwish, q⟩
  | cont => obtain ⟨σ', H', I, q⟩ := h; exact ⟨σ', H', I.unwish, q⟩
  | ret u => obtain ⟨v, σ', H', I, r, q⟩ := h; exact ⟨v, σ', H', I.unwish, r, q⟩
theorem PSs.nox {st : List Stmt} {t : TS} (h : PSs X.nox st t) : PSs X st t := fun pins s σ H D I hw =>
  wpAny_mono (h pins s σ H D (I.wish _) hw) (fun _ _ q => q.unwish) fun _ _ z => False.elim z
end

/-! ### blocks and small statements -/
section
variable {X : Cx} {st : Stmt} {rest : List Stmt} {t u : TS} {e : Expr} {te : TE} {pos : Pos}
noncomputable def tNext : TS := fun D σ H => D.nx σ H
noncomputable def tSeq (t u : TS) : TS := fun D σ H => t { D with nx := u D } σ H
theorem pss_nil : PSs X [] tNext := fun _ _ σ H _ I h => wpAny_execs_nil ⟨σ, H, I, h⟩
theorem pss_cons (h1 : PS X st t) (h2 : PSs X rest u) : PSs X (st :: rest) (tSeq t u) := by
  intro pins s σ H D I h
  refine wpAny_execs_cons (thn (h1 pins s σ H { D with nx := u D } I h) fun f s1 q => ?_)
  cases f with
  | next =>
    obtain ⟨σ', H', I', q⟩ := q
    exact h2 pins s1 σ' H' D I' q
  | ret v => exact q
  | brk => exact q
  | cont => exact q
theorem pss_one (h1 : PS X st t) : PSs X [st] t := by
  intro pins s σ H D I h
  refine wpAny_execs_cons (thn (h1 pins s σ H D I h) fun f s1 q => ?_)
  cases f with
  | next => exact wpAny_execs_nil q
  | ret v => exact q
  | brk => exact q
  | cont => exact q
/-- in a def's body nothing is shown -/
theorem Inv.quiet {pins : List (Addr × Obj)} {σ : St} {H : Hp} {s : Shared} (I : Inv X pins σ H s) : interactive X.env = false := by simp [interactive, I.ok.kind]
/-- an expression whose value is dropped -/
noncomputable def tDrop (te : TE) : TS := fun D σ H => te σ H fun _ H1 => D.nx σ H1
theorem ps_expr (he : PE X e te) (hs : swapsWith e none pos.line X.env = pure false := by rfl) : PS X (.Expr e pos) (tDrop te) := by
  intro pins s σ H D I h
  exact wpAny_Expr_any (thn (he pins s σ H _ I h) fun v s1 ⟨x, H1, I1, r1, q1⟩ => ⟨σ, H1, I1, q1⟩) I.quiet hs
noncomputable def tRet (te : TE) : TS := fun D σ H => te σ H D.rt
theorem ps_ret (he : PE X e te) : PS X (.Return (some e) pos) (tRet te) := by
  intro pins s σ H D I h
  exact wpAny_Return_some (thn (he pins s σ H _ I h) fun v s1 ⟨x, H1, I1, r1, q1⟩ => ⟨x, σ, H1, I1, r1, q1⟩)
noncomputable def tIfS (c : TT) (t u : TS) : TS := fun D σ H => c σ H fun b H1 => if b = true then t D σ H1 else u D σ H1
theorem ps_if {c : Expr} {a b : List Stmt} {tc : TT} (hc : PT X c tc) (ha : PSs X a t) (hb : PSs X b u) : PS X (.If c a b pos) (tIfS tc t u) := by
  intro pins s σ H D I h
  refine wpAny_If (thn (hc pins s σ H _ I h) fun d s1 ⟨H1, I1, q1⟩ => ?_)
  cases d with
  | true => exact ha pins s1 σ H1 D I1 q1
  | false => exact hb pins s1 σ H1 D I1 q1
end

/-! ### targets -/
noncomputable abbrev TG := V → St → Hp → (St → Hp → Prop) → Prop
noncomputable abbrev TGs := List V → St → Hp → (St → Hp → Prop) → Prop
noncomputable def PG (X : Cx) (target : Expr) (t : TG) : Prop :=
  ∀ (pins : List (Addr × Obj)) (s : Shared) (σ : St) (H : Hp) (v : V) (u : Value) (Q : St → Hp → Prop), Inv X pins σ H s → RelV v u → t v σ H Q →
    wpAny (model X.prog X.w) X.A (assign target X.env u) (fun _ s' => ∃ σ' H', Inv X pins σ' H' s' ∧ Q σ' H') X.xe s
/-- several targets, one after another -/
noncomputable def PGs (X : Cx) (ts : List Expr) (t : TGs) : Prop :=
  ∀ (pins : List (Addr × Obj)) (s : Shared) (σ : St) (H : Hp) (vs : List V) (us : List Value) (Q : St → Hp → Prop), Inv X pins σ H s → Vals vs us → t vs σ H Q →
    wpAny (model X.prog X.w) X.A (assignInOrder ((assignEach ts X.env).map (·.2)) us) (fun _ s' => ∃ σ' H', Inv X pins σ' H' s' ∧ Q σ' H') X.xe s
/-- o[i] = v, by values -/
noncomputable abbrev TSet := V → V → V → Hp → (Hp → Prop) → Prop
noncomputable def PSet (X : Cx) (t : TSet) : Prop :=
  ∀ (pins : List (Addr × Obj)) (s : Shared) (σ : St) (H : Hp) (o i v : V) (ov iv u : Value) (Q : Hp → Prop), Inv X pins σ H s → RelV o ov → RelV i iv → RelV v u → t o i v H Q →
    wpAny (model X.prog X.w) X.A (setItem ov iv u) (fun _ s' => ∃ H', Inv X pins σ H' s' ∧ Q H') X.xe s
section
variable {X : Cx} {pos : Pos}
noncomputable def gName (i : Nat) : TG := fun v σ H Q => Q (σ.set i (some v)) H
theorem pg_name {i : Nat} {x : Str} (hN : X.N.Nodup) (hi : X.N[i]? = some x) (hx : Loc X.env.scope x) (hf : X.fn x = true ∨ X.env.scope.names.lookup x = some .local := by first | exact .inl rfl | exact .inr rfl | assumption) : PG X (.Name x pos) (gName i) := by
  intro pins s σ H v u Q I r h
  exact wpAny_assign_Name (store_ok I hN hi hx r (fun s' I' => ⟨_, H, I', h⟩) hf)
noncomputable def gNil : TGs := fun vs σ H Q => vs = [] ∧ Q σ H
noncomputable def gCons (t : TG) (u : TGs) : TGs := fun vs σ H Q => ∃ v r, vs = v :: r ∧ t v σ H fun σ' H' => u r σ' H' Q
theorem pgs_nil : PGs X [] gNil := by
  intro pins s σ H vs us Q I r h
  obtain ⟨e, h⟩ := h
  subst e
  cases r
  exact assignInOrder_nil ⟨σ, H, I, h⟩
theorem pgs_cons {e : Expr} {es : List Expr} {t : TG} {u : TGs} (h1 : PG X e t) (h2 : PGs X es u)
    (hs : (assignEach (e :: es) X.env).map (·.2) = assign e X.env :: (assignEach es X.env).map (·.2) := by rfl) : PGs X (e :: es) (gCons t u) := by
  intro pins s σ H vs us Q I r h
  obtain ⟨v, vr, e1, h⟩ := h
  subst e1
  cases r with
  | cons r rr =>
    rw [hs]
    refine assignInOrder_cons (thn (h1 pins s σ H _ _ _ I r h) fun _ s1 ⟨σ1, H1, I1, q1⟩ => ?_)
    exact h2 pins s1 σ1 H1 _ _ Q I1 rr q1
/-- (a, b, ..) = a tuple of that length -/
noncomputable def gTup (K : PySem.W.Frag) (n : Nat) (t : TGs) : TG := fun v σ H Q => ∃ a xs, v = .ref a ∧ SqT K H a xs ∧ xs.length = n ∧ t xs σ H Q
theorem pg_tup {es : List Expr} {k : Nat} {t : TGs} {n : Nat} (hc : X.calm = true) (h : PGs X es t)
    (hn : (assignEach es X.env).length = n := by rfl) (hst : (assignEach es X.env).findIdx? (·.1) = none := by rfl) : PG X (.Tuple es k pos) (gTup X.K n t) := by
  intro pins s σ H v u Q I r hw
  obtain ⟨a, xs, e1, hq, hl, hw⟩ := hw
  subst e1
  cases r
  obtain ⟨its, rv, ht, hz⟩ := I.tuple hq
  refine assign_Tuple_tuple (I.ok.hd hc) ht (by simp [hn, ← hl, rv.length]) hst fun h' hx => ?_
  have I1 : Inv X pins σ H { s with heap := h' } := I.kept (t' := s.toks) fun b o e => hx b o (Nat.ne_of_lt (Heap.lt_size e)) e
  exact h pins _ σ H xs _ Q I1 (by simpa using rv) hw
/-- o[i] = .. -/
noncomputable def gSub (to ti : TE) (t : TSet) : TG := fun v σ H Q => to σ H fun o H1 => ti σ H1 fun i H2 => t o i v H2 fun H3 => Q σ H3
theorem pg_sub {o i : Expr} {to ti : TE} {t : TSet} (ho : PE X o to) (hi : PE X i ti) (hs : PSet X t)
    (ha : ∀ v, assign (.Subscript o i pos) X.env v = (do
      let ov ← holding [v] (eval o X.env)
      let iv ← holding [v, ov] (eval i X.env)
      standAt pos
      holding [v, ov, iv] (setItem ov iv v)
      release [v, ov, iv] []) := by intro _; rfl) : PG X (.Subscript o i pos) (gSub to ti t) := by
  intro pins s σ H v u Q I r h
  rw [ha]
  refine wpAny_bind (wpAny_holding (thn (ho pins s σ H _ I h) fun ov s1 ⟨x, H1, I1, r1, q1⟩ => ?_))
  refine wpAny_bind (wpAny_holding (thn (hi pins s1 σ H1 _ I1 q1) fun iv s2 ⟨y, H2, I2, r2, q2⟩ => ?_))
  refine wpAny_bind (wpAny_standAt (wpAny_bind (wpAny_holding (thn (hs pins s2 σ H2 x y v ov iv u _ I2 r1 r2 r q2) fun _ s3 ⟨H3, I3, q3⟩ => ?_))))
  exact wpAny_release ⟨σ, H3, I3, q3⟩
/-- target = value -/
noncomputable def tAsg (te : TE) (g : TG) : TS := fun D σ H => te σ H fun x H1 => g x σ H1 D.nx
theorem ps_asg {tg e : Expr} {te : TE} {g : TG} (he : PE X e te) (hg : PG X tg g) (hs : swapsWithSole [tg] e pos.line X.env = pure false := by rfl) (hw : swappedStores [tg] e X.env = pure none := by rfl)
    (h1 : (assignEach [tg] X.env).map (·.2) = [assign tg X.env] := by rfl) : PS X (.Assign [tg] e pos) (tAsg te g) := by
  intro pins s σ H D I h
  refine wpAny_Assign_stores (thn (he pins s σ H _ I h) fun v s1 ⟨x, H1, I1, r1, q1⟩ => ?_) hs hw
  rw [h1]
  exact thn (hg pins s1 σ H1 x v _ I1 r1 q1) fun _ s2 q => q
/-- name = value -/
theorem ps_set {i : Nat} {x : Str} {e : Expr} {te : TE} {pos' : Pos} (hN : X.N.Nodup) (hi : X.N[i]? = some x) (hx : Loc X.env.scope x) (he : PE X e te) (hs : swapsWith e (some (.Name x pos')) pos.line X.env = pure false := by rfl) (hf : X.fn x = true ∨ X.env.scope.names.lookup x = some .local := by first | exact .inl rfl | exact .inr rfl | assumption) :
    PS X (.Assign [.Name x pos'] e pos) (tAsg te (gName i)) := by
  intro pins s σ H D I h
  refine wpAny_Assign_Name (thn (he pins s σ H _ I h) fun v s1 ⟨y, H1, I1, r1, q1⟩ => ?_) hs
  exact store_ok I1 hN hi hx r1 (fun s2 I2 => ⟨_, H1, I2, q1⟩) hf
end

/-! ### while -/
section
variable {X : Cx} {pos : Pos}
end

/-! ### what a loop or a comprehension walks -/
/-- at turn i: it yields x (the heap may grow), or it stops -/
structure It where
  go : Nat → Hp → Prop
  yld : Nat → Hp → V → Hp → Prop
  stop : Nat → Hp → Prop
/-- the iterator's own objects may turn: they are not the frame's, not pinned, younger than the entry (or a comprehension's own) -/
noncomputable def FpOk (X : Cx) (pins : List (Addr × Obj)) (H : Hp) (b : Addr) : Prop :=
  H b = none ∧ b ≠ X.env.locals ∧ b ∉ X.fs ∧ (b ∈ X.ex ∨ X.s₀.heap.objs.size ≤ b) ∧ (∀ x c, X.env.cells.lookup x = some c → c ≠ b) ∧ ∀ p ∈ X.pn ++ pins, p.1 ≠ b
theorem Inv.fpOk {X : Cx} {pins : List (Addr × Obj)} {σ : St} {H H' : Hp} {s : Shared} {b : Addr} (I : Inv X pins σ H s) (hb : s.heap.objs.size ≤ b) (hn : H' b = none) : FpOk X pins H' b := by
  refine ⟨hn, Nat.ne_of_gt (Nat.lt_of_lt_of_le I.lt hb), I.nofs hb, .inr (Nat.le_trans I.sz hb), fun x c e z => ?_, fun p hp z => ?_⟩
  · obtain ⟨v, q⟩ := I.cell x c e
    exact absurd (Nat.lt_of_lt_of_le q.lt (by rw [z]; exact hb)) (Nat.lt_irrefl _)
  · exact absurd (Nat.lt_of_lt_of_le (Heap.lt_size (I.pin p hp).1) (by rw [z]; exact hb)) (Nat.lt_irrefl _)
structure Turn (P : Program) (w : World) (K : PySem.W.Frag) (tg : Expr) (J : It) (fp : List Addr) (it : Addr) (tn : Nat → Heap → Prop) : Prop where
  mem : it ∈ fp
  obj : ∀ i h, tn i h → ∀ b ∈ fp, ∃ o, h.get? b = some o ∧ ∀ v, o.data ≠ .cell v
  keep : ∀ i h h', tn i h → (∀ b ∈ fp, ∀ o, h.get? b = some o → h'.get? b = some o) → tn i h'
  item : ∀ (X : Cx), X.prog = P → X.w = w → X.K = K → X.calm = true → ∀ (i : Nat) (pins : List (Addr × Obj)) (s : Shared) (σ : St) (H : Hp) (E : Value → Shared → Prop), Inv X pins σ H s → (∀ b ∈ fp, FpOk X pins H b) → tn i s.heap → J.go i H →
    wpAny (model P w) X.A (pyNext (.ref it)) (fun r s1 => ∃ u, r = some u ∧
      wpAny (model P w) X.A (letOwnedTupleGo tg (.ref it) u) (fun _ s2 => ∃ x H', Inv X pins σ H' s2 ∧ RelV x u ∧ J.yld i H x H' ∧ tn (i + 1) s2.heap ∧ ∀ b ∈ fp, H' b = none) E s1) E s
  done : ∀ (X : Cx), X.prog = P → X.w = w → X.K = K → X.calm = true → ∀ (i : Nat) (pins : List (Addr × Obj)) (s : Shared) (σ : St) (H : Hp) (E : Value → Shared → Prop), Inv X pins σ H s → (∀ b ∈ fp, FpOk X pins H b) → tn i s.heap → J.stop i H →
    wpAny (model P w) X.A (pyNext (.ref it)) (fun r s1 => r = none ∧ Inv X pins σ H s1) E s
  self : ∀ (A : Around) (i : Nat) (s : Shared) (Q : Value → Shared → Prop) (E : Value → Shared → Prop), tn i s.heap → Q (.ref it) s → wpAny (model P w) A (pyIter (.ref it)) Q E s
noncomputable abbrev TI := St → Hp → (It → Hp → Prop) → Prop
/-- an iterator has come -/
noncomputable def PIE (X : Cx) (pins : List (Addr × Obj)) (σ : St) (tg : Expr) (R : It → Hp → Prop) (itv : Value) (s2 : Shared) : Prop :=
  ∃ (it : Addr) (fp : List Addr) (tn : Nat → Heap → Prop) (J : It) (H' : Hp), itv = .ref it ∧ Inv X pins σ H' s2 ∧ Turn X.prog X.w X.K tg J fp it tn ∧ tn 0 s2.heap ∧ (∀ b ∈ fp, FpOk X pins H' b) ∧ R J H'
noncomputable def PI (X : Cx) (tg iter : Expr) (wi : TI) : Prop :=
  ∀ (pins : List (Addr × Obj)) (s : Shared) (σ : St) (H : Hp) (R : It → Hp → Prop), Inv X pins σ H s → wi σ H R →
    wpAny (model X.prog X.w) X.A (eval iter X.env) (fun v s1 => wpAny (model X.prog X.w) X.A (pyIter v) (PIE X pins σ tg R) X.xe s1) X.xe s

/-- the step ahead of the store is nothing for an iterator that keeps no tuple -/
theorem go_of {M : Model} {A : Around} {E : Value → Shared → Prop} {s : Shared} {tg : Expr} {it : Addr} {u : Value} {o : Obj} {n : String} {vs : Array Value} {Q : Unit → Shared → Prop} (ho : s.heap.get? it = some o) (hc : o.cls = .type n) (hd : o.data = .fields vs)
    (hn : ["enumerate", "zip", "dict_itemiterator", "dict_reverseitemiterator", "odict_iterator", "itertools.zip_longest", "itertools.pairwise"].contains n = false) (hQ : Q () s) : wpAny M A (letOwnedTupleGo tg (.ref it) u) Q E s := by
  unfold letOwnedTupleGo
  cases tg <;> first
    | exact wpAny_pure hQ
    | (cases u <;> first
        | exact wpAny_pure hQ
        | (refine wpAny_bind (wpAny_load ho ?_)
           rw [hc, hd]
           show wpAny M A (if (["enumerate", "zip", "dict_itemiterator", "dict_reverseitemiterator", "odict_iterator", "itertools.zip_longest", "itertools.pairwise"].contains n && vs[0]? == some (rawInt _)) = true then _ else _) Q E s
           rw [if_neg (by intro h; rw [hn, Bool.false_and] at h; cases h)]
           exact wpAny_pure hQ))

/-- the list at a, as it stands at each turn (a loop may append to it) -/
noncomputable def Itl (K : PySem.W.Frag) (a : Addr) : It :=
  ⟨fun i H => ∃ xs x, SqL K H a xs ∧ xs[i]? = some x, fun i H x H' => H' = H ∧ ∀ xs, SqL K H a xs → xs[i]? = some x, fun i H => ∃ xs, SqL K H a xs ∧ xs.length ≤ i⟩
noncomputable def Itt (K : PySem.W.Frag) (a : Addr) : It :=
  ⟨fun i H => ∃ xs x, SqT K H a xs ∧ xs[i]? = some x, fun i H x H' => H' = H ∧ ∀ xs, SqT K H a xs → xs[i]? = some x, fun i H => ∃ xs, SqT K H a xs ∧ xs.length ≤ i⟩
/-- lo, lo + 1, .. (n of them) -/
noncomputable def Itr (lo : Int) (n : Nat) : It := ⟨fun i _ => i < n, fun i H x H' => H' = H ∧ x = .int (lo + i), fun i _ => n ≤ i⟩
theorem turn_list {P : Program} {w : World} {K : PySem.W.Frag} {tg : Expr} (a it : Addr) : Turn P w K tg (Itl K a) [it] it (fun i h => h.IsListIter it a i) where
  mem := by simp
  obj := fun i h st b hb => by
    have e : b = it := by simpa using hb
    subst e
    obtain ⟨o, e, c, d⟩ := st
    exact ⟨o, e, fun v z => by rw [d] at z; cases z⟩
  keep := fun i h h' st k => st.at fun o e => k it (by simp) o e
  item := by
    intro X hP hw hK hc i pins s σ H E I hf st hg
    subst hP hw hK
    obtain ⟨xs, x, hq, hx⟩ := hg
    obtain ⟨its, rv, p, hz⟩ := I.list hq
    obtain ⟨u, hu, ru⟩ := rv.get hx
    obtain ⟨f0, f1, f2, f3, f4, f5⟩ := hf it (by simp)
    refine wpAny_pyNext_list_item st p.isList (x := u) (by simpa using hu) fun h' st' sb => ?_
    have I1 : Inv X pins σ H { s with heap := h' } := I.turned (t' := s.toks) (fun b o hb e => (sb.2 b hb).trans e) f0 f1 f3 f4 f5
    obtain ⟨o, e, c, d⟩ := id st'
    exact ⟨u, rfl, go_of (s := { s with heap := h' }) e c d (by decide) ⟨x, H, I1, ru, ⟨rfl, fun ys hy => by rw [I.list_inj hy hq]; exact hx⟩, st', fun b hb => (hf b hb).1⟩⟩
  done := by
    intro X hP hw hK hc i pins s σ H E I hf st hg
    subst hP hw hK
    obtain ⟨xs, hq, hx⟩ := hg
    obtain ⟨its, rv, p, hz⟩ := I.list hq
    obtain ⟨f0, f1, f2, f3, f4, f5⟩ := hf it (by simp)
    have hl := rv.length
    exact wpAny_pyNext_list_end (I.ok.hd hc) st p.isList (by simp; omega) fun h' eb => ⟨rfl, I.turned (t' := s.toks) (fun b o hb e => eb b o hb e) f0 f1 f3 f4 f5⟩
  self := fun _ _ _ _ _ st h => wpAny_pyIter_listiter st h
theorem turn_tuple {P : Program} {w : World} {K : PySem.W.Frag} {tg : Expr} (a it : Addr) : Turn P w K tg (Itt K a) [it] it (fun i h => h.IsTupleIter it a i) where
  mem := by simp
  obj := fun i h st b hb => by
    have e : b = it := by simpa using hb
    subst e
    obtain ⟨o, e, c, d⟩ := st
    exact ⟨o, e, fun v z => by rw [d] at z; cases z⟩
  keep := fun i h h' st k => st.at fun o e => k it (by simp) o e
  item := by
    intro X hP hw hK hc i pins s σ H E I hf st hg
    subst hP hw hK
    obtain ⟨xs, x, hq, hx⟩ := hg
    obtain ⟨its, rv, p, hz⟩ := I.tuple hq
    obtain ⟨u, hu, ru⟩ := rv.get hx
    obtain ⟨f0, f1, f2, f3, f4, f5⟩ := hf it (by simp)
    refine wpAny_pyNext_tuple_item st (show s.heap.IsTuple a its.toArray from p) (x := u) (by simpa using hu) fun h' st' sb => ?_
    have I1 : Inv X pins σ H { s with heap := h' } := I.turned (t' := s.toks) (fun b o hb e => (sb.2 b hb).trans e) f0 f1 f3 f4 f5
    obtain ⟨o, e, c, d⟩ := id st'
    exact ⟨u, rfl, go_of (s := { s with heap := h' }) e c d (by decide) ⟨x, H, I1, ru, ⟨rfl, fun ys hy => by rw [I.tuple_inj hy hq]; exact hx⟩, st', fun b hb => (hf b hb).1⟩⟩
  done := by
    intro X hP hw hK hc i pins s σ H E I hf st hg
    subst hP hw hK
    obtain ⟨xs, hq, hx⟩ := hg
    obtain ⟨its, rv, p, hz⟩ := I.tuple hq
    obtain ⟨f0, f1, f2, f3, f4, f5⟩ := hf it (by simp)
    have hl := rv.length
    exact wpAny_pyNext_tuple_end (I.ok.hd hc) st (show s.heap.IsTuple a its.toArray from p) (by simp; omega) fun h' eb => ⟨rfl, I.turned (t' := s.toks) (fun b o hb e => eb b o hb e) f0 f1 f3 f4 f5⟩
  self := fun _ _ _ _ _ st h => wpAny_pyIter_tupleiter st h
theorem turn_range {P : Program} {w : World} {K : PySem.W.Frag} {tg : Expr} (it : Addr) (lo : Int) (n : Nat) : Turn P w K tg (Itr lo n) [it] it (fun i h => IsRangeIter h it (lo + (i : Nat) * 1) ((n : Int) - (i : Nat)) 1) where
  mem := by simp
  obj := fun i h st b hb => by
    have e : b = it := by simpa using hb
    subst e
    exact ⟨_, st, fun v z => by
      have z' : Data.fields _ = Data.cell v := z
      cases z'⟩
  keep := fun i h h' st k => k it (by simp) _ st
  item := by
    intro X hP hw hK hc i pins s σ H E I hf st hg
    subst hP hw hK
    obtain ⟨f0, f1, f2, f3, f4, f5⟩ := hf it (by simp)
    have W := Walks.range (prog := X.prog) (w := X.w) (I.ok.hd hc) it lo 1 n
    refine W.item i s _ _ hg st fun v h' tk hv st' kk => ?_
    obtain ⟨t, rfl⟩ := hv
    have I1 : Inv X pins σ H { s with heap := h', toks := tk } := I.turned (fun b o hb e => kk b o (by simpa using hb) e) f0 f1 f3 f4 f5
    refine ⟨_, rfl, go_of (s := { s with heap := h', toks := tk }) (n := "range_iterator") st' rfl rfl (by decide) ⟨.int (lo + i), H, I1, ⟨t, ?_⟩, ⟨rfl, rfl⟩, st', fun b hb => (hf b hb).1⟩⟩
    rw [Int.mul_one]
  done := by
    intro X hP hw hK hc i pins s σ H E I hf st hg
    subst hP hw hK
    obtain ⟨f0, f1, f2, f3, f4, f5⟩ := hf it (by simp)
    exact wpAny_pyNext_range_end (I.ok.hd hc) st (by have : n ≤ i := hg; omega) fun h' eb => ⟨rfl, I.turned (t' := s.toks) (fun b o hb e => eb b o hb e) f0 f1 f3 f4 f5⟩
  self := fun _ _ _ _ _ st h => wpAny_pyIter_rangeiter st h
end L2

namespace L2
open PySem PySem.Spec PyProof.Rows
section
variable {X : Cx} {tg : Expr}
/-- a range object just made, walked -/
theorem range_it {pins : List (Addr × Obj)} {σ : St} {H : Hp} {s : Shared} {R : It → Hp → Prop} {E : Value → Shared → Prop} {lo hi : Int} {t u v : Tok} {tk : Nat} (I : Inv X pins σ H s) (h1 : -(2 ^ 62) ≤ lo) (h2 : lo < 2 ^ 62) (h3 : -(2 ^ 62) ≤ hi) (h4 : hi < 2 ^ 62)
    (q : R (Itr lo (hi - lo).toNat) H) : wpAny (model X.prog X.w) X.A (pyIter (.ref s.heap.objs.size)) (PIE X pins σ tg R) E { s with heap := s.heap.push { cls := .type "range", data := .fields #[.int lo t, .int hi u, .int 1 v] }, toks := tk } := by
  refine wpAny_pyIter_range (IsRange.new ..) (small_one h1 h2 h3 h4) ?_
  have I1 : Inv X pins σ H { s with heap := s.heap.push { cls := .type "range", data := .fields #[.int lo t, .int hi u, .int 1 v] }, toks := tk } := I.kept fun b o e => Heap.get?_push_of_some _ e
  refine ⟨(s.heap.push { cls := .type "range", data := .fields #[.int lo t, .int hi u, .int 1 v] }).objs.size, [(s.heap.push { cls := .type "range", data := .fields #[.int lo t, .int hi u, .int 1 v] }).objs.size], _, _, H, rfl,
    I1.kept (t' := tk) fun b o e => Heap.get?_push_of_some _ e, turn_range _ lo (hi - lo).toNat, ?_, fun b hb => ?_, q⟩
  · have e1 : lo + ((0 : Nat) : Int) * 1 = lo := by simp
    have e2 : (((hi - lo).toNat : Nat) : Int) - ((0 : Nat) : Int) = Builtin.Range.rangeSize lo hi 1 := by rw [rangeSize_one]; split <;> omega
    show IsRangeIter _ _ (lo + ((0 : Nat) : Int) * 1) ((((hi - lo).toNat : Nat) : Int) - ((0 : Nat) : Int)) 1
    rw [e1, e2]
    exact Heap.get?_push_size _ rfl
  · have e : b = (s.heap.push { cls := .type "range", data := .fields #[.int lo t, .int hi u, .int 1 v] }).objs.size := by simpa using hb
    subst e
    exact I1.fpOk (Nat.le_refl _) (I1.hok.fresh (Nat.le_refl _))
noncomputable def iRng1 (ta : TA) : TI := fun σ H R => ta σ H fun vs H1 => ∃ j : Int, vs = [.int j] ∧ -(2 ^ 62) ≤ j ∧ j < 2 ^ 62 ∧ R (Itr 0 j.toNat) H1
noncomputable def iRng2 (ta : TA) : TI := fun σ H R => ta σ H fun vs H1 => ∃ i j : Int, vs = [.int i, .int j] ∧ (-(2 ^ 62) ≤ i ∧ i < 2 ^ 62 ∧ -(2 ^ 62) ≤ j ∧ j < 2 ^ 62) ∧ R (Itr i (j - i).toNat) H1
theorem pi_range1 {a : Expr} {ta : TA} {p pos : Pos} (hg : Gl X "range") (hm : X.mg "range" = none) (ha : PA X [a] ta) (hs : starEach [a] X.env = [(false, eval a X.env)] := by rfl) : PI X tg (.Call (.Name "range" p) [a] [] pos) (iRng1 ta) := by
  intro pins s σ H R I h
  refine Call_ (ld_blt I hg hm boot_range (PyProof.Rows.callWith_type1 (thn (ha pos pins s σ H _ I h) fun us s1 ⟨vs, H1, I1, r1, q1⟩ => ?_) hs rfl))
  obtain ⟨j, e, q1, q2, q⟩ := q1
  subst e
  cases r1 with
  | cons r rr =>
    cases rr
    obtain ⟨t, rfl⟩ := r
    exact call_range_1 (range_it I1 (by omega) (by omega) q1 q2 (by simpa using q))
theorem pi_range2 {a b : Expr} {ta : TA} {p pos : Pos} (hg : Gl X "range") (hm : X.mg "range" = none) (ha : PA X [a, b] ta) (hs : starEach [a, b] X.env = [(false, eval a X.env), (false, eval b X.env)] := by rfl) (hs2 : starEach [b] X.env = [(false, eval b X.env)] := by rfl) :
    PI X tg (.Call (.Name "range" p) [a, b] [] pos) (iRng2 ta) := by
  intro pins s σ H R I h
  refine Call_ (ld_blt I hg hm boot_range (PyProof.Rows.callWith_type1 (thn (ha pos pins s σ H _ I h) fun us s1 ⟨vs, H1, I1, r1, q1⟩ => ?_) (by rw [hs, hs2]) (by rw [hs2]; rfl)))
  obtain ⟨i, j, e, ⟨q1, q2, q3, q4⟩, q⟩ := q1
  subst e
  cases r1 with
  | cons r rr =>
    cases rr with
    | cons r' rr =>
      cases rr
      obtain ⟨t, rfl⟩ := r
      obtain ⟨t', rfl⟩ := r'
      exact call_range_2 (range_it I1 q1 q2 q3 q4 q)

/-! ### for -/
/-- W: the invariant by the turn and a measure; N: what the body is to reach -/
noncomputable def tFor (wi : TI) (g : TG) (tb : TS) : TS := fun D σ H => wi σ H fun J H1 => ∃ W : Nat → Nat → St → Hp → Prop, (∃ m, W 0 m σ H1) ∧ ∀ i m σ H, W i m σ H →
  (J.stop i H ∧ D.nx σ H) ∨ (J.go i H ∧ ∃ N : St → Hp → Prop, (∀ σ' H', N σ' H' → ∃ m', m' < m ∧ W (i + 1) m' σ' H') ∧ ∀ x H', J.yld i H x H' → g x σ H' fun σ2 H2 => tb { D with nx := N, ct := N, bk := D.nx } σ2 H2)
/-- the records at fp as they stand -/
noncomputable def pinsAt (fp : List Addr) (h : Heap) : List (Addr × Obj) := fp.filterMap fun b => (h.get? b).map fun o => (b, o)
theorem mem_pinsAt {fp : List Addr} {h : Heap} {b : Addr} {o : Obj} (hb : b ∈ fp) (e : h.get? b = some o) : (b, o) ∈ pinsAt fp h := List.mem_filterMap.mpr ⟨b, hb, by rw [e]; rfl⟩
theorem of_pinsAt {fp : List Addr} {h : Heap} {p : Addr × Obj} (hp : p ∈ pinsAt fp h) : p.1 ∈ fp ∧ h.get? p.1 = some p.2 := by
  obtain ⟨b, hb, e⟩ := List.mem_filterMap.mp hp
  cases q : h.get? b with
  | none => rw [q] at e; cases e
  | some o =>
    rw [q] at e
    have e' : (b, o) = p := Option.some.inj e
    subst e'
    exact ⟨hb, q⟩
theorem Inv.pinned {pins : List (Addr × Obj)} {σ : St} {H : Hp} {s : Shared} {fp : List Addr} (I : Inv X pins σ H s) (hf : ∀ b ∈ fp, FpOk X pins H b) (ho : ∀ b ∈ fp, ∃ o, s.heap.get? b = some o ∧ ∀ v, o.data ≠ .cell v) : Inv X (pins ++ pinsAt fp s.heap) σ H s :=
  I.pins_of fun p hp => (List.mem_append.mp hp).elim (fun z => I.pin p (List.mem_append_right _ z)) fun z => by
    obtain ⟨hb, e⟩ := of_pinsAt z
    obtain ⟨f0, f1, f2, _⟩ := hf p.1 hb
    obtain ⟨o, e', d⟩ := ho p.1 hb
    rw [e] at e'; cases e'
    exact ⟨e, f0, f1, f2, d⟩
theorem Inv.unpinned {pins pl : List (Addr × Obj)} {σ : St} {H : Hp} {s : Shared} (I : Inv X (pins ++ pl) σ H s) : Inv X pins σ H s := I.pins_of fun p hp => I.pin p (List.mem_append_right _ (List.mem_append_left _ hp))
theorem ps_for {iter : Expr} {body : List Stmt} {wi : TI} {g : TG} {tb : TS} {pos : Pos} (hp : PassesOwn (model X.prog X.w) X.A X.env X.xe) (hc : X.calm = true) (hi : PI X tg iter wi) (hg : PG X tg g) (hb : PSs X body tb)
    (hs : ∀ x, foldedSetIterable iter X.env x = pure x := by intro _; rfl) : PS X (.For tg iter body [] pos) (tFor wi g tb) := by
  intro pins s σ H D I h
  refine wpAny_For (thn (hi pins s σ H _ I h) fun v s1 h1 => thn h1 fun itv s2 h2 => ?_) hs
  obtain ⟨it, fp, tn, J, H2, e, I2, T, st2, f2, W, ⟨m0, w0⟩, turn⟩ := h2
  subst e
  -- what stays true of the iterator's objects through the loop
  have stat : ∀ {H' : Hp}, (∀ b ∈ fp, H' b = none) → ∀ b ∈ fp, FpOk X pins H' b := fun hn b hb => ⟨hn b hb, (f2 b hb).2⟩
  refine codeAny_forLoop_any (fun n s' => ∃ i σ' H', Inv X pins σ' H' s' ∧ tn i s'.heap ∧ (∀ b ∈ fp, H' b = none) ∧ W i n σ' H') ?_ m0 ⟨0, σ, H2, I2, st2, fun b hb => (f2 b hb).1, w0⟩
  rintro n s3 ⟨i, σ3, H3, I3, st3, fr3, w3⟩
  rcases turn i n σ3 H3 w3 with ⟨stop, qn⟩ | ⟨go, N, hN, step⟩
  · refine wpAny_passesOwn hp (thn (T.done X rfl rfl rfl hc i pins s3 σ3 H3 X.xe I3 (stat fr3) st3 stop) fun r s4 ⟨hr, I4⟩ => ?_)
    subst hr
    exact wpAny_execs_nil ⟨σ3, H3, I4, qn⟩
  · refine wpAny_passesOwn hp (thn (T.item X rfl rfl rfl hc i pins s3 σ3 H3 X.xe I3 (stat fr3) st3 go) fun r s4 ⟨u, hr, h4⟩ => ?_)
    subst hr
    refine wpAny_passesOwn hp (thn h4 fun _ s5 ⟨x, H5, I5, r5, y5, st5, fr5⟩ => ?_)
    have I5' := I5.pinned (stat fr5) (T.obj _ _ st5)
    refine wpAny_passesOwn hp (thn (hg _ s5 σ3 H5 x u _ I5' r5 (step x H5 y5)) fun _ s6 ⟨σ6, H6, I6, q6⟩ => ?_)
    refine wpAny_passesOwn hp (thn (hb _ s6 σ6 H6 _ I6 q6) fun f s7 q7 => ?_)
    have again : ∀ {σ7 : St} {H7 : Hp}, Inv X (pins ++ pinsAt fp s5.heap) σ7 H7 s7 → N σ7 H7 → ∃ m, m < n ∧ ∃ i σ' H', Inv X pins σ' H' s7 ∧ tn i s7.heap ∧ (∀ b ∈ fp, H' b = none) ∧ W i m σ' H' := fun {σ7 H7} I7 n7 => by
      obtain ⟨m', hm, w7⟩ := hN σ7 H7 n7
      refine ⟨m', hm, i + 1, σ7, H7, I7.unpinned, T.keep _ _ _ st5 fun b hb o e => (I7.pin (b, o) (List.mem_append_right _ (List.mem_append_right _ (mem_pinsAt hb e)))).1, fun b hb => ?_, w7⟩
      obtain ⟨o, e, d⟩ := T.obj _ _ st5 b hb
      exact (I7.pin (b, o) (List.mem_append_right _ (List.mem_append_right _ (mem_pinsAt hb e)))).2.1
    cases f with
    | next => obtain ⟨σ7, H7, I7, n7⟩ := q7; exact again I7 n7
    | cont => obtain ⟨σ7, H7, I7, n7⟩ := q7; exact again I7 n7
    | brk => obtain ⟨σ7, H7, I7, q7⟩ := q7; exact ⟨σ7, H7, I7.unpinned, q7⟩
    | ret v => obtain ⟨x7, σ7, H7, I7, r7, q7⟩ := q7; exact ⟨x7, σ7, H7, I7.unpinned, r7, q7⟩
end

end L2

namespace L2
open PySem PySem.Spec PyProof.Rows

noncomputable abbrev R2 := V → V → Hp → VK → Prop
/-- a two-place operation on values: f is binaryOp op, inplaceOp op or compareOp op -/
noncomputable def OpR (X : Cx) (f : Value → Value → Sem Value) (r : R2) : Prop :=
  ∀ (pins : List (Addr × Obj)) (s : Shared) (σ : St) (H : Hp) (x y : V) (v u : Value) (Q : VK), Inv X pins σ H s → RelV x v → RelV y u → r x y H Q →
    wpAny (model X.prog X.w) X.A (f v u) (EP X pins σ Q) X.xe s
/-- a one-place operation -/
noncomputable def UnR (X : Cx) (f : Value → Sem Value) (r : V → Hp → VK → Prop) : Prop :=
  ∀ (pins : List (Addr × Obj)) (s : Shared) (σ : St) (H : Hp) (x : V) (v : Value) (Q : VK), Inv X pins σ H s → RelV x v → r x H Q →
    wpAny (model X.prog X.w) X.A (f v) (EP X pins σ Q) X.xe s
/-- a call of a value that is known (a builtin, a type) with values -/
noncomputable def CallR (X : Cx) (f : Value) (r : List V → Hp → VK → Prop) : Prop :=
  ∀ (pins : List (Addr × Obj)) (s : Shared) (σ : St) (H : Hp) (xs : List V) (us : List Value) (Q : VK), Inv X pins σ H s → Vals xs us → r xs H Q →
    wpAny (model X.prog X.w) X.A (call f us) (EP X pins σ Q) X.xe s
noncomputable def tOp (r : R2) (ta tb : TE) : TE := fun σ H Q => ta σ H fun x H1 => tb σ H1 fun y H2 => r x y H2 Q
noncomputable def tUn (r : V → Hp → VK → Prop) (ta : TE) : TE := fun σ H Q => ta σ H fun x H1 => r x H1 Q
/-- ints in, under C, and a value out -/
noncomputable def rI (C : Int → Int → Prop) (g : Int → Int → V) : R2 := fun x y H Q => ∃ i j, x = .int i ∧ y = .int j ∧ C i j ∧ Q (g i j) H
noncomputable def rI0 (g : Int → Int → V) : R2 := fun x y H Q => ∃ i j, x = .int i ∧ y = .int j ∧ Q (g i j) H
noncomputable def rU (g : Int → V) : V → Hp → VK → Prop := fun x H Q => ∃ i, x = .int i ∧ Q (g i) H

section
variable {X : Cx} {a b c : Expr} {ta tb tc : TE} {pos : Pos}

theorem binT (ha : PE X a ta) (hb : PE X b tb) {pins : List (Addr × Obj)} {s : Shared} {σ : St} {H : Hp} {R : V → V → Hp → Prop} (I : Inv X pins σ H s)
    (h : ta σ H fun x H1 => tb σ H1 fun y H2 => R x y H2) {Q : Value → Shared → Prop} {f : Value → Value → Sem Value}
    (hf : ∀ v u s2 x y H2, Inv X pins σ H2 s2 → RelV x v → RelV y u → R x y H2 → wpAny (model X.prog X.w) X.A (f v u) Q X.xe s2) :
    wpAny (model X.prog X.w) X.A (eval a X.env) (fun v s₁ => wpAny (model X.prog X.w) X.A (eval b X.env) (fun u s₂ => wpAny (model X.prog X.w) X.A (f v u) Q X.xe s₂) X.xe s₁) X.xe s := by
  refine thn (ha pins s σ H _ I h) fun v s1 ⟨x, H1, I1, r1, q1⟩ => ?_
  refine thn (hb pins s1 σ H1 _ I1 q1) fun u s2 ⟨y, H2, I2, r2, q2⟩ => ?_
  exact hf v u s2 x y H2 I2 r1 r2 q2

theorem pe_op {op : Operator} {r : R2} (ho : OpR X (binaryOp op) r) (ha : PE X a ta) (hb : PE X b tb) : PE X (.BinOp a op b pos) (tOp r ta tb) := by
  intro pins s σ H Q I h
  exact wpAny_BinOp (binT ha hb I h fun v u s2 x y H2 I2 rx ry q => ho pins s2 σ H2 x y v u Q I2 rx ry q)
theorem pe_un {op : UnaryOp} {r : V → Hp → VK → Prop} (ho : UnR X (unaryOp op) r) (ha : PE X a ta) : PE X (.UnaryOp op a pos) (tUn r ta) := by
  intro pins s σ H Q I h
  exact UnaryOp_ (thn (ha pins s σ H _ I h) fun v s1 ⟨x, H1, I1, r1, q1⟩ => ho pins s1 σ H1 x v Q I1 r1 q1)
/-! ### ints -/
theorem opI {f : Value → Value → Sem Value} {C : Int → Int → Prop} {g : Int → Int → Int}
    (rule : ∀ (i j : Int) (t u : Tok) (s : Shared) (Q : Value → Shared → Prop) (E : Value → Shared → Prop), C i j → Q (.int (g i j) s.toks) { s with toks := s.toks + 1 } → wpAny (model X.prog X.w) X.A (f (.int i t) (.int j u)) Q E s) :
    OpR X f (rI C fun i j => .int (g i j)) := by
  intro pins s σ H x y v u Q I rx ry h
  obtain ⟨i, j, rfl, rfl, hc, q⟩ := h
  obtain ⟨t, rfl⟩ := rx
  obtain ⟨t', rfl⟩ := ry
  exact rule i j t t' s _ _ hc ⟨.int (g i j), H, I.tok _, ⟨_, rfl⟩, q⟩
theorem opI0 {f : Value → Value → Sem Value} {g : Int → Int → Int}
    (rule : ∀ (i j : Int) (t u : Tok) (s : Shared) (Q : Value → Shared → Prop) (E : Value → Shared → Prop), Q (.int (g i j) s.toks) { s with toks := s.toks + 1 } → wpAny (model X.prog X.w) X.A (f (.int i t) (.int j u)) Q E s) :
    OpR X f (rI0 fun i j => .int (g i j)) := by
  intro pins s σ H x y v u Q I rx ry h
  obtain ⟨i, j, rfl, rfl, q⟩ := h
  obtain ⟨t, rfl⟩ := rx
  obtain ⟨t', rfl⟩ := ry
  exact rule i j t t' s _ _ ⟨.int (g i j), H, I.tok _, ⟨_, rfl⟩, q⟩
theorem opB0 {f : Value → Value → Sem Value} {g : Int → Int → Bool}
    (rule : ∀ (i j : Int) (t u : Tok) (s : Shared) (Q : Value → Shared → Prop) (E : Value → Shared → Prop), Q (.bool (g i j)) s → wpAny (model X.prog X.w) X.A (f (.int i t) (.int j u)) Q E s) :
    OpR X f (rI0 fun i j => .bl (g i j)) := by
  intro pins s σ H x y v u Q I rx ry h
  obtain ⟨i, j, rfl, rfl, q⟩ := h
  obtain ⟨t, rfl⟩ := rx
  obtain ⟨t', rfl⟩ := ry
  exact rule i j t t' s _ _ ⟨.bl (g i j), H, I, rfl, q⟩

noncomputable def CPow (i j : Int) : Prop := 0 ≤ j ∧ j ≤ 1000000 ∧ i.natAbs < 2 ^ 64
noncomputable def CMul (i j : Int) : Prop := (-(2 ^ 64) < i ∧ i < 2 ^ 64) ∨ (-(2 ^ 64) < j ∧ j < 2 ^ 64)
theorem CMul.ok {i j : Int} (h : CMul i j) : IntMulOk i j := by
  rcases h with ⟨h1, h2⟩ | ⟨h1, h2⟩
  · exact .of_left (intBits_le_64 h1 h2)
  · exact .of_right (intBits_le_64 h1 h2)
theorem op_add : OpR X (binaryOp .Add) (rI0 fun i j => .int (i + j)) := opI0 fun _ _ _ _ _ _ _ q => add_int q
theorem op_sub : OpR X (binaryOp .Sub) (rI0 fun i j => .int (i - j)) := opI0 fun _ _ _ _ _ _ _ q => sub_int q
/-- % by a positive divisor of any size -/
theorem op_mod : OpR X (binaryOp .Mod) (rI (fun _ j => 0 < j) fun i j => .int (i % j)) := opI fun i j _ _ _ _ _ hc q => by
  have h1 : (0 : Int) < j := hc
  exact mod_int' (by omega) (by rw [Int.fmod_eq_emod_of_nonneg i (by omega)]; exact q)
theorem op_pow : OpR X (binaryOp .Pow) (rI CPow fun i j => .int (i ^ j.toNat)) := opI fun _ _ _ _ _ _ _ hc q => pow_int_small hc.1 hc.2.1 hc.2.2 q
theorem unI {f : Value → Sem Value} {g : Int → Int}
    (rule : ∀ (i : Int) (t : Tok) (s : Shared) (Q : Value → Shared → Prop) (E : Value → Shared → Prop), Q (.int (g i) s.toks) { s with toks := s.toks + 1 } → wpAny (model X.prog X.w) X.A (f (.int i t)) Q E s) :
    UnR X f (rU fun i => .int (g i)) := by
  intro pins s σ H x v Q I rx h
  obtain ⟨i, rfl, q⟩ := h
  obtain ⟨t, rfl⟩ := rx
  exact rule i t s _ _ ⟨.int (g i), H, I.tok _, ⟨_, rfl⟩, q⟩
theorem un_neg : UnR X (unaryOp .USub) (rU fun i => .int (-i)) := unI fun _ _ _ _ _ q => neg_int q
end

/-! ### comparisons -/
/-- the scalars that == tells apart as data does -/
noncomputable def scal : V → V → Bool
  | .non, .non => true | .non, .int _ => true | .int _, .non => true | .non, .bl _ => true | .bl _, .non => true | .non, .str _ => true | .str _, .non => true
  | .int _, .int _ => true | .bl _, .bl _ => true | .str _, .str _ => true | .byt _, .byt _ => true
  | .int _, .str _ => true | .str _, .int _ => true | .bl _, .str _ => true | .str _, .bl _ => true
  | _, _ => false
noncomputable def rEq : R2 := fun x y H Q => scal x y = true ∧ Q (.bl (decide (x = y))) H
noncomputable def rNe : R2 := fun x y H Q => scal x y = true ∧ Q (.bl (!decide (x = y))) H

theorem dec_int {i j : Int} : decide (V.int i = V.int j) = (i == j) := by
  rw [Bool.eq_iff_iff]
  simp
theorem dec_bl {i j : Bool} : decide (V.bl i = V.bl j) = (i == j) := by
  rw [Bool.eq_iff_iff]
  simp
theorem dec_str {i j : Str} : decide (V.str i = V.str j) = (i == j) := by
  rw [Bool.eq_iff_iff]
  simp
theorem dec_byt {i j : Array UInt8} : decide (V.byt i = V.byt j) = (i.toList == j.toList) := by
  rw [Bool.eq_iff_iff]
  cases i
  cases j
  simp

section
variable {X : Cx} {a b c : Expr} {ta tb tc : TE} {pos : Pos}
theorem fin_bl {pins : List (Addr × Obj)} {σ : St} {H : Hp} {s : Shared} {Q : VK} {k k' : Bool} (I : Inv X pins σ H s) (q : Q (.bl k) H) (e : k = k') : EP X pins σ Q (.bool k') s := by
  subst e
  exact ⟨.bl k, H, I, rfl, q⟩
theorem op_eq : OpR X (compareOp .Eq) rEq := by
  intro pins s σ H x y v u Q I rx ry h
  obtain ⟨hs, q⟩ := h
  cases x with
  | non =>
    cases rx
    cases y with
    | non => cases ry; exact PySem.EqNone.eq_none_none (fin_bl I q (by simp))
    | bl j => cases ry; exact PySem.EqNone.eq_none_bool (fin_bl I q (by simp))
    | int j => obtain ⟨t', rfl⟩ := ry; exact PySem.EqNone.eq_none_int (fin_bl I q (by simp))
    | str j => obtain ⟨t', rfl⟩ := ry; exact PySem.EqNone.eq_none_str (fin_bl I q (by simp))
    | _ => exact absurd (show false = true from hs) Bool.false_ne_true
  | bl i =>
    cases rx
    cases y with
    | non => cases ry; exact PySem.EqNone.eq_bool_none (fin_bl I q (by simp))
    | bl j => cases ry; exact eq_bool (fin_bl I q dec_bl)
    | str j => obtain ⟨t', rfl⟩ := ry; exact PySem.EqMixed.eq_bool_str (fin_bl I q (by simp))
    | _ => exact absurd (show false = true from hs) Bool.false_ne_true
  | int i =>
    obtain ⟨t, rfl⟩ := rx
    cases y with
    | non => cases ry; exact PySem.EqNone.eq_int_none (fin_bl I q (by simp))
    | int j => obtain ⟨t', rfl⟩ := ry; exact eq_int (fin_bl I q dec_int)
    | str j => obtain ⟨t', rfl⟩ := ry; exact PySem.EqMixed.eq_int_str (fin_bl I q (by simp))
    | _ => exact absurd (show false = true from hs) Bool.false_ne_true
  | str i =>
    obtain ⟨t, rfl⟩ := rx
    cases y with
    | non => cases ry; exact PySem.EqNone.eq_str_none (fin_bl I q (by simp))
    | bl j => cases ry; exact PySem.EqMixed.eq_str_bool (fin_bl I q (by simp))
    | int j => obtain ⟨t', rfl⟩ := ry; exact PySem.EqMixed.eq_str_int (fin_bl I q (by simp))
    | str j => obtain ⟨t', rfl⟩ := ry; exact eq_str (fin_bl I q dec_str)
    | _ => exact absurd (show false = true from hs) Bool.false_ne_true
  | byt i =>
    obtain ⟨t, rfl⟩ := rx
    cases y with
    | byt j => obtain ⟨t', rfl⟩ := ry; exact PySem.W.eq_bytes (fin_bl I q dec_byt)
    | _ => exact absurd (show false = true from hs) Bool.false_ne_true
  | _ => cases y <;> exact absurd (show false = true from hs) Bool.false_ne_true
theorem op_ne : OpR X (compareOp .NotEq) rNe := by
  intro pins s σ H x y v u Q I rx ry h
  obtain ⟨hs, q⟩ := h
  cases x with
  | non =>
    cases rx
    cases y with
    | non => cases ry; exact PySem.EqNone.ne_none_none (fin_bl I q (by simp))
    | bl j => cases ry; exact PySem.EqNone.ne_none_bool (fin_bl I q (by simp))
    | int j => obtain ⟨t', rfl⟩ := ry; exact PySem.EqNone.ne_none_int (fin_bl I q (by simp))
    | str j => obtain ⟨t', rfl⟩ := ry; exact PySem.EqNone.ne_none_str (fin_bl I q (by simp))
    | _ => exact absurd (show false = true from hs) Bool.false_ne_true
  | bl i =>
    cases rx
    cases y with
    | non => cases ry; exact PySem.EqNone.ne_bool_none (fin_bl I q (by simp))
    | bl j => cases ry; exact ne_bool (fin_bl I q (congrArg not dec_bl))
    | str j => obtain ⟨t', rfl⟩ := ry; exact PySem.EqMixed.ne_bool_str (fin_bl I q (by simp))
    | _ => exact absurd (show false = true from hs) Bool.false_ne_true
  | int i =>
    obtain ⟨t, rfl⟩ := rx
    cases y with
    | non => cases ry; exact PySem.EqNone.ne_int_none (fin_bl I q (by simp))
    | int j => obtain ⟨t', rfl⟩ := ry; exact ne_int (fin_bl I q (congrArg not dec_int))
    | str j => obtain ⟨t', rfl⟩ := ry; exact PySem.EqMixed.ne_int_str (fin_bl I q (by simp))
    | _ => exact absurd (show false = true from hs) Bool.false_ne_true
  | str i =>
    obtain ⟨t, rfl⟩ := rx
    cases y with
    | non => cases ry; exact PySem.EqNone.ne_str_none (fin_bl I q (by simp))
    | bl j => cases ry; exact PySem.EqMixed.ne_str_bool (fin_bl I q (by simp))
    | int j => obtain ⟨t', rfl⟩ := ry; exact PySem.EqMixed.ne_str_int (fin_bl I q (by simp))
    | str j => obtain ⟨t', rfl⟩ := ry; exact ne_str (fin_bl I q (congrArg not dec_str))
    | _ => exact absurd (show false = true from hs) Bool.false_ne_true
  | byt i =>
    obtain ⟨t, rfl⟩ := rx
    cases y with
    | byt j => obtain ⟨t', rfl⟩ := ry; exact PySem.W.ne_bytes (fin_bl I q (congrArg not dec_byt))
    | _ => exact absurd (show false = true from hs) Bool.false_ne_true
  | _ => cases y <;> exact absurd (show false = true from hs) Bool.false_ne_true

theorem op_lt : OpR X (compareOp .Lt) (rI0 fun i j => .bl (decide (i < j))) := opB0 fun _ _ _ _ _ _ _ q => lt_int q
theorem op_le : OpR X (compareOp .LtE) (rI0 fun i j => .bl (decide (i ≤ j))) := opB0 fun _ _ _ _ _ _ _ q => le_int q
theorem op_gt : OpR X (compareOp .Gt) (rI0 fun i j => .bl (decide (j < i))) := opB0 fun _ _ _ _ _ _ _ q => gt_int q
theorem op_ge : OpR X (compareOp .GtE) (rI0 fun i j => .bl (decide (j ≤ i))) := opB0 fun _ _ _ _ _ _ _ q => ge_int q
/-- two rules for one operation: by cases -/
theorem OpR.or {f : Value → Value → Sem Value} {r r' : R2} (h : OpR X f r) (h' : OpR X f r') : OpR X f (fun x y H Q => r x y H Q ∨ r' x y H Q) := by
  intro pins s σ H x y v u Q I rx ry q
  rcases q with q | q
  · exact h pins s σ H x y v u Q I rx ry q
  · exact h' pins s σ H x y v u Q I rx ry q

theorem nomark (b : Expr) {op : CmpOp} (h : op ≠ .In := by decide) (h2 : op ≠ .NotIn := by decide) : behindInMarks op b = false := by
  have e1 : (op == CmpOp.In) = false := by cases op <;> first | rfl | exact absurd rfl h
  have e2 : (op == CmpOp.NotIn) = false := by cases op <;> first | rfl | exact absurd rfl h2
  cases b <;> simp [behindInMarks, e1, e2]
/-- a comparison as a value; hm: nomark b, or (for in, not in) by with_unfolding_all rfl -/
theorem pe_cmpR {op : CmpOp} {r : R2} (ho : OpR X (compareOp op) r) (ha : PE X a ta) (hb : PE X b tb) (hm : behindInMarks op b = false) : PE X (.Compare a [op] [b] pos) (tOp r ta tb) := by
  intro pins s σ H Q I h
  exact wpAny_Compare1 (binT ha hb I h fun v u s2 x y H2 I2 rx ry q => ho pins s2 σ H2 x y v u Q I2 rx ry q) hm
/-- a reading of a value as a test -/
noncomputable def tTest (t : TE) : TT := fun σ H Q => t σ H fun x H' => ∃ k, x = .bl k ∧ Q k H'
theorem pt_cmpR {op : CmpOp} {r : R2} (ho : OpR X (compareOp op) r) (ha : PE X a ta) (hb : PE X b tb) (hm : behindInMarks op b = false) : PT X (.Compare a [op] [b] pos) (tTest (tOp r ta tb)) := by
  intro pins s σ H Q I h
  refine wpAny_isTrue_Compare1 (thn (ha pins s σ H _ I h) fun v s1 ⟨x, H1, I1, r1, q1⟩ => thn (hb pins s1 σ H1 _ I1 q1) fun u s2 ⟨y, H2, I2, r2, q2⟩ =>
    thn (ho pins s2 σ H2 x y v u _ I2 r1 r2 q2) fun c s3 ⟨z, H3, I3, r3, k, e, q3⟩ => ?_) hm
  subst e
  cases r3
  exact wpAny_truthy_bool ⟨H3, I3, q3⟩
/-- a op1 b op2 c -/
noncomputable def tChain (r r' : R2) (ta tb tc : TE) : TE := fun σ H Q => ta σ H fun x H1 => tb σ H1 fun y H2 => r x y H2 fun z H3 => ∃ k, z = .bl k ∧
  (if k = true then tc σ H3 fun w' H4 => r' y w' H4 Q else Q (.bl false) H3)
theorem pt_chain {op op' : CmpOp} {r r' : R2} (ho : OpR X (compareOp op) r) (ho' : OpR X (compareOp op') r') (ha : PE X a ta) (hb : PE X b tb) (hc : PE X c tc)
    (hm : lastMarks [op, op'] [b, c] = false := by with_unfolding_all rfl) : PT X (.Compare a [op, op'] [b, c] pos) (tTest (tChain r r' ta tb tc)) := by
  intro pins s σ H Q I h
  refine isTrue_chain (thn (ha pins s σ H _ I h) fun v s1 ⟨x, H1, I1, r1, q1⟩ => test_link (thn (hb pins s1 σ H1 _ I1 q1) fun u s2 ⟨y, H2, I2, r2, q2⟩ =>
    thn (ho pins s2 σ H2 x y v u _ I2 r1 r2 q2) fun d s3 ⟨z, H3, I3, r3, k, e, q3⟩ => ?_)) hm
  subst e
  cases r3
  refine wpAny_truthy_bool ?_
  cases k with
  | false =>
    obtain ⟨k', e', q'⟩ := q3
    cases e'
    exact ite_ff ⟨H3, I3, q'⟩
  | true =>
    refine ite_tt (test_last (thn (hc pins s3 σ H3 _ I3 q3) fun w' s4 ⟨z', H4, I4, r4, q4⟩ => thn (ho' pins s4 σ H4 y z' u w' _ I4 r2 r4 q4) fun d' s5 ⟨z2, H5, I5, r5, k2, e2, q5⟩ => ?_))
    subst e2
    cases r5
    exact wpAny_truthy_bool ⟨H5, I5, q5⟩

theorem line63 : (sizeLine : Nat) < 2 ^ 63 := by rw [sizeLine_eq]; decide
theorem op_add_str : OpR X (binaryOp .Add) (fun x y H Q => ∃ i j, x = .str i ∧ y = .str j ∧ i.length + j.length ≤ sizeLine ∧ Q (.str (i ++ j)) H) := by
  intro pins s σ H x y v u Q I rx ry h
  obtain ⟨i, j, rfl, rfl, hz, q⟩ := h
  obtain ⟨t, rfl⟩ := rx
  obtain ⟨t', rfl⟩ := ry
  exact add_str (fun t' tk => ⟨.str (i ++ j), H, I.tok _, ⟨_, rfl⟩, q⟩) hz
/-! ### scalar builtins, by CallR -/
theorem vals1 {x : V} {us : List Value} (r : Vals [x] us) : ∃ u, us = [u] ∧ RelV x u := by
  cases r with
  | cons r1 r2 => cases r2; exact ⟨_, rfl, r1⟩
theorem vals2 {x y : V} {us : List Value} (r : Vals [x, y] us) : ∃ u w', us = [u, w'] ∧ RelV x u ∧ RelV y w' := by
  cases r with
  | cons r1 r2 =>
    cases r2 with
    | cons r3 r4 => cases r4; exact ⟨_, _, rfl, r1, r3⟩
theorem call_abs : CallR X (.builtin "abs") (fun xs H Q => ∃ i, xs = [.int i] ∧ Q (.int (if i < 0 then -i else i)) H) := by
  intro pins s σ H xs us Q I r h
  obtain ⟨i, rfl, q⟩ := h
  obtain ⟨u, rfl, t, rfl⟩ := vals1 r
  exact call_abs_int fun u tk => ⟨.int (if i < 0 then -i else i), H, I.tok _, ⟨_, rfl⟩, q⟩
end
end L2

namespace L2
open PySem PySem.Spec PyProof.Rows

/-! ### an instance, its attributes a map -/
structure ObjM (h : Heap) (x dx C : Addr) (mA : Str → Option Value) : Prop where
  obj : h.get? x = some (PySem.W.instObj C dx)
  ns : h.Ns1 dx mA
  ne : dx ≠ x

theorem lookIn_ns {h : Heap} {dx : Addr} {mA : Str → Option Value} (n : h.Ns1 dx mA) : ∃ od, h.get? dx = some od ∧ ∀ name, PySem.W.lookIn name od = some (mA name) := by
  obtain ⟨o, es, ep, ho, hd, hk, _, hm⟩ := n
  refine ⟨o, ho, fun name => ?_⟩
  have e := hm name
  unfold nsFind findBy at e
  rw [← Array.find?_toList] at e
  unfold PySem.W.lookIn
  rw [hd]
  dsimp only
  split
  · rename_i y q
    rw [q] at e
    exact congrArg some e
  · rename_i q
    rw [q] at e
    have a : es.toList.any (·.refKey) = false := by
      rw [List.any_eq_false]
      intro y hy
      obtain ⟨z, t, hkey⟩ := hk y (Array.mem_toList_iff.mp hy)
      simp [DictEntry.refKey, hkey]
    have a' : ¬ es.toList.any (·.refKey) = true := by rw [a]; exact Bool.false_ne_true
    rw [if_neg a']
    exact congrArg some e

theorem ObjM.look {h : Heap} {x dx C : Addr} {mA : Str → Option Value} (I : ObjM h x dx C mA) : ∃ od, PySem.W.InstAt h x (PySem.W.instObj C dx) C (some od) ∧ ∀ name, PySem.W.lookIn name od = some (mA name) :=
  let ⟨od, ho, hl⟩ := lookIn_ns I.ns
  ⟨od, ⟨I.obj, rfl, rfl, ho⟩, hl⟩

section
variable {prog : Program} {w : World} {A : Around} {E : Value → Shared → Prop} {s : Shared} {K : PySem.W.Frag} {x dx C f : Addr} {mA : Str → Option Value} {name : Str} {v : Value}

theorem get_map {expr : Bool} {Q : Value → Shared → Prop} (X : K.In s.heap) (I : ObjM s.heap x dx C mA) (hg : PySem.W.plainGet K C name = true) (hh : PySem.W.hasDictIn K C = true)
    (ha : PySem.W.findIn K (.ref C) name = some none) (hv : mA name = some v) (hv' : PySem.W.handedIn v = true) (h : Q v { s with toks := s.toks + 1 }) :
    wpAny (model prog w) A (getAttr (.ref x) name expr) Q E s := by
  obtain ⟨od, J, hl⟩ := I.look
  exact PySem.W.get_value X J (PySem.W.plainGet_of hg).1 (PySem.W.findObj_own hh ha rfl (by rw [hl, hv])) hv' h

theorem get_meth {pl : Sem Bool} {Q : Value × List Value → Shared → Prop} (X : K.In s.heap) (I : ObjM s.heap x dx C mA) (hg : PySem.W.plainGet K C name = true)
    (hf : PySem.W.findIn K (.ref C) name = some (some (.ref f))) (ht : PySem.W.isFn K (.ref f) = true) (hv : mA name = none) (h : Q (.ref f, [.ref x]) s) :
    wpAny (model prog w) A (getMethod (.ref x) name pl) Q E s := by
  obtain ⟨od, J, hl⟩ := I.look
  exact PySem.W.method_fn X J (PySem.W.plainGet_of hg).1 (PySem.W.plainGet_of hg).2 hf (beq_iff_eq.mp ht) (by show (PySem.W.lookIn name od).map (·.isSome) = some false; rw [hl, hv]; rfl) h

theorem set_map {ns : List Str} {Q : Unit → Shared → Prop} (X : K.In s.heap) (I : ObjM s.heap x dx C mA)
    (hs : PySem.W.findIn K (.ref C) "__setattr__" = some (some (.builtin "object.__setattr__"))) (hp : PySem.W.plainOver K C = true) (ht : PySem.W.takerIn K C name = some none) (hh : PySem.W.hasDictIn K C = true)
    (hw : PySem.Within mA ns) (hsz : ns.length ≤ sizeLine)
    (h : ∀ h', ObjM h' x dx C (fun y => if y = name then some v else mA y) → Heap.SameBut dx s.heap h' → Q () { s with heap := h', toks := s.toks + 2 }) :
    wpAny (model prog w) A (setAttr (.ref x) name v) Q E s := by
  obtain ⟨od, J, hl⟩ := I.look
  refine PySem.W.set_plain X J hs (PySem.W.osa_open (s := { s with toks := s.toks + 1 }) (r := none) X J hp ht fun b => ?_)
  obtain ⟨cd, hc, hd'⟩ := PySem.W.any_some hh
  have hx : s.heap.get? x = some ⟨.ref C, some dx, .plain, #[]⟩ := I.obj
  refine wpAny_bind (wpAny_pure (wpAny_bind (wpAny_bind (wpAny_loadPart hx (wpAny_bind (PySem.W.Looks.here (s := { s with toks := s.toks + 1 }) (PySem.W.looks_clsIn X hc) ?_))))))
  rw [hd']
  refine wpAny_pure (a := some dx) (wpAny_bind (wpAny_pure (wpAny_bind ?_)))
  refine wpAny_nsSet1 (s := { s with toks := s.toks + 1 }) I.ns fun h' hn2 hs2 => ?_
  obtain ⟨oD, esD, epD, hoD, hdD, hcD⟩ := hn2.count (PySem.Within.cons name v hw)
  refine wpAny_bind (wpAny_lookBehind hoD (by rw [hdD]; exact pastItsLine_dict (Nat.le_trans hcD (by rw [List.length_cons]; omega))) ?_)
  exact wpAny_pure (h _ ⟨(hs2.2 _ (Ne.symm I.ne)).trans I.obj, hn2, I.ne⟩ hs2)

/-- C(..): the dict at the heap's end, the instance behind it; then its __init__ -/
theorem make_map {R : Result → Shared → Prop} {vs : List Value} {kw : List (Str × Value)} (X : K.In s.heap) (hm : PySem.W.makesIn K C = true)
    (hi : PySem.W.findIn K (.ref C) "__init__" = some (some (.ref f))) (hf : PySem.W.typeIn K (.ref f) = some (.type "function"))
    (h : codeAny (model prog w) (A.under (.builtin "type.__call__" ⟨.ref C :: vs, kw⟩)) (.call (.ref f) ⟨.ref (s.heap.objs.size + 1) :: vs, kw⟩) (PySem.W.InitBack (s.heap.objs.size + 1) R)
      { s with heap := (s.heap.push PySem.W.emptyDict).push (PySem.W.instObj C s.heap.objs.size) }) :
    codeAny (model prog w) A (.call (.ref C) ⟨vs, kw⟩) R s := by
  obtain ⟨hh, g, d, t, os⟩ := s
  exact PySem.W.make_core (PySem.W.makes_of X hm) (PySem.W.looks_findIn X hi) (fun self => PySem.W.bind_fn X self hf) (.inl rfl) h
end

/-! ### the attributes as a list of pairs -/
noncomputable def putF (f : Str) (v : V) : List (Str × V) → List (Str × V)
  | [] => [(f, v)]
  | (g, x) :: r => if g = f then (g, v) :: r else (g, x) :: putF f v r
theorem lookup_putF (f g : Str) (v : V) : ∀ fs : List (Str × V), (putF f v fs).lookup g = if g = f then some v else fs.lookup g
  | [] => by
    show List.lookup g [(f, v)] = _
    by_cases h : g = f
    · have hb : (g == f) = true := beq_iff_eq.mpr h
      simp only [List.lookup, hb, if_pos h]
    · have hb : (g == f) = false := beq_eq_false_iff_ne.mpr h
      simp only [List.lookup, hb, if_neg h]
  | (k, x) :: r => by
    have ih := lookup_putF f g v r
    rw [show putF f v ((k, x) :: r) = (if k = f then (k, v) :: r else (k, x) :: putF f v r) from rfl]
    by_cases hk : k = f
    · rw [if_pos hk]
      by_cases h : g = k
      · have hb : (g == k) = true := beq_iff_eq.mpr h
        simp only [List.lookup, hb, if_pos (h.trans hk)]
      · have hb : (g == k) = false := beq_eq_false_iff_ne.mpr h
        simp only [List.lookup, hb, if_neg (fun e : g = f => h (e.trans hk.symm))]
    · rw [if_neg hk]
      by_cases h : g = k
      · have hb : (g == k) = true := beq_iff_eq.mpr h
        simp only [List.lookup, hb, if_neg (fun e : g = f => hk (h.symm.trans e))]
      · have hb : (g == k) = false := beq_eq_false_iff_ne.mpr h
        simp only [List.lookup, hb]
        exact ih
theorem keys_putF (f : Str) (v : V) : ∀ fs : List (Str × V), f ∈ (putF f v fs).map (·.1) ∧ ∀ g, g ∈ fs.map (·.1) → g ∈ (putF f v fs).map (·.1)
  | [] => ⟨by simp [putF], fun g h => by simp at h⟩
  | (k, x) :: r => by
    obtain ⟨i1, i2⟩ := keys_putF f v r
    rw [show putF f v ((k, x) :: r) = (if k = f then (k, v) :: r else (k, x) :: putF f v r) from rfl]
    by_cases hk : k = f
    · rw [if_pos hk]
      subst hk
      exact ⟨by simp, fun g h => by simpa using h⟩
    · rw [if_neg hk]
      refine ⟨?_, fun g h => ?_⟩
      · rw [List.map_cons]
        exact List.mem_cons_of_mem _ i1
      · rw [List.map_cons] at h ⊢
        rcases List.mem_cons.mp h with e | e
        · exact List.mem_cons.mpr (.inl e)
        · exact List.mem_cons_of_mem _ (i2 g e)
theorem length_putF (f : Str) (v : V) : ∀ fs : List (Str × V), (putF f v fs).length ≤ fs.length + 1
  | [] => by simp [putF]
  | (k, x) :: r => by
    have ih := length_putF f v r
    rw [show putF f v ((k, x) :: r) = (if k = f then (k, v) :: r else (k, x) :: putF f v r) from rfl]
    by_cases hk : k = f
    · rw [if_pos hk, List.length_cons, List.length_cons]; omega
    · rw [if_neg hk, List.length_cons, List.length_cons]; omega

theorem RelO.some_of {v : V} {o : Option Value} (r : RelO (some v) o) : ∃ u, o = some u ∧ RelV v u := by
  cases o with
  | none => exact (show False from r).elim
  | some u => exact ⟨u, rfl, r⟩
theorem RelO.none_of {o : Option Value} (r : RelO none o) : o = none := by
  cases o with
  | none => rfl
  | some u => exact (show False from r).elim
theorem handed_of {v : V} {u : Value} (r : RelV v u) : PySem.W.handedIn u = true := by
  cases v with
  | non => cases (show u = Value.none from r); rfl
  | bl b => cases (show u = Value.bool b from r); rfl
  | int i => obtain ⟨t, e⟩ := (show ∃ t, u = Value.int i t from r); cases e; rfl
  | str x => obtain ⟨t, e⟩ := (show ∃ t, u = Value.str x t from r); cases e; rfl
  | byt b => obtain ⟨t, e⟩ := (show ∃ t, u = Value.bytes b t from r); cases e; rfl
  | flt b => obtain ⟨t, e⟩ := (show ∃ t, u = Value.float b t from r); cases e; rfl
  | ref a => cases (show u = Value.ref a from r); rfl
  | ty n => cases (show u = Value.type n from r); rfl

section
variable {P : Program} {w : World} {H H' : Hp} {h h' : Heap} {a C dx : Addr} {fs fs' : List (Str × V)}
theorem ins_get (hok : HOk P w H h) (e : H a = some (.ins C dx fs)) : ∃ mA, ObjM h a dx C mA ∧ (∀ f, RelO (fs.lookup f) (mA f)) ∧ PySem.Within mA (fs.map (·.1)) ∧ fs.length ≤ 1000 ∧ H dx = some (.own a) := by
  obtain ⟨d, z, ne, ob, mA, n, r, q⟩ := (show ObjOk P w H h a (.ins C dx fs) from hok a _ e)
  exact ⟨mA, ⟨ob, n, ne⟩, r, q, z, d⟩
end

/-! ### what of the text a class must have -/
structure Cls (K : PySem.W.Frag) (C : Addr) : Prop where
  pg : PySem.W.plainGet K C Str.empty = true
  hd : PySem.W.hasDictIn K C = true
  po : PySem.W.plainOver K C = true
  sa : PySem.W.findIn K (.ref C) "__setattr__" = some (some (.builtin "object.__setattr__"))
theorem Cls.get {K : PySem.W.Frag} {C : Addr} (c : Cls K C) (f : Str) : PySem.W.plainGet K C f = true := c.pg
/-- no class of it has the name -/
noncomputable def NoAttr (K : PySem.W.Frag) (C : Addr) (f : Str) : Prop := PySem.W.findIn K (.ref C) f = some none
theorem NoAttr.taker {K : PySem.W.Frag} {C : Addr} {f : Str} (n : NoAttr K C f) : PySem.W.takerIn K C f = some none := by
  unfold PySem.W.takerIn
  rw [show PySem.W.findIn K (.ref C) f = some none from n]
  rfl
/-- a constant of the class -/
structure Con (K : PySem.W.Frag) (C : Addr) (f : Str) (v : V) (u : Value) : Prop where
  at_ : PySem.W.findIn K (.ref C) f = some (some u)
  rel : RelV v u
  get : PySem.W.specialIn K u "__get__" = some none
  cp : PySem.W.copiedNames.contains f = false
/-- a method: a plain def of the class or of one above it -/
structure Meth (K : PySem.W.Frag) (C : Addr) (m : Str) (f : Addr) : Prop where
  at_ : PySem.W.findIn K (.ref C) m = some (some (.ref f))
  fn : PySem.W.isFn K (.ref f) = true
  kp : PySem.W.keepIn K (.ref f) = true

section
variable {X : Cx} {pins : List (Addr × Obj)} {σ : St} {H : Hp} {s : Shared} {a C dx : Addr} {fs : List (Str × V)} {f : Str} {v : V} {A : Around} {E : Value → Shared → Prop}

theorem getattr_ok {b : Bool} {Q : Value → Shared → Prop} (I : Inv X pins σ H s) (e : H a = some (.ins C dx fs)) (c : Cls X.K C) (n : NoAttr X.K C f) (l : fs.lookup f = some v)
    (h : ∀ u s', Inv X pins σ H s' → RelV v u → Q u s') : wpAny (model X.prog X.w) A (getAttr (.ref a) f b) Q E s := by
  obtain ⟨mA, O, r, _, _, _⟩ := ins_get I.hok e
  obtain ⟨u, hu, ru⟩ := RelO.some_of (v := v) (o := mA f) (by rw [← l]; exact r f)
  exact get_map I.kIn O (c.get f) c.hd n hu (handed_of ru) (h u _ (I.tok _) ru)

theorem getmeth_ok {m : Str} {g : Addr} {pl : Sem Bool} {Q : Value × List Value → Shared → Prop} (I : Inv X pins σ H s) (e : H a = some (.ins C dx fs)) (c : Cls X.K C) (k : Meth X.K C m g) (l : fs.lookup m = none)
    (h : Q (.ref g, [.ref a]) s) : wpAny (model X.prog X.w) A (getMethod (.ref a) m pl) Q E s := by
  obtain ⟨mA, O, r, _, _, _⟩ := ins_get I.hok e
  have hn : mA m = none := RelO.none_of (by rw [← l]; exact r m)
  exact get_meth I.kIn O (c.get m) k.at_ k.fn hn h

theorem setattr_ok {y : V} {u : Value} {Q : Unit → Shared → Prop} (I : Inv X pins σ H s) (e : H a = some (.ins C dx fs)) (c : Cls X.K C) (n : NoAttr X.K C f) (hl : fs.length < 1000) (ry : RelV y u)
    (h : ∀ s', Inv X pins σ (upd H a (.ins C dx (putF f y fs))) s' → Q () s') : wpAny (model X.prog X.w) A (setAttr (.ref a) f u) Q E s := by
  obtain ⟨mA, O, r, wi, _, ho⟩ := ins_get I.hok e
  have hz : (fs.map (·.1)).length ≤ sizeLine := by rw [List.length_map, sizeLine_eq]; omega
  refine set_map I.kIn O c.sa c.po n.taker c.hd wi hz fun h' O' sb => h _ ?_
  have hd : ∃ o, h'.get? dx = some o := let ⟨o, _, _, e', _⟩ := O'.ns; ⟨o, e'⟩
  refine I.write (x := a) (e := dx) (by rw [e]; exact True.intro) (.inr ho) (fun b q hb z => (sb.2 b hb).trans z) hd ?_
  refine ⟨by rw [upd_ne O.ne]; exact ho, ?_, O.ne, O'.obj, _, O'.ns, fun g => ?_, fun g hg => ?_⟩
  · have := length_putF f y fs; omega
  · show RelO ((putF f y fs).lookup g) (if g = f then some u else mA g)
    rw [lookup_putF]
    by_cases q : g = f
    · rw [if_pos q, if_pos q]; exact ry
    · rw [if_neg q, if_neg q]; exact r g
  · by_cases q : g = f
    · rw [q]; exact (keys_putF f y fs).1
    · refine (keys_putF f y fs).2 g (wi g fun z => hg ?_)
      show (if g = f then some u else mA g) = none
      rw [if_neg q]; exact z

/-- a new instance, tracked, without attributes -/
theorem Inv.made (I : Inv X pins σ H s) : Inv X pins σ (upd (upd H s.heap.objs.size (.own (s.heap.objs.size + 1))) (s.heap.objs.size + 1) (.ins C s.heap.objs.size []))
    { s with heap := (s.heap.push PySem.W.emptyDict).push (PySem.W.instObj C s.heap.objs.size) } := by
  have e1 : (s.heap.push PySem.W.emptyDict).get? s.heap.objs.size = some PySem.W.emptyDict := Heap.get?_push_size s.heap rfl
  have e2 : ((s.heap.push PySem.W.emptyDict).push (PySem.W.instObj C s.heap.objs.size)).get? (s.heap.objs.size + 1) = some (PySem.W.instObj C s.heap.objs.size) := by
    have := Heap.get?_push_size (s.heap.push PySem.W.emptyDict) (o := PySem.W.instObj C s.heap.objs.size) rfl
    rwa [Heap.size_push] at this
  have e3 : (s.heap.push PySem.W.emptyDict).Ns s.heap.objs.size (fun _ => none) := ⟨PySem.W.emptyDict, #[], _, e1, rfl, (fun e he => absurd he (by simp)), fun _ => rfl⟩
  have I1 := I.laid (a := s.heap.objs.size) (o := .own (s.heap.objs.size + 1)) (h' := s.heap.push PySem.W.emptyDict) (t' := s.toks) (fun b u q => Heap.get?_push_of_some _ q) (Nat.le_refl _) ⟨_, e1⟩
  refine I1.laid (a := s.heap.objs.size + 1) (o := .ins C s.heap.objs.size []) (t' := s.toks) (fun b u q => Heap.get?_push_of_some _ q) (Nat.le_of_eq (Heap.size_push _ _)) ?_
  have ne : s.heap.objs.size ≠ s.heap.objs.size + 1 := Nat.ne_of_lt (Nat.lt_succ_self _)
  refine ⟨by rw [upd_ne ne, upd_same], Nat.zero_le _, ne, e2, fun _ => none, (Heap.Ns1.of_empty e3).at fun o q => Heap.get?_push_of_some _ q, fun _ => True.intro, fun y hy => absurd rfl hy⟩

/-- e.f where nothing but the object is asked: through attributeBase (super) and the last hold -/
theorem attr_of {prog : Program} {w : World} {env : Env} {e : Expr} {f : Str} {pos : Pos} {s : Shared} {Q : Value → Shared → Prop} (hb : attributeBase e f env (eval e env) = eval e env)
    (h : wpAny (model prog w) A (eval e env) (fun o s₁ => wpAny (model prog w) A (getAttr o f true) Q E s₁) E s) : wpAny (model prog w) A (eval (.Attribute e f pos) env) Q E s :=
  Attribute_any_ h (by rw [arm_eval_Attribute, hb])
end

/-! ### readings and rules -/
/-- e.f, an attribute of the instance -/
noncomputable def tFld (K : PySem.W.Frag) (ta : TE) (f : Str) : TE := fun σ H Q => ta σ H fun x H1 => ∃ a C dx fs v, x = .ref a ∧ H1 a = some (.ins C dx fs) ∧ Cls K C ∧ NoAttr K C f ∧ fs.lookup f = some v ∧ Q v H1
/-- e.f = value -/
noncomputable def sFld (K : PySem.W.Frag) (ta tv : TE) (f : Str) : TS := fun D σ H => tv σ H fun y H1 => ta σ H1 fun x H2 => ∃ a C dx fs, x = .ref a ∧ H2 a = some (.ins C dx fs) ∧ Cls K C ∧ NoAttr K C f ∧ fs.length < 1000 ∧
  D.nx σ (upd H2 a (.ins C dx (putF f y fs)))
section
variable {X : Cx} {o e value : Expr} {f : Str} {pos pos' tpos : Pos} {ta tv : TE}
theorem pe_fld (he : PE X e ta) (hb : attributeBase e f X.env (eval e X.env) = eval e X.env) : PE X (.Attribute e f pos) (tFld X.K ta f) := by
  intro pins s σ H Q I h
  refine attr_of hb (thn (he pins s σ H _ I h) fun u s1 ⟨x, H1, I1, rx, a, C, dx, fs, v, ex, ea, c, n, l, q⟩ => ?_)
  subst ex
  obtain rfl : u = Value.ref a := rx
  exact getattr_ok I1 ea c n l fun u' s2 I2 ru => ⟨v, H1, I2, ru, q⟩
theorem ps_fld (ha : PE X o ta) (hv : PE X value tv) (hs : swapsWith value (some (.Attribute o f pos')) pos.line X.env = pure false) : PS X (.Assign [.Attribute o f pos'] value pos) (sFld X.K ta tv f) := by
  intro pins s σ H D I h
  refine plainObj_wpAny_Assign_Attribute (thn (hv pins s σ H _ I h) fun u s1 ⟨y, H1, I1, ry, q⟩ => thn (ha pins s1 σ H1 _ I1 q) fun ov s2 ⟨x, H2, I2, rx, a, C, dx, fs, ex, ea, c, n, l, q2⟩ => ?_) hs
  subst ex
  obtain rfl : ov = Value.ref a := rx
  exact setattr_ok I2 ea c n l ry fun s3 I3 => ⟨σ, _, I3, q2⟩
end

/-! ### isinstance -/
section
variable {X : Cx} {pins : List (Addr × Obj)} {σ : St} {H : Hp} {s : Shared} {A : Around} {E : Value → Shared → Prop} {Q : Value → Shared → Prop} {c : Value} {b : Bool}
/-- the type of a value, as the fragment's deciders take it; for an instance its class -/
inductive TyOf (K : PySem.W.Frag) (H : Hp) : V → Value → Prop where
  | non : TyOf K H .non (.type "NoneType")
  | bl (x : Bool) : TyOf K H (.bl x) (.type "bool")
  | int (i : Int) : TyOf K H (.int i) (.type "int")
  | str (x : Str) : TyOf K H (.str x) (.type "str")
  | flt (x : UInt64) : TyOf K H (.flt x) (.type "float")
  | lst {a : Addr} {xs : List V} (e : H a = some (.lst xs)) : TyOf K H (.ref a) (.type "list")
  | frz {a : Addr} {o : Obj} {xs : List V} (e : H a = some (.frz o (.lst xs))) : TyOf K H (.ref a) (.type "list")
  | tup {a : Addr} {xs : List V} (e : H a = some (.tup xs)) : TyOf K H (.ref a) (.type "tuple")
  | dK {a : Addr} {kvs : List (Key × V)} (e : H a = some (.dK kvs)) : TyOf K H (.ref a) (.type "dict")
  | dT {a : Addr} {kvs : List (List Key × V)} (e : H a = some (.dT kvs)) : TyOf K H (.ref a) (.type "dict")
  | ins {a C dx : Addr} {fs : List (Str × V)} (e : H a = some (.ins C dx fs)) (cl : Cls K C) (ha : PySem.W.findIn K (.ref C) "__class__" = some (some (.builtin "object.__class__")))
      (hn : PySem.W.specialIn K (.builtin "object.__class__") "__get__" = some (some (.builtin "getset_descriptor.__get__"))) (htk : PySem.W.takesIn K (.builtin "object.__class__") = some true)
      (hm : PySem.W.mroIn K C (.type "object") = some true) : TyOf K H (.ref a) (.ref C)
end
end L2

namespace L2
open PySem PySem.Spec PyProof.Rows

/-! ### room -/
structure Room (k : Nat) (A : Around) : Prop where
  hd : A.handled = none
  dp : A.depth + 3 * k + 5 < recursionLimit
  un : A.units + 16 * k + 200 < cLine
theorem Room.mono {j k : Nat} {A : Around} (r : Room k A) (h : j ≤ k) : Room j A := ⟨r.hd, by have := r.dp; omega, by have := r.un; omega⟩
theorem Room.deeper {k : Nat} {A : Around} (r : Room (k + 1) A) (env : Env) : Room k (A.deeper env) :=
  ⟨r.hd, by have := r.dp; show A.depth + 1 + 3 * k + 5 < _; omega, by have := r.un; show A.units + 3 + 16 * k + 200 < _; omega⟩
theorem make_depth {A : Around} {C : Addr} {us : List Value} {kw : List (Str × Value)} : (A.under (.builtin "type.__call__" ⟨.ref C :: us, kw⟩)).depth = A.depth + 1 := by
  first | rfl | simp [Around.under, Code.weight, Code.isCreation, Code.isGuard, Code.isCaller, Code.frames, Code.isFrame, guardIds]
theorem make_units {A : Around} {C : Addr} {us : List Value} {kw : List (Str × Value)} : (A.under (.builtin "type.__call__" ⟨.ref C :: us, kw⟩)).units = A.units + 1 := by
  first | rfl | simp [Around.under, Code.cUnits, Code.frames, Code.isFrame]
theorem Room.make {k : Nat} {A : Around} (r : Room (k + 1) A) (C : Addr) (us : List Value) (kw : List (Str × Value)) : Room k (A.under (.builtin "type.__call__" ⟨.ref C :: us, kw⟩)) :=
  ⟨r.hd, by have := r.dp; rw [make_depth]; omega, by have := r.un; rw [make_units]; omega⟩
theorem Room.depth {k : Nat} {A : Around} (r : Room k A) : A.depth < recursionLimit := by have := r.dp; omega
/-! ### argument lists and displays -/
noncomputable def tNil : TA := fun _ H Q => Q [] H
noncomputable def tCons (ta : TE) (tr : TA) : TA := fun σ H Q => ta σ H fun x H1 => tr σ H1 fun xs H2 => Q (x :: xs) H2
section
variable {X : Cx} {e : Expr} {es : List Expr} {te : TE} {t : TA} {pos : Pos}
theorem pa_nil : PA X [] tNil := fun _ _ _ _ H Q I h => Calls.spliced_nil ⟨[], H, I, .nil, h⟩
theorem pa_cons (ha : PE X e te) (hr : PA X es t) (hs : starEach (e :: es) X.env = (false, eval e X.env) :: starEach es X.env := by rfl) : PA X (e :: es) (tCons te t) := by
  intro pos pins s σ H Q I h
  rw [hs]
  show wpAny _ _ (spliced ((false, eval e X.env) :: backTo pos (starEach es X.env))) _ _ s
  refine Calls.spliced_cons (thn (ha pins s σ H _ I h) fun u s1 ⟨x, H1, I1, r1, q1⟩ => ?_)
  exact thn (hr pos pins s1 σ H1 _ I1 q1) fun us s2 ⟨xs, H2, I2, r2, q2⟩ => ⟨x :: xs, H2, I2, .cons r1 r2, q2⟩

/-- a tuple, a list of written items -/
noncomputable def tTup (t : TA) : TE := fun σ H Q => t σ H fun xs H1 => xs.length ≤ sizeLine ∧ ∀ p, H1 p = none → Q (.ref p) (upd H1 p (.tup xs))
noncomputable def tLst (t : TA) : TE := fun σ H Q => t σ H fun xs H1 => xs.length ≤ sizeLine ∧ ∀ p, H1 p = none → Q (.ref p) (upd H1 p (.lst xs))
theorem pe_tup {x1} (h : PA X es t) : PE X (.Tuple es x1 pos) (tTup t) := by
  intro pins s σ H Q I hq
  refine wpAny_Tuple_spliced (thn (h pos pins s σ H _ I hq) fun us s1 ⟨xs, H1, I1, r, z, q⟩ => ⟨by rw [← r.length]; exact z, ?_⟩)
  have hf : H1 s1.heap.objs.size = none := I1.hok.fresh (Nat.le_refl _)
  refine ⟨.ref s1.heap.objs.size, upd H1 s1.heap.objs.size (.tup xs), I1.laid (t' := s1.toks) (fun b u e => Heap.get?_push_of_some _ e) (Nat.le_refl _) ?_, rfl, q _ hf⟩
  exact ⟨z, us, r, ⟨_, Heap.get?_push_size _ rfl, rfl, _, rfl⟩⟩
theorem pe_lst (h : PA X es t) : PE X (.List es pos) (tLst t) := by
  intro pins s σ H Q I hq
  refine wpAny_List_spliced (thn (h pos pins s σ H _ I hq) fun us s1 ⟨xs, H1, I1, r, z, q⟩ => ⟨by rw [← r.length]; exact z, ?_⟩)
  have hf : H1 s1.heap.objs.size = none := I1.hok.fresh (Nat.le_refl _)
  refine ⟨.ref s1.heap.objs.size, upd H1 s1.heap.objs.size (.lst xs), I1.laid (t' := s1.toks) (fun b u e => Heap.get?_push_of_some _ e) (Nat.le_refl _) ?_, rfl, q _ hf⟩
  exact ⟨z, us, 0, r, Heap.get?_push_size _ rfl⟩
end

/-! ### what a def promises -/
/-- a def's promise: the bound arguments in the parameters' order, the heap, the wanted end, the wanted exception -/
noncomputable abbrev Sp := List V → Hp → VK → XK → Prop
/-- how an exception lies behind a call (file 08 gives it): the callers' frames, abstract heap and state ahead of the call, the wish, the exception, the state -/
noncomputable abbrev CXT := List Env → Hp → Shared → XK → Value → Shared → Prop

/-- the state at a call -/
structure Env0 (P : Program) (w : World) (K : PySem.W.Frag) (mg : Str → Option Value) (base : Heap) (A : Around) (outer : List Env) (s : Shared) (H : Hp) : Prop where
  frames : A.frames = some outer
  mod : Mod K mg base
  bs : ∀ b o, base.get? b = some o → s.heap.get? b = some o ∧ H b = none
  bsz : base.objs.size ≤ s.heap.objs.size
  funs : s.heap.FunFrames base outer
  frf : ∀ b ∈ frs outer, H b = none
  hok : HOk P w H s.heap
  bare : AllBare s.gens
/-- a call's end -/
noncomputable def CE (outer : List Env) (P : Program) (w : World) (H : Hp) (s : Shared) (Q : VK) (u : Value) (s' : Shared) : Prop :=
  ∃ v H', s'.os = s.os ∧ AllBare s'.gens ∧ Un (frs outer) [] H H' s.heap s'.heap ∧ HOk P w H' s'.heap ∧ RelV v u ∧ Q v H'
noncomputable def CR (CX : CXT) (outer : List Env) (P : Program) (w : World) (H : Hp) (s : Shared) (Q : VK) (E : XK) (r : Result) (s' : Shared) : Prop :=
  match r with
  | .ok (.ret u) => CE outer P w H s Q u s'
  | .ok _ => False
  | .error e => CX outer H s E e s'
structure FnOk (P : Program) (w : World) (K : PySem.W.Frag) (mg : Str → Option Value) (base : Heap) (CX : CXT) (k : Nat) (f : Addr) (fd : FuncData) (ps : List Str) (sp : Sp) : Prop where
  len : ∀ vs H Q E, sp vs H Q E → vs.length = ps.length
  run : ∀ (A : Around) (outer : List Env) (s : Shared) (H : Hp) (args : Args) (us : List Value) (vs : List V) (Q : VK) (E : XK), Room k A → Env0 P w K mg base A outer s H → BindsTo s fd args (ps.zip us) → Vals vs us → sp vs H Q E →
    codeAny (model P w) A (.call (.ref f) args) (CR CX outer P w H s Q E) s
theorem FnOk.mono {P : Program} {w : World} {K : PySem.W.Frag} {mg : Str → Option Value} {base : Heap} {CX : CXT} {j k : Nat} {f : Addr} {fd : FuncData} {ps : List Str} {sp : Sp} (F : FnOk P w K mg base CX j f fd ps sp) (h : j ≤ k) :
    FnOk P w K mg base CX k f fd ps sp := ⟨F.len, fun A outer s H args us vs Q E hr => F.run A outer s H args us vs Q E (hr.mono h)⟩
theorem Env0.make {P : Program} {w : World} {K : PySem.W.Frag} {mg : Str → Option Value} {base : Heap} {A : Around} {outer : List Env} {s : Shared} {H : Hp} (e : Env0 P w K mg base A outer s H) (C : Addr) (us : List Value) (kw : List (Str × Value)) :
    Env0 P w K mg base (A.under (.builtin "type.__call__" ⟨.ref C :: us, kw⟩)) outer s H := ⟨by first | exact e.frames | (simpa [Around.under, Code.envs, Code.isFrame, pushEnvs] using e.frames), e.mod, e.bs, e.bsz, e.funs, e.frf, e.hok, e.bare⟩
section
variable {X : Cx} {pins : List (Addr × Obj)} {σ : St} {H : Hp} {s s' : Shared}
/-- from a body: what a callee wants -/
theorem Inv.env0 (I : Inv X pins σ H s) : Env0 X.prog X.w X.K X.mg X.base X.A X.stack s H :=
  ⟨I.ok.frames, I.ok.mod, I.bs, Nat.le_trans I.ok.bsz I.sz, I.stack, I.stkFree, I.hok, I.bare⟩
/-- behind a call -/
theorem Inv.after {Q : VK} {u : Value} (I : Inv X pins σ H s) (h : CE X.stack X.prog X.w H s Q u s') : EP X pins σ Q u s' := by
  obtain ⟨v, H', os, bare, un, hok, r, q⟩ := h
  obtain ⟨hh, g, d, t, os'⟩ := s'
  obtain rfl : os' = s.os := os
  exact ⟨v, H', I.call (h' := hh) (g' := g) (d' := d) (t' := t) (ch := []) un hok bare (fun b z => absurd z (by simp)), r, q⟩
end

/-! ### calls -/
/-- f(..): the written arguments, then the defaults dvs; E: what is wanted of an exception -/
noncomputable def tCall (sp : Sp) (dvs : List V) (E : XK) (t : TA) : TE := fun σ H Q => t σ H fun vs H1 => sp (vs ++ dvs) H1 Q E
/-- o.m(..) of an instance of the class at C -/
noncomputable def tMeth (C : Addr) (m : Str) (sp : Sp) (dvs : List V) (E : XK) (ta : TE) (t : TA) : TE := fun σ H Q => ta σ H fun x H1 => ∃ a dx fs, x = .ref a ∧ H1 a = some (.ins C dx fs) ∧ fs.lookup m = none ∧
  t σ H1 fun vs H2 => sp (x :: (vs ++ dvs)) H2 Q E
/-- C(..): a new instance and its dict, then __init__ -/
noncomputable def tMake (C : Addr) (sp : Sp) (dvs : List V) (E : XK) (t : TA) : TE := fun σ H Q => t σ H fun vs H1 => ∀ x dx, H1 x = none → H1 dx = none → dx ≠ x →
  sp (.ref x :: (vs ++ dvs)) (upd (upd H1 dx (.own x)) x (.ins C dx [])) (fun v H2 => v = .non ∧ Q (.ref x) H2) E

/-- how the parameters are bound: us the positional arguments, kw the keywords' values by name, ds the defaults that fill up -/
noncomputable def Binds (K : PySem.W.Frag) (fd : FuncData) (ps : List Str) (ds : List Value) : Prop :=
  ∀ (s : Shared) (us : List Value), K.In s.heap → (us ++ ds).length = ps.length → BindsTo s fd ⟨us, []⟩ (ps.zip (us ++ ds))
/-- every parameter is given -/
theorem Binds.all {K : PySem.W.Frag} {fd : FuncData} {ps : List Str} (h : ∀ us : List Value, us.length = ps.length → bindArgs fd ⟨us, []⟩ = pure (ps.zip us)) : Binds K fd ps [] := fun s us _ hl => by
  rw [List.append_nil] at hl ⊢
  exact .of_eq (h us hl)

/-- an exception of a callee reaches what this body wants of exceptions -/
noncomputable def Passes (CX : CXT) (X : Cx) (E : XK) : Prop := ∀ (pins : List (Addr × Obj)) (σ : St) (H : Hp) (s : Shared) (e : Value) (s' : Shared), Inv X pins σ H s → CX X.stack H s E e s' → X.xe e s'

section
variable {X : Cx} {CX : CXT} {k : Nat} {f C : Addr} {fd : FuncData} {ps : List Str} {sp : Sp} {dvs : List V} {ds : List Value} {E : XK} {x m : Str} {p pos apos : Pos} {e o : Expr} {es : List Expr} {ta : TE} {t : TA}

/-- the callee runs -/
theorem run_fn {pins : List (Addr × Obj)} {σ : St} {H : Hp} {s : Shared} {Q : VK} {us : List Value} {vs : List V} (F : FnOk X.prog X.w X.K X.mg X.base CX k f fd ps sp) (hr : Room k X.A) (hb : Binds X.K fd ps ds) (hd : Vals dvs ds) (hx : Passes CX X E)
    (I : Inv X pins σ H s) (r : Vals vs us) (h : sp (vs ++ dvs) H Q E) : wpAny (model X.prog X.w) X.A (call (.ref f) us) (EP X pins σ Q) X.xe s := by
  have r2 : Vals (vs ++ dvs) (us ++ ds) := r.append hd
  have hl : (us ++ ds).length = ps.length := by rw [← r2.length]; exact F.len _ _ _ _ h
  refine wpAny_call (codeAny_mono (F.run X.A X.stack s H ⟨us, []⟩ (us ++ ds) (vs ++ dvs) Q E hr I.env0 (hb s us I.kIn hl) r2 h) fun r s' hq => ?_)
  cases r with
  | error e => exact hx pins σ H s e s' I hq
  | ok fl =>
    cases fl with
    | ret u => exact I.after hq
    | next => exact False.elim hq
    | brk => exact False.elim hq
    | cont => exact False.elim hq

theorem pe_call (F : FnOk X.prog X.w X.K X.mg X.base CX k f fd ps sp) (hr : Room k X.A) (hg : Gl X x) (hm : X.mg x = some (.ref f)) (hk : PySem.W.keepIn X.K (.ref f) = true) (hb : Binds X.K fd ps ds) (hd : Vals dvs ds) (hx : Passes CX X E)
    (ha : PA X (e :: es) t) (hdb : (x == ("__debug__" : Str)) = false := by decide) (he : starEach (e :: es) X.env = (false, eval e X.env) :: starEach es X.env := by rfl) (hpl : (backTo pos (starEach es X.env)).any (·.1) = false := by rfl) :
    PE X (.Call (.Name x p) (e :: es) [] pos) (tCall sp dvs E t) := by
  intro pins s σ H Q I h
  refine wpAny_Call_Name_kw (ld_glob I hg hm ?_ hdb)
  refine PySem.W.callWith_K (h₀ := X.base) I.ok.mod.kin hk (thn (ha pos pins s σ H _ I h) fun us s1 ⟨vs, H1, I1, r, q⟩ => ⟨I1.kIn, ?_⟩) he hpl
  exact run_fn F hr hb hd hx I1 r q
/-- o.m(e, ..) -/
theorem pe_meth {pl : Sem Bool} (he : PE X o ta) (c : Cls X.K C) (hm : Meth X.K C m f) (F : FnOk X.prog X.w X.K X.mg X.base CX k f fd ps sp) (hr : Room k X.A) (hb : Binds X.K fd ps ds) (hd : Vals dvs ds) (hx : Passes CX X E) (ha : PA X (e :: es) t)
    (hst : starEach (e :: es) X.env = (false, eval e X.env) :: starEach es X.env := by rfl) (hpl : (backTo pos (starEach es X.env)).any (·.1) = false := by rfl)
    (ht : eval (.Call (.Attribute o m apos) (e :: es) [] pos) X.env = (do
      let ov ← eval o X.env
      standAt apos.atName
      let (f, first) ← holding [ov] (getMethod ov m pl)
      callWith pos f first (backTo pos (starEach (e :: es) X.env)) (backToKw pos (keywordEach [] X.env))) := by rfl) :
    PE X (.Call (.Attribute o m apos) (e :: es) [] pos) (tMeth C m sp dvs E ta t) := by
  intro pins s σ H Q I h
  refine PySem.W.methodCall_KW (pl := pl) (thn (he pins s σ H _ I h) fun u s1 ⟨x, H1, I1, rx, a, dx, fs, ex, ea, l, q⟩ => ?_) ht
  subst ex
  obtain rfl : u = Value.ref a := rx
  refine getmeth_ok I1 ea c hm l ?_
  refine PySem.W.callWith_K (first := [.ref a]) (h₀ := X.base) I.ok.mod.kin hm.kp (thn (ha pos pins s1 σ H1 _ I1 q) fun us s2 ⟨vs, H2, I2, r, q2⟩ => ⟨I2.kIn, ?_⟩) hst hpl
  exact run_fn (us := .ref a :: us) (vs := .ref a :: vs) F hr hb hd hx I2 (.cons rfl r) q2
/-- what a class must have to be made -/
structure Mk (K : PySem.W.Frag) (C f : Addr) : Prop where
  makes : PySem.W.makesIn K C = true
  init : PySem.W.findIn K (.ref C) "__init__" = some (some (.ref f))
  fn : PySem.W.isFn K (.ref f) = true
  kp : PySem.W.keepIn K (.ref C) = true

theorem run_make {pins : List (Addr × Obj)} {σ : St} {H : Hp} {s : Shared} {Q : VK} {us : List Value} {vs : List V} (M : Mk X.K C f) (F : FnOk X.prog X.w X.K X.mg X.base CX k f fd ps sp) (hr : Room (k + 1) X.A) (hb : Binds X.K fd ps ds) (hd : Vals dvs ds)
    (hx : Passes CX X E) (I : Inv X pins σ H s) (r : Vals vs us)
    (h : ∀ x dx, H x = none → H dx = none → dx ≠ x → sp (.ref x :: (vs ++ dvs)) (upd (upd H dx (.own x)) x (.ins C dx [])) (fun v H2 => v = .non ∧ Q (.ref x) H2) E) :
    wpAny (model X.prog X.w) X.A (call (.ref C) us) (EP X pins σ Q) X.xe s := by
  have hq := h (s.heap.objs.size + 1) s.heap.objs.size (I.hok.fresh (Nat.le_succ _)) (I.hok.fresh (Nat.le_refl _)) (Nat.ne_of_lt (Nat.lt_succ_self _))
  have I2 := Inv.made (C := C) I
  have r2 : Vals (V.ref (s.heap.objs.size + 1) :: (vs ++ dvs)) (Value.ref (s.heap.objs.size + 1) :: (us ++ ds)) := .cons rfl (r.append hd)
  have hl : (Value.ref (s.heap.objs.size + 1) :: us ++ ds).length = ps.length := by
    have e := r2.length
    rw [F.len _ _ _ _ hq] at e
    exact e.symm
  refine wpAny_call (make_map (f := f) I.kIn M.makes M.init (beq_iff_eq.mp M.fn) (codeAny_mono (F.run _ X.stack _ _ ⟨Value.ref (s.heap.objs.size + 1) :: us, []⟩ (Value.ref (s.heap.objs.size + 1) :: (us ++ ds)) _ _ E (hr.make C us [])
    (I2.env0.make C us []) (hb _ (Value.ref (s.heap.objs.size + 1) :: us) I2.kIn hl) r2 hq) fun r s' hq' => ?_))
  cases r with
  | error e => exact hx pins σ _ _ e s' I2 hq'
  | ok fl =>
    cases fl with
    | ret u =>
      obtain ⟨v, H', I3, rv, ev, q3⟩ := I2.after hq'
      subst ev
      exact ⟨rv, ⟨V.ref (s.heap.objs.size + 1), H', I3, rfl, q3⟩⟩
    | next => exact False.elim hq'
    | brk => exact False.elim hq'
    | cont => exact False.elim hq'
theorem pe_make0 (M : Mk X.K C f) (F : FnOk X.prog X.w X.K X.mg X.base CX k f fd ps sp) (hr : Room (k + 1) X.A) (hg : Gl X x) (hm : X.mg x = some (.ref C)) (hb : Binds X.K fd ps ds) (hd : Vals dvs ds) (hx : Passes CX X E)
    (hdb : (x == ("__debug__" : Str)) = false := by decide) : PE X (.Call (.Name x p) [] [] pos) (tMake C sp dvs E tNil) := by
  intro pins s σ H Q I h
  refine wpAny_Call_Name_kw (ld_glob I hg hm ?_ hdb)
  exact PySem.W.callWith_K0 I.kIn M.kp (run_make (us := []) M F hr hb hd hx I .nil h)
end

section
variable {X : Cx} {CX : CXT} {k : Nat} {f C : Addr} {fd : FuncData} {ps ks : List Str} {sp : Sp} {E : XK} {x m : Str} {p pos apos kpos : Pos} {e o : Expr} {es : List Expr} {kws : List Keyword} {te ta : TE} {t tk : TA} {nm : Option Str}
/-- how a call with keywords binds: g puts the positional values us and the keywords' values ws (names ks) in the parameters' order, defaults among them -/
structure KBinds (K : PySem.W.Frag) (fd : FuncData) (ps ks : List Str) (g : List Value → List Value → List Value) (gV : List V → List V → List V) : Prop where
  to : ∀ (s : Shared) (us ws : List Value), K.In s.heap → (g us ws).length = ps.length → BindsTo s fd ⟨us, ks.zip ws⟩ (ps.zip (g us ws))
  rel : ∀ {vs : List V} {us : List Value} {zs : List V} {ws : List Value}, Vals vs us → Vals zs ws → Vals (gV vs zs) (g us ws)
variable {g : List Value → List Value → List Value} {gV : List V → List V → List V}
end

/-! ### a def's body keeps its promise -/
/-- names: the parameters first -/
structure FnScope (N P : List Str) (sc : Scope) : Prop where
  kind : sc.kind = .function
  co : sc.isCoroutine = false
  gen : sc.isGenerator = false
  nd : N.Nodup
  pre : N.take P.length = P
  par : ∀ x ∈ P, sc.names.lookup x = some .local ∨ sc.names.lookup x = some .cell
  nofree : ∀ y ∈ sc.names, y.2 ≠ .free

theorem bindL_out {kindOf : Str → Option NameKind} {x : Str} : ∀ {binds : List (Str × Value)} {m : Str → Option Value}, (∀ v, (x, v) ∉ binds) → bindL kindOf binds m x = m x
  | [], _, _ => rfl
  | (n, v) :: r, m, h => by
    unfold bindL
    rw [bindL_out fun w hw => h w (List.mem_cons_of_mem _ hw)]
    split
    · have : x ≠ n := by rintro rfl; exact h v List.mem_cons_self
      simp [this]
    · rfl
theorem bindC_out {kindOf : Str → Option NameKind} {x : Str} : ∀ {binds : List (Str × Value)} {m : Str → Option Value}, (∀ v, (x, v) ∉ binds) → bindC kindOf binds m x = m x
  | [], _, _ => rfl
  | (n, v) :: r, m, h => by
    unfold bindC
    rw [bindC_out fun w hw => h w (List.mem_cons_of_mem _ hw)]
    split
    · rfl
    · have : x ≠ n := by rintro rfl; exact h v List.mem_cons_self
      simp [this]
theorem bindL_get {kindOf : Str → Option NameKind} {x : Str} {v : Value} : ∀ {P : List Str} {vs : List Value} {i : Nat} {m : Str → Option Value}, P.Nodup → P[i]? = some x → vs[i]? = some v → kindOf x = some .local →
    bindL kindOf (P.zip vs) m x = some v
  | [], _, _, _, _, h, _, _ => by simp at h
  | _ :: _, [], _, _, _, _, h, _ => by simp at h
  | p :: P, w :: vs, 0, m, nd, h1, h2, hk => by
    simp at h1 h2; subst h1; subst h2
    show bindL kindOf ((p, w) :: P.zip vs) m p = _
    unfold bindL
    rw [bindL_out fun v hv => (List.nodup_cons.mp nd).1 (List.of_mem_zip hv).1, if_pos hk]
    simp
  | p :: P, w :: vs, i + 1, m, nd, h1, h2, hk => by
    show bindL kindOf ((p, w) :: P.zip vs) m x = _
    unfold bindL
    exact bindL_get (i := i) (List.nodup_cons.mp nd).2 (by simpa using h1) (by simpa using h2) hk
theorem bindC_get {kindOf : Str → Option NameKind} {x : Str} {v : Value} : ∀ {P : List Str} {vs : List Value} {i : Nat} {m : Str → Option Value}, P.Nodup → P[i]? = some x → vs[i]? = some v → kindOf x ≠ some .local →
    bindC kindOf (P.zip vs) m x = some v
  | [], _, _, _, _, h, _, _ => by simp at h
  | _ :: _, [], _, _, _, _, h, _ => by simp at h
  | p :: P, w :: vs, 0, m, nd, h1, h2, hk => by
    simp at h1 h2; subst h1; subst h2
    show bindC kindOf ((p, w) :: P.zip vs) m p = _
    unfold bindC
    rw [bindC_out fun v hv => (List.nodup_cons.mp nd).1 (List.of_mem_zip hv).1, if_neg hk]
    simp
  | p :: P, w :: vs, i + 1, m, nd, h1, h2, hk => by
    show bindC kindOf ((p, w) :: P.zip vs) m x = _
    unfold bindC
    exact bindC_get (i := i) (List.nodup_cons.mp nd).2 (by simpa using h1) (by simpa using h2) hk

/-- the names' values at the entry -/
noncomputable def start (N : List Str) (vs : List V) : St := vs.map some ++ List.replicate (N.length - vs.length) none

/-- the context of a def's body, at its entry; an exception leaves the frame, then lies as CX says -/
noncomputable def cxOf (CX : CXT) (P : Program) (w : World) (K : PySem.W.Frag) (mg : Str → Option Value) (base : Heap) (N : List Str) (qual : Str) (scope : Scope) (f : Addr) (cd : Value) (A : Around) (outer : List Env) (s : Shared) (H : Hp) (E : XK) : Cx where
  prog := P
  w := w
  K := K
  mg := mg
  base := base
  A := A.deeper (envOfC qual scope s.heap.objs.size f cd)
  N := N
  s₀ := s
  H₀ := H
  env := envOfC qual scope s.heap.objs.size f cd
  outer := outer
  stack := envOfC qual scope s.heap.objs.size f cd :: outer
  ex := []
  calm := true
  fn := fun _ => true
  pn := []
  xe := fun e s' => wpAny (model P w) (A.deeper (envOfC qual scope s.heap.objs.size f cd)) (leaving (envOfC qual scope s.heap.objs.size f cd) e) (fun _ s'' => CX outer H s E e s'') (fun e' s'' => CX outer H s E e' s'') s'

theorem cell_has {sc : Scope} {n : Nat} {x : Str} (h : sc.names.lookup x = some .cell) : ∃ c, (cellsFrom n sc.names []).lookup x = some c := by
  have q := PySem.W.cellsFrom_some sc.names n [] (.inl h)
  exact Option.isSome_iff_exists.mp q

theorem inv_start {CX : CXT} {P : Program} {w : World} {K : PySem.W.Frag} {mg : Str → Option Value} {base : Heap} {N ps : List Str} {qual : Str} {scope : Scope} {f : Addr} {cd : Value} {A : Around} {outer : List Env} {s s1 : Shared} {H : Hp} {E : XK} {us : List Value} {vs : List V}
    (S : FnScope N ps scope) (hd : A.handled = none) (e0 : Env0 P w K mg base A outer s H) (hl : vs.length = ps.length) (r : Vals vs us)
    (x : InCallC s s.heap.objs.size (bindL (envOfC qual scope s.heap.objs.size f cd).kindOf (ps.zip us) fun _ => none) (cellsFrom (s.heap.objs.size + 1) scope.names []) (bindC (envOfC qual scope s.heap.objs.size f cd).kindOf (ps.zip us) fun _ => none) s1) :
    Inv (cxOf CX P w K mg base N qual scope f cd A outer s H E) [] (start N vs) H s1 := by
  have hpl : ps.length ≤ N.length := by have := congrArg List.length S.pre; rw [List.length_take] at this; omega
  obtain ⟨h1, tk, rfl, hk⟩ := x.done
  have noA : ∀ b : Addr, b ∉ (cxOf CX P w K mg base N qual scope f cd A outer s H E).ex := fun b z => absurd (show b ∈ ([] : List Addr) from z) (by simp)
  refine ⟨⟨e0.mod, S.kind, rfl, rfl, Nat.le_refl _, fun y z c h1 h2 => ?_, fun y hy => ?_, fun y c _ h => ?_, fun _ => hd, Around.frames_deeper e0.frames, .inr ⟨rfl, rfl⟩, fun b z => absurd z (noA b), e0.bs, e0.bsz, fun b _ _ => noA b, fun b z => absurd z (noA b), e0.funs, e0.frf⟩,
    rfl, e0.bare, Un.kept hk, ⟨_, x.toInCall.ns, fun i y v h1 h2 h3 => ?_⟩, fun y c h => ⟨_, x.cell y c h⟩, e0.hok.fresh (Nat.le_refl _), fun y c h => ?_, fun p hp => absurd (show p ∈ ([] : List (Addr × Obj)) from hp) (by simp), e0.hok.kept hk, ?_⟩
  · exact name_of_addr x.apart (PySem.mem_of_lookup h1) (PySem.mem_of_lookup h2)
  · have hy : scope.names.lookup y = some .cell ∨ scope.names.lookup y = some .free := hy
    rcases hy with hy | hy
    · exact cell_has hy
    · exact absurd rfl (S.nofree _ (PySem.mem_of_lookup hy))
  · exact Nat.le_of_lt (x.above y c (PySem.mem_of_lookup h))
  · have hi : i < vs.length := by
      unfold start at h2
      by_cases hi : i < vs.length
      · exact hi
      · rw [List.getElem?_append_right (by simpa using hi)] at h2
        rw [List.getElem?_replicate] at h2
        split at h2 <;> cases h2
    have ha : vs[i]? = some v := by
      unfold start at h2
      rw [List.getElem?_append_left (by simpa using hi), List.getElem?_map] at h2
      cases e : vs[i]? with
      | none => rw [e] at h2; cases h2
      | some a => rw [e] at h2; cases h2; rfl
    obtain ⟨u, hu, rv⟩ := r.get ha
    have hp : ps[i]? = some y := by
      rw [← S.pre, List.getElem?_take_of_lt (by omega)]; exact h1
    have ndP : ps.Nodup := by rw [← S.pre]; exact S.nd.sublist (List.take_sublist _ _)
    refine ⟨u, rv, ?_⟩
    rcases S.par y (List.mem_of_getElem? hp) with k | k
    · exact .inl ⟨k, bindL_get ndP hp hu k⟩
    · obtain ⟨c, e⟩ := cell_has (n := s.heap.objs.size + 1) k
      refine .inr ⟨.inl k, c, e, ?_⟩
      have q := x.cell y c e
      rw [bindC_get ndP hp hu (by show scope.names.lookup y ≠ _; rw [k]; decide)] at q
      exact q
  · exact e0.hok.fresh (Nat.le_of_lt (x.above y c (PySem.mem_of_lookup h)))
  · unfold start
    show _ = N.length
    rw [List.length_append, List.length_map, List.length_replicate]
    omega

/-- THE RULE: a def (or a method) of the text, by its body. The body's reading t is chosen for each entry; it is run at the parameters' values -/
theorem fn_of {CX : CXT} {P : Program} {w : World} {K : PySem.W.Frag} {mg : Str → Option Value} {base : Heap} {k : Nat} {f : Addr} {name qual : Str} {params : Arguments} {body : List Stmt} {scope : Scope} {dV kV doc pm cdv ct oc : Value} {an od : Option Addr}
    {osl : Array (Option Value)} {N ps : List Str} {sp : Sp} (lk : K.lookup f = some ⟨oc, od, .func (PySem.W.fnOf name qual params body scope dV kV doc pm an cdv ct), osl⟩) (hcd : PySem.W.codeIn K cdv qual = true) (S : FnScope N ps scope)
    (len : ∀ vs H Q E, sp vs H Q E → vs.length = ps.length)
    (hbody : ∀ (A : Around) (outer : List Env) (s : Shared) (H : Hp) (vs : List V) (Q : VK) (E : XK), Room k (A.deeper (envOfC qual scope s.heap.objs.size f cdv)) → sp vs H Q E →
      ∃ t, PSs (cxOf CX P w K mg base N qual scope f cdv A outer s H E) body t ∧ t { nx := fun _ H' => Q .non H', rt := Q } (start N vs) H) :
    FnOk P w K mg base CX (k + 1) f (PySem.W.fnOf name qual params body scope dV kV doc pm an cdv ct) ps sp := by
  refine ⟨len, fun A outer s H args us vs Q E hr e0 hb r hsp => ?_⟩
  have hl := len _ _ _ _ hsp
  have KX : K.In s.heap := e0.mod.kin.keeps fun b o e => (e0.bs b o e).1
  have lim : s.heap.NoLimit := e0.mod.nolimit.keeps fun b o e => (e0.bs b o e).1
  have hkind : ∀ y ∈ ps.zip us, scope.names.lookup y.1 = some .local ∨ (scope.names.lookup y.1 = some .cell ∧ ((cellsFrom (s.heap.objs.size + 1) scope.names []).lookup y.1).isSome = true) := fun ⟨n, v⟩ hy => by
    rcases S.par n (List.of_mem_zip hy).1 with q | q
    · exact .inl q
    · exact .inr ⟨q, PySem.W.cellsFrom_some _ _ _ (.inl q)⟩
  refine codeAny_call_function hr.depth (KX _ _ lk) rfl S.co S.gen rfl (PySem.W.codeRec_of KX hcd) (hb _ _ _ _ ?_)
  refine wpAny_newFunctionEnv_cells S.kind hkind fun env he s1 x => ?_
  subst he
  refine ⟨lim.keeps x.toInCall.keep, codeAny_func ?_⟩
  obtain ⟨t, ht, hq⟩ := hbody A outer s H vs Q E (hr.deeper _) hsp
  have I : Inv (cxOf CX P w K mg base N qual scope f cdv A outer s H E) [] (start N vs) H s1 := inv_start S hr.hd e0 hl r x
  refine wpAny_mono (ht [] s1 (start N vs) H _ I hq) (fun fl s' hs => ?_) fun e s' hs => hs
  have fin : ∀ {σ' : St} {H' : Hp} {v : V} {u : Value}, Inv (cxOf CX P w K mg base N qual scope f cdv A outer s H E) [] σ' H' s' → RelV v u → Q v H' → CE outer P w H s Q u s' :=
    fun {σ' H' v u} J rv q => ⟨v, H', J.os, J.bare, J.base, J.hok, rv, q⟩
  cases fl with
  | ret u =>
    obtain ⟨v, σ', H', J, rv, q⟩ := hs
    exact fin J rv q
  | next =>
    obtain ⟨σ', H', J, q⟩ := hs
    exact fin (v := V.non) (u := Value.none) J rfl q
  | brk =>
    obtain ⟨_, _, _, q⟩ := hs
    exact False.elim q
  | cont =>
    obtain ⟨_, _, _, q⟩ := hs
    exact False.elim q
end L2

namespace L2
open PySem PySem.Spec PyProof.Rows
section
variable {X : Cx} {x : Str} {p pos : Pos} {e : Expr} {es : List Expr} {t : TA} {id T : String} {r : List V → Hp → VK → Prop}

noncomputable def tCB (r : List V → Hp → VK → Prop) (t : TA) : TE := fun σ H Q => t σ H fun vs H1 => r vs H1 Q
/-- f(e, ..), f a built-in function -/
theorem pe_callB (hc : CallR X (.builtin id) r) (hg : Gl X x) (hm : X.mg x = none) (hv : bootBuiltins x = some (.builtin id)) (ha : PA X (e :: es) t) (hn : x ≠ "__name__" := by decide) (hdb : (x == ("__debug__" : Str)) = false := by decide)
    (he : starEach (e :: es) X.env = (false, eval e X.env) :: starEach es X.env := by rfl) (hpl : (backTo pos (starEach es X.env)).any (·.1) = false := by rfl) : PE X (.Call (.Name x p) (e :: es) [] pos) (tCB r t) := by
  intro pins s σ H Q I h
  refine wpAny_Call_Name_kw (ld_blt I hg hm hv ?_ hn hdb)
  exact PyProof.Rows.callWith_builtin1 (thn (ha pos pins s σ H _ I h) fun us s1 ⟨vs, H1, I1, r1, q1⟩ => hc pins s1 σ H1 vs us Q I1 r1 q1) he hpl
/-- T(e, ..), T a built-in type -/
theorem pe_callTy (hc : CallR X (.type T) r) (hg : Gl X x) (hm : X.mg x = none) (hv : bootBuiltins x = some (.type T)) (ha : PA X (e :: es) t) (hn : x ≠ "__name__" := by decide) (hdb : (x == ("__debug__" : Str)) = false := by decide)
    (he : starEach (e :: es) X.env = (false, eval e X.env) :: starEach es X.env := by rfl) (hpl : (backTo pos (starEach es X.env)).any (·.1) = false := by rfl) : PE X (.Call (.Name x p) (e :: es) [] pos) (tCB r t) := by
  intro pins s σ H Q I h
  refine wpAny_Call_Name_kw (ld_blt I hg hm hv ?_ hn hdb)
  exact PyProof.Rows.callWith_type1 (thn (ha pos pins s σ H _ I h) fun us s1 ⟨vs, H1, I1, r1, q1⟩ => hc pins s1 σ H1 vs us Q I1 r1 q1) he hpl
end
end L2

namespace HT
open PySem PyProof.Rows

section
open PySem.SeqAt
open PySem.AutoSeq1 (wpAny_loadPart')
open PySem.MeetsSeq PySem.MeetsSeq2 PySem.MeetsSeq3

end

section
variable {prog : Program} {w : World} {A : Around} {E : Value → Shared → Prop} {s : Shared}

/-- t + u, t not empty -/
theorem cat_tup {t b : Addr} {vs ws : List Value} {Q : Value → Shared → Prop} (ht : IsTup s.heap t vs.toArray) (hb : IsTup s.heap b ws.toArray) (hv : vs ≠ [])
    (h1 : ws = [] → Q (.ref t) s) (h2 : ws ≠ [] → Q (.ref s.heap.objs.size) { s with heap := s.heap.push { cls := .type "tuple", data := .seq (vs ++ ws).toArray } })
    (hsz : vs.length + ws.length ≤ sizeLine) : wpAny (model prog w) A (binaryOp .Add (.ref t) (.ref b)) Q E s := by
  obtain ⟨⟨cls, dd, data, sl⟩, ho, hc, n, hd⟩ := id ht
  obtain ⟨⟨cls2, dd2, data2, sl2⟩, ho2, hc2, n2, hd2⟩ := id hb
  simp only at hc hd hc2 hd2
  subst hc hd hc2 hd2
  have e : vs.toArray ++ ws.toArray = (vs ++ ws).toArray := by simp
  by_cases hw : ws = []
  · exact concat_meets ⟨_, ho, rfl⟩ ⟨_, ho2, rfl⟩ noFill_tuple_add seq_tuple_add PySem.F.slot_tuple_add PySem.F.entry_tuple_add (PySem.F.args_tuple_add_2 _ _)
      (tuple_addW1 t b vs.toArray ws.toArray n n2 dd dd2 sl sl2 (by simpa using hv) (by simp [hw])) ⟨ho, ho2, h1 hw⟩
  · refine concat_meets ⟨_, ho, rfl⟩ ⟨_, ho2, rfl⟩ noFill_tuple_add seq_tuple_add PySem.F.slot_tuple_add PySem.F.entry_tuple_add (PySem.F.args_tuple_add_2 _ _)
      (tuple_addW2 t b vs.toArray ws.toArray n n2 dd dd2 sl sl2 (by simpa using hv) (by simpa using hw) (by rw [List.size_toArray, List.size_toArray]; exact hsz)) ⟨ho, ho2, ?_⟩
    rw [e]
    exact h2 hw

/-! ### t[a:b], not the whole -/
/-- a slice's bound as a place among n (d where it is left out) -/
noncomputable def sIx (n d : Nat) : Option Int → Nat
  | none => d
  | some v => if v < 0 then (v + (n : Int)).toNat else min v.toNat n
theorem sIx_le (n d : Nat) (hd : d ≤ n) (o : Option Int) : sIx n d o ≤ n := by
  cases o with
  | none => exact hd
  | some v =>
    show (if v < 0 then (v + (n : Int)).toNat else min v.toNat n) ≤ n
    by_cases hv : v < 0
    · rw [if_pos hv]; omega
    · rw [if_neg hv]; exact Nat.min_le_right _ _
theorem clip_eq (v : Int) (n d : Nat) : (if v < 0 then max (v + (n : Int)) 0 else min v (n : Int)) = ((sIx n d (some v) : Nat) : Int) := by
  show (if v < 0 then max (v + (n : Int)) 0 else min v (n : Int)) = (((if v < 0 then (v + (n : Int)).toNat else min v.toNat n) : Nat) : Int)
  by_cases hv : v < 0
  · simp only [if_pos hv]; omega
  · simp only [if_neg hv]; omega
theorem adjust_gen (lo hi : Option Int) (n : Nat) : Builtin.Slice.sliceAdjust lo hi 1 (n : Int) = (((sIx n 0 lo : Nat) : Int), ((sIx n n hi : Nat) : Int)) := by
  have h1 : ¬ ((1 : Int) < 0) := by omega
  unfold Builtin.Slice.sliceAdjust
  simp only [h1, if_false]
  refine Prod.ext ?_ ?_
  · cases lo with
    | none => rfl
    | some v => exact clip_eq v n 0
  · cases hi with
    | none => rfl
    | some v => exact clip_eq v n n
theorem places_gen (i j : Nat) : Builtin.Slice.slicePlaces (i : Int) (j : Int) 1 = j - i := by
  unfold Builtin.Slice.slicePlaces
  have h1 : (1 : Int) > 0 := by omega
  simp only [h1, if_true, Int.ediv_one]
  split <;> omega
theorem slicePart_ {v : Value} {o : Option Int} {Q : Option Int → Shared → Prop} (p : IsPart v o) (h : Q o s) : wpAny (model prog w) A (Builtin.Slice.slicePartIndex v) Q E s := by
  cases p with
  | none => exact slicePart_none h
  | int i t => exact slicePart_int h
theorem sliceApplied_gen {sl : Addr} {vl vu : Value} {lo hi : Option Int} {n : Nat} {Q : Int × Int × Nat → Shared → Prop} (hs : s.heap.IsSliceOf sl vl vu .none) (pl : IsPart vl lo) (pu : IsPart vu hi)
    (h : Q (((sIx n 0 lo : Nat) : Int), 1, sIx n n hi - sIx n 0 lo) s) : wpAny (model prog w) A (Builtin.Slice.sliceApplied (.ref sl) (pure (n : Int))) Q E s := by
  obtain ⟨os, hos, hcs, hds⟩ := id hs
  unfold Builtin.Slice.sliceApplied Builtin.Slice.sliceFields
  refine wpAny_bind (wpAny_bind (wpAny_field hos hds (x := vl) rfl (wpAny_bind (wpAny_field hos hds (x := vu) rfl (wpAny_bind (wpAny_field hos hds (x := .none) rfl (wpAny_pure ?_)))))))
  refine wpAny_bind (slicePart_none ?_)
  show wpAny _ _ (if ((1 : Int) == 0) = true then _ else _) _ _ s
  rw [if_neg (by decide)]
  refine wpAny_bind (slicePart_ pl (wpAny_bind (slicePart_ pu (wpAny_bind (wpAny_pure ?_)))))
  show wpAny _ _ (match Builtin.Slice.sliceAdjust lo hi 1 (n : Int) with | (lo, hi) => pure (lo, (1 : Int), Builtin.Slice.slicePlaces lo hi 1)) _ _ s
  rw [adjust_gen lo hi n]
  show wpAny _ _ (pure (((sIx n 0 lo : Nat) : Int), (1 : Int), Builtin.Slice.slicePlaces ((sIx n 0 lo : Nat) : Int) ((sIx n n hi : Nat) : Int) 1)) _ _ s
  rw [places_gen]
  exact wpAny_pure h
theorem pick_gen (xs : Array Value) (i k : Nat) : ((List.range k).filterMap fun (m : Nat) => xs[((i : Int) + (m : Int) * 1).toNat]?).toArray = ((xs.toList.drop i).take k).toArray := by
  have e : (fun (m : Nat) => xs[((i : Int) + (m : Int) * 1).toNat]?) = fun m => xs[i + m]? := by
    funext m
    have : ((i : Int) + (m : Int) * 1).toNat = i + m := by omega
    rw [this]
  rw [e]
  have := pick_run xs i k
  rw [List.filterMap_map] at this
  have e2 : ((fun x => xs[x]?) ∘ fun x => i + x) = fun m => xs[i + m]? := rfl
  rw [e2] at this
  rw [this]

theorem getItem_tuple_cut {t sl : Addr} {items : Array Value} {vl vu : Value} {lo hi : Option Int} {Q : Value → Shared → Prop} (ht : IsTup s.heap t items) (hs : s.heap.IsSliceOf sl vl vu .none) (pl : IsPart vl lo) (pu : IsPart vu hi)
    (hw : ¬ (sIx items.size 0 lo = 0 ∧ sIx items.size items.size hi = items.size))
    (h : Q (.ref s.heap.objs.size) { s with heap := s.heap.push { cls := .type "tuple", data := .seq ((items.toList.drop (sIx items.size 0 lo)).take (sIx items.size items.size hi - sIx items.size 0 lo)).toArray } })
    (hsz : items.size ≤ sizeLine) : wpAny (model prog w) A (getItem (.ref t) (.ref sl)) Q E s := by
  have htake : sizeOk (.seq ((items.toList.drop (sIx items.size 0 lo)).take (sIx items.size items.size hi - sIx items.size 0 lo)).toArray) := by
    show ((items.toList.drop (sIx items.size 0 lo)).take (sIx items.size items.size hi - sIx items.size 0 lo)).toArray.size ≤ sizeLine
    rw [List.size_toArray, List.length_take, List.length_drop, Array.length_toList]
    omega
  have hj : sIx items.size items.size hi ≤ items.size := sIx_le _ _ (Nat.le_refl _) hi
  obtain ⟨os, hos, hcs, hds⟩ := id hs
  have hTs : s.TypeIs (.ref sl) "slice" := ⟨os, hos, hcs⟩
  unfold getItem
  try with_reducible refine wpAny_holding ?_
  first | refine wpAny_bind (wpAny_pure ?_) | skip
  refine wpAny_bind (wpAny_sequenceKey ht.typeIs (by decide) ?_)
  refine wpAny_bind (wpAny_callSpecial?_slot (name := Str.ofString "__getitem__") ht.typeIs PyProof.Rows.slot_tuple_getitem
    (wpAny_call_entry PyProof.Rows.slot_tuple_getitem ht.typeIs entry_tuple_getitem ?_ (args_tuple_getitem _ _)))
  show wpAny _ _ (Builtin.Tuple.tupleItemsOf (.ref t) >>= _) _ _ s
  refine wpAny_bind (tupleItemsOf_ ht ?_)
  refine wpAny_bind (wpAny_typeOf hTs ?_)
  rw [if_pos (by decide)]
  refine wpAny_bind (sliceApplied_gen hs pl pu ?_)
  have hno : ¬ ((((sIx items.size 0 lo : Nat) : Int) == 0 && (1 : Int) == 1 && (sIx items.size items.size hi - sIx items.size 0 lo) == items.size) = true) := by
    intro q
    rw [Bool.and_eq_true, Bool.and_eq_true] at q
    have q1 : ((sIx items.size 0 lo : Nat) : Int) = 0 := eq_of_beq q.1.1
    have q2 : sIx items.size items.size hi - sIx items.size 0 lo = items.size := eq_of_beq q.2
    exact hw ⟨by omega, by omega⟩
  show wpAny _ _ (if (((sIx items.size 0 lo : Nat) : Int) == 0 && (1 : Int) == 1 && (sIx items.size items.size hi - sIx items.size 0 lo) == items.size) = true then _ else _) _ _ s
  rw [if_neg hno, pick_gen]
  first
    | exact wpAny_bind (m := Builtin.Tuple.tupleExact _) (wpAny_newObj_type (wpAny_pure ⟨_, rfl, wpAny_pure h⟩) htake)
    | exact wpAny_bind (m := Builtin.Tuple.tupleExact _) (wpAny_newObj_type (wpAny_bind (wpAny_pure (wpAny_pure ⟨_, rfl, wpAny_pure h⟩))) htake)
    | exact wpAny_bind (wpAny_bind (m := Builtin.Tuple.tupleExact _) (wpAny_newObj_type (wpAny_pure (wpAny_pure ⟨_, rfl, wpAny_pure h⟩)) htake))
    | exact wpAny_bind (wpAny_bind (m := Builtin.Tuple.tupleExact _) (wpAny_newObj_type (wpAny_pure ⟨_, rfl, wpAny_pure h⟩) htake))
end
end HT

namespace L2
open PySem PySem.Spec PyProof.Rows

/-! ### the parts of a slice -/
noncomputable abbrev TO := St → Hp → (Option Int → Hp → Prop) → Prop
/-- a slice's part (left out, or an int) -/
noncomputable def PO (X : Cx) (e : Option Expr) (t : TO) : Prop :=
  ∀ (pins : List (Addr × Obj)) (s : Shared) (σ : St) (H : Hp) (Q : Option Int → Hp → Prop), Inv X pins σ H s → t σ H Q →
    wpAny (model X.prog X.w) X.A (evalPart e X.env) (fun u s' => ∃ o H', Inv X pins σ H' s' ∧ IsPart u o ∧ Q o H') X.xe s
noncomputable def tNoPart : TO := fun _ H Q => Q none H
noncomputable def tPart (t : TE) : TO := fun σ H Q => t σ H fun x H1 => ∃ i, x = .int i ∧ Q (some i) H1

section
variable {X : Cx} {e : Expr} {te : TE} {lo hi : Option Expr} {tl th : TO} {pos p2 : Pos}

theorem po_none : PO X none tNoPart := by
  intro pins s σ H Q I h
  rw [evalPart_none]
  exact wpAny_pure ⟨none, H, I, .none, h⟩
theorem po_some (h : PE X e te) : PO X (some e) (tPart te) := by
  intro pins s σ H Q I hw
  rw [evalPart_some]
  refine thn (h pins s σ H _ I hw) fun u s1 ⟨x, H1, I1, r1, q1⟩ => ?_
  obtain ⟨i, rfl, q⟩ := q1
  obtain ⟨t, rfl⟩ := r1
  exact ⟨some i, H1, I1, .int i t, q⟩

/-- what a slice of a value is, by values: the slice object stands at sl -/
noncomputable def SlR (X : Cx) (r : V → Option Int → Option Int → Hp → VK → Prop) : Prop :=
  ∀ (pins : List (Addr × Obj)) (s : Shared) (σ : St) (H : Hp) (x : V) (v vl vu : Value) (lo hi : Option Int) (sl : Addr) (Q : VK), Inv X pins σ H s → RelV x v → s.heap.IsSliceOf sl vl vu .none → IsPart vl lo → IsPart vu hi → r x lo hi H Q →
    ∃ T id, typeLookup (.type T) "__getitem__" = pure (some (.builtin id)) ∧ s.TypeIs v T ∧ wpAny (model X.prog X.w) X.A (getItem v (.ref sl)) (EP X pins σ Q) X.xe s
theorem SlR.or {r r' : V → Option Int → Option Int → Hp → VK → Prop} (h : SlR X r) (h' : SlR X r') : SlR X (fun x lo hi H Q => r x lo hi H Q ∨ r' x lo hi H Q) := by
  intro pins s σ H x v vl vu lo hi sl Q I rx hs pl pu q
  rcases q with q | q
  · exact h pins s σ H x v vl vu lo hi sl Q I rx hs pl pu q
  · exact h' pins s σ H x v vl vu lo hi sl Q I rx hs pl pu q
noncomputable def tSl (r : V → Option Int → Option Int → Hp → VK → Prop) (te : TE) (tl th : TO) : TE := fun σ H Q => te σ H fun x H1 => tl σ H1 fun l H2 => th σ H2 fun u H3 => r x l u H3 Q
/-- a[lo:hi], any a -/
theorem pe_slice {r : V → Option Int → Option Int → Hp → VK → Prop} (hr : SlR X r) (he : PE X e te) (hl : PO X lo tl) (hu : PO X hi th) : PE X (.Subscript e (.Slice lo hi none p2) pos) (tSl r te tl th) := by
  intro pins s σ H Q I h
  refine Subscript_ (thn (he pins s σ H _ I h) fun v s1 ⟨x, H1, I1, r1, q1⟩ => ?_)
  refine wpAny_Slice (thn (hl pins s1 σ H1 _ I1 q1) fun vl s2 ⟨l, H2, I2, pl, q2⟩ => thn (hu pins s2 σ H2 _ I2 q2) fun vu s3 ⟨u, H3, I3, pu, q3⟩ => ?_)
  rw [evalPart_none]
  refine wpAny_pure ?_
  have I4 : Inv X pins σ H3 { s3 with heap := s3.heap.push { cls := .type "slice", data := .fields #[vl, vu, .none] } } := I3.kept (t' := s3.toks) fun b ob q => Heap.get?_push_of_some _ q
  obtain ⟨T, id, hT, ht, hg⟩ := hr pins { s3 with heap := s3.heap.push { cls := .type "slice", data := .fields #[vl, vu, .none] } } σ H3 x v vl vu l u s3.heap.objs.size Q I4 r1 (Heap.IsSliceOf.new ..) pl pu q3
  show wpAny (model X.prog X.w) X.A (subscriptTail e (.Slice lo hi none p2) v (.ref s3.heap.objs.size)) (EP X pins σ Q) X.xe { s3 with heap := s3.heap.push { cls := .type "slice", data := .fields #[vl, vu, .none] } }
  exact tail_any (ops := [.ref s3.heap.objs.size, v]) ht hT hg (by with_unfolding_all rfl)

/-- the items of xs[lo:hi] -/
noncomputable def cutV (xs : List V) (lo hi : Option Int) : List V := (xs.drop (HT.sIx xs.length 0 lo)).take (HT.sIx xs.length xs.length hi - HT.sIx xs.length 0 lo)
theorem cutV_length (xs : List V) (lo hi : Option Int) : (cutV xs lo hi).length ≤ xs.length := by
  unfold cutV
  rw [List.length_take, List.length_drop]
  omega
/-- t[lo:hi], not the whole of it (the whole would be t itself) -/
noncomputable def rSlT (K : PySem.W.Frag) : V → Option Int → Option Int → Hp → VK → Prop := fun x lo hi H Q => ∃ a xs, x = .ref a ∧ SqT K H a xs ∧
  ¬ (HT.sIx xs.length 0 lo = 0 ∧ HT.sIx xs.length xs.length hi = xs.length) ∧ ∀ p, H p = none → Q (.ref p) (upd H p (.tup (cutV xs lo hi)))
theorem sl_tup : SlR X (rSlT X.K) := by
  intro pins s σ H x v vl vu lo hi sl Q I rx hs pl pu h
  obtain ⟨a, xs, rfl, hx, hw, q⟩ := h
  cases rx
  obtain ⟨its, r, ht, hz⟩ := I.tuple hx
  have hlen : its.toArray.size = xs.length := by rw [List.size_toArray]; exact r.length.symm
  refine ⟨"tuple", _, PyProof.Rows.slot_tuple_getitem.lookup, ht.typeIs, ?_⟩
  refine HT.getItem_tuple_cut ht hs pl pu (by rw [hlen]; exact hw) ?_ (by rw [hlen]; exact hz)
  rw [hlen]
  refine ⟨.ref s.heap.objs.size, _, I.laid (t' := s.toks) (o := .tup (cutV xs lo hi)) (fun b ob q => Heap.get?_push_of_some _ q) (Nat.le_refl _) ?_, rfl, q _ (I.hok.fresh (Nat.le_refl _))⟩
  exact ⟨Nat.le_trans (cutV_length xs lo hi) hz, _, (r.drop (HT.sIx xs.length 0 lo)).take (HT.sIx xs.length xs.length hi - HT.sIx xs.length 0 lo), IsTup.new _ _⟩

/-- t + u, t not empty: u empty gives t itself -/
noncomputable def rCatT (K : PySem.W.Frag) : R2 := fun x y H Q => ∃ a b xs ys, x = .ref a ∧ y = .ref b ∧ SqT K H a xs ∧ SqT K H b ys ∧ xs ≠ [] ∧ xs.length + ys.length ≤ sizeLine ∧
  (ys = [] → Q (.ref a) H) ∧ (ys ≠ [] → ∀ p, H p = none → Q (.ref p) (upd H p (.tup (xs ++ ys))))
theorem Vals.nil_iff {xs : List V} {us : List Value} (r : Vals xs us) : us = [] ↔ xs = [] := by
  cases r with
  | nil => simp
  | cons _ _ => simp
theorem op_catT : OpR X (binaryOp .Add) (rCatT X.K) := by
  intro pins s σ H x y v u Q I rx ry h
  obtain ⟨a, b, xs, ys, rfl, rfl, ha, hb, hx, hz, q1, q2⟩ := h
  cases rx
  cases ry
  obtain ⟨its, r1, p1, _⟩ := I.tuple ha
  obtain ⟨its2, r2, p2, _⟩ := I.tuple hb
  refine HT.cat_tup p1 p2 (fun z => hx (r1.nil_iff.mp z)) (fun z => ⟨.ref a, H, I, rfl, q1 (r2.nil_iff.mp z)⟩) (fun z => ?_) (by rw [← r1.length, ← r2.length]; exact hz)
  refine ⟨.ref s.heap.objs.size, _, I.laid (t' := s.toks) (o := .tup (xs ++ ys)) (fun b ob q => Heap.get?_push_of_some _ q) (Nat.le_refl _) ?_, rfl, q2 (fun w => z (r2.nil_iff.mpr w)) _ (I.hok.fresh (Nat.le_refl _))⟩
  exact ⟨by rw [List.length_append]; exact hz, _, r1.append r2, IsTup.new _ _⟩
end
end L2

namespace L2
open PySem PySem.Spec PyProof.Rows

/-! ### places -/
/-- the place that an index of any sign means -/
noncomputable def ixN (n : Nat) (i : Int) : Option Nat := if 0 ≤ i then (if i < n then some i.toNat else none) else if -(n : Int) ≤ i then some (i + n).toNat else none
noncomputable def atI {α : Type} (xs : List α) (i : Int) : Option α := (ixN xs.length i).bind fun j => xs[j]?
theorem ixN_seq {n : Nat} {i : Int} {j : Nat} (h : ixN n i = some j) : seqIndex? i n = some j ∧ j < n ∧ -(n : Int) ≤ i ∧ i < n := by
  unfold ixN at h
  by_cases h0 : 0 ≤ i
  · rw [if_pos h0] at h
    by_cases h1 : i < n
    · rw [if_pos h1] at h
      have e : i.toNat = j := Option.some.inj h
      exact ⟨by rw [seqIndex_of h0 h1, e], by omega, by omega, h1⟩
    · rw [if_neg h1] at h; cases h
  · rw [if_neg h0] at h
    by_cases h1 : -(n : Int) ≤ i
    · rw [if_pos h1] at h
      have e : (i + n).toNat = j := Option.some.inj h
      exact ⟨by rw [seqIndex_neg (by omega) h1, e], by omega, h1, by omega⟩
    · rw [if_neg h1] at h; cases h
theorem atI_get {α : Type} {xs : List α} {i : Int} {v : α} (h : atI xs i = some v) : ∃ j, seqIndex? i xs.length = some j ∧ xs[j]? = some v ∧ j < xs.length ∧ -(xs.length : Int) ≤ i ∧ i < xs.length := by
  unfold atI at h
  cases e : ixN xs.length i with
  | none => rw [e] at h; cases h
  | some j =>
    rw [e] at h
    obtain ⟨h1, h2, h3, h4⟩ := ixN_seq e
    exact ⟨j, h1, h, h2, h3, h4⟩
/-! ### what may be subscripted -/
/-- what stands as an index of a plain subscript -/
noncomputable def PlainIx (b : Expr) : Prop := ∀ o i, subscripted b false o i = operate [o, i] (getItem o i)
/-- a subscript by values -/
noncomputable def IxR (X : Cx) (r : R2) : Prop :=
  ∀ (value slice : Expr) (pins : List (Addr × Obj)) (s : Shared) (σ : St) (H : Hp) (x y : V) (v u : Value) (Q : VK), Inv X pins σ H s → RelV x v → RelV y u → r x y H Q →
    subscripted slice false v u = operate [v, u] (getItem v u) → wpAny (model X.prog X.w) X.A (subscriptTail value slice v u) (EP X pins σ Q) X.xe s
/-- a call of a builtin's method by values: the receiver, the arguments -/
noncomputable def MtR (X : Cx) (id : String) (r : V → List V → Hp → VK → Prop) : Prop :=
  ∀ (pins : List (Addr × Obj)) (s : Shared) (σ : St) (H : Hp) (x : V) (xs : List V) (v : Value) (us : List Value) (Q : VK), Inv X pins σ H s → RelV x v → Vals xs us → r x xs H Q →
    wpAny (model X.prog X.w) X.A (call (.builtin id) (v :: us)) (EP X pins σ Q) X.xe s
section
variable {X : Cx} {a b : Expr} {ta tb : TE} {pos : Pos}
theorem IxR.or {r r' : R2} (h : IxR X r) (h' : IxR X r') : IxR X (fun x y H Q => r x y H Q ∨ r' x y H Q) := by
  intro value slice pins s σ H x y v u Q I rx ry q hs
  rcases q with q | q
  · exact h value slice pins s σ H x y v u Q I rx ry q hs
  · exact h' value slice pins s σ H x y v u Q I rx ry q hs
/-- a[b] -/
theorem pe_ix {r : R2} (hr : IxR X r) (ha : PE X a ta) (hb : PE X b tb) (hs : PlainIx b) : PE X (.Subscript a b pos) (tOp r ta tb) := by
  intro pins s σ H Q I h
  exact Subscript_ (binT ha hb I h fun v u s2 x y H2 I2 rx ry q => hr a b pins s2 σ H2 x y v u Q I2 rx ry q (hs _ _))

noncomputable def rIxL (K : PySem.W.Frag) : R2 := fun x y H Q => ∃ p xs i v, x = .ref p ∧ y = .int i ∧ SqL K H p xs ∧ atI xs i = some v ∧ Q v H
noncomputable def rIxT (K : PySem.W.Frag) : R2 := fun x y H Q => ∃ p xs i v, x = .ref p ∧ y = .int i ∧ SqT K H p xs ∧ atI xs i = some v ∧ Q v H
noncomputable def rIxS : R2 := fun x y H Q => ∃ z i c, x = .str z ∧ y = .int i ∧ z.length ≤ sizeLine ∧ atI z.cps.toList i = some c ∧ Q (.str ⟨#[c]⟩) H
theorem ix_list : IxR X (rIxL X.K) := by
  intro value slice pins s σ H x y v u Q I rx ry h hs
  obtain ⟨p, xs, i, z, rfl, rfl, hq, he, q⟩ := h
  cases rx
  obtain ⟨t, rfl⟩ := ry
  obtain ⟨its, r, pl, hz⟩ := I.list hq
  obtain ⟨j, h1, h2, h3, h4, h5⟩ := atI_get he
  obtain ⟨w, ew, rw'⟩ := r.get h2
  have hl := r.length
  have hn := line63
  have fin : EP X pins σ Q w s := ⟨z, H, I, rw', q⟩
  by_cases h0 : 0 ≤ i
  · have hj : i.toNat = j := by
      rw [seqIndex_of h0 h5] at h1
      exact Option.some.inj h1
    exact item_listR pl.isList h0 (by omega) (by rw [hj]; simpa using ew) fin hs
  · have hj : (i + (its.toArray.size : Int)).toNat = j := by
      rw [seqIndex_neg (by omega) h4] at h1
      rw [List.size_toArray, ← hl]
      exact Option.some.inj h1
    exact subscriptTail_builtinR (x := w) pl.isList.typeIs slot_list_getitem.lookup
      (wpAny_getItem_list_neg (Q := fun r s' => r = w ∧ EP X pins σ Q r s') pl.isList (by omega) (by rw [List.size_toArray] <;> omega) (by omega) (by rw [hj]; simpa using ew) ⟨rfl, fin⟩) hs
theorem ix_tup : IxR X (rIxT X.K) := by
  intro value slice pins s σ H x y v u Q I rx ry h hs
  obtain ⟨p, xs, i, z, rfl, rfl, hq, he, q⟩ := h
  cases rx
  obtain ⟨t, rfl⟩ := ry
  obtain ⟨its, r, pl, hz⟩ := I.tuple hq
  obtain ⟨j, h1, h2, h3, h4, h5⟩ := atI_get he
  obtain ⟨w, ew, rw'⟩ := r.get h2
  have hl := r.length
  have hn := line63
  have fin : EP X pins σ Q w s := ⟨z, H, I, rw', q⟩
  exact subscriptTail_builtinR (x := w) pl.typeIs slot_tuple_getitem.lookup
    (getItem_tuple (j := j) (Q := fun r s' => r = w ∧ EP X pins σ Q r s') pl (by omega) (by omega) (by rw [List.size_toArray, ← hl]; exact h1) (by simpa using ew) ⟨rfl, fin⟩) hs
/-- list, tuple or str -/
noncomputable def rIx (K : PySem.W.Frag) : R2 := fun x y H Q => rIxL K x y H Q ∨ rIxT K x y H Q ∨ rIxS x y H Q
/-! ### xs[i] = v, any sign -/
/-- the list's object behind a store -/
theorem mapSeq_set (its : List Value) (n j : Nat) (u : Value) : Obj.mapSeq (·.setIfInBounds j u) { cls := .type "list", data := .seq its.toArray n } = { cls := .type "list", data := .seq (its.set j u).toArray n } := by
  simp [Obj.mapSeq]
theorem Inv.lst {pins : List (Addr × Obj)} {σ : St} {H : Hp} {s : Shared} {p : Addr} {xs : List V} (I : Inv X pins σ H s) (h : H p = some (.lst xs)) :
    ∃ (its : List Value) (n : Nat), Vals xs its ∧ s.heap.get? p = some { cls := .type "list", data := .seq its.toArray n } ∧ xs.length ≤ sizeLine := by
  obtain ⟨z, its, n, r, e⟩ := I.hok p _ h
  exact ⟨its, n, r, e, z⟩
/-- the list at p is written by an update of its object -/
theorem Inv.lstUpd {pins : List (Addr × Obj)} {σ : St} {H : Hp} {s : Shared} {p : Addr} {xs ys : List V} {its its' : List Value} {n n' : Nat} {f : Obj → Obj} (I : Inv X pins σ H s) (h : H p = some (.lst xs))
    (ho : s.heap.get? p = some { cls := .type "list", data := .seq its.toArray n }) (hf : f { cls := .type "list", data := .seq its.toArray n } = { cls := .type "list", data := .seq its'.toArray n' }) (r : Vals ys its') (hz : ys.length ≤ sizeLine) (t : Nat) :
    Inv X pins σ (upd H p (.lst ys)) { s with heap := s.heap.update p f, toks := t } := by
  have e : (s.heap.update p f).get? p = some { cls := .type "list", data := .seq its'.toArray n' } := by
    rw [Heap.get?_update_self f ho (by rw [hf] <;> rfl), hf]
  refine I.write (x := p) (e := p) (by rw [h]; trivial) (.inl rfl) (fun b u hb q => (Heap.get?_update_other _ _ (Ne.symm hb)).trans q) ⟨_, e⟩ ?_
  exact ⟨hz, its', n', r, e⟩
noncomputable def rSetL : V → V → V → Hp → (Hp → Prop) → Prop := fun o i v H Q => ∃ p xs k j, o = .ref p ∧ i = .int k ∧ H p = some (.lst xs) ∧ ixN xs.length k = some j ∧ Q (upd H p (.lst (xs.set j v)))
theorem set_list : PSet X rSetL := by
  intro pins s σ H o i v ov iv u Q I ro ri rv h
  obtain ⟨p, xs, k, j, rfl, rfl, hp, hj, q⟩ := h
  cases ro
  obtain ⟨t, rfl⟩ := ri
  obtain ⟨its, n, r, ho, hz⟩ := I.lst hp
  obtain ⟨h1, h2, h3, h4⟩ := ixN_seq hj
  have hl := r.length
  have hn := line63
  have I' : Inv X pins σ (upd H p (.lst (xs.set j v))) { s with heap := s.heap.update p (Obj.mapSeq (·.setIfInBounds j u)) } :=
    I.lstUpd hp ho (mapSeq_set its n j u) (r.set rv j) (by rw [List.length_set]; exact hz) s.toks
  by_cases h0 : 0 ≤ k
  · have hk : k.toNat = j := by
      rw [seqIndex_of h0 h4] at h1
      exact Option.some.inj h1
    exact PySem.W.ki_setAt ho h0 (by omega) (by rw [List.size_toArray, ← hl]; exact h4) (by rw [hk]; exact ⟨_, I', q⟩)
  · have hk : (k + (its.toArray.size : Int)).toNat = j := by
      rw [seqIndex_neg (by omega) h3] at h1
      rw [List.size_toArray, ← hl]
      exact Option.some.inj h1
    exact PySem.W.ki_setBack ho (by omega) (by rw [List.size_toArray, ← hl]; exact h3) (by omega) (by rw [hk]; exact ⟨_, I', q⟩)

/-! ### slices -/
theorem slice_bounds (lo hi : Option Int) (n : Nat) : (sliceBounds lo hi none n).1 = ((HT.sIx n 0 lo : Nat) : Int) ∧ (sliceBounds lo hi none n).2.1 = ((HT.sIx n n hi : Nat) : Int) ∧ (sliceBounds lo hi none n).2.2 = 1 := by
  refine ⟨?_, ?_, rfl⟩
  · cases lo with
    | none => simp [sliceBounds, HT.sIx]
    | some i =>
      simp only [sliceBounds, HT.sIx, Option.getD_none, show (1 : Int) > 0 by decide, if_true]
      by_cases h : i < 0
      · simp only [h, if_true] <;> omega
      · simp only [h, if_false] <;> omega
  · cases hi with
    | none => simp [sliceBounds, HT.sIx]
    | some i =>
      simp only [sliceBounds, HT.sIx, Option.getD_none, show (1 : Int) > 0 by decide, if_true]
      by_cases h : i < 0
      · simp only [h, if_true] <;> omega
      · simp only [h, if_false] <;> omega
theorem slicePick_cut (its : List Value) (lo hi : Option Int) : slicePick its.toArray lo hi none = ((its.drop (HT.sIx its.length 0 lo)).take (HT.sIx its.length its.length hi - HT.sIx its.length 0 lo)).toArray := by
  obtain ⟨h1, h2, h3⟩ := slice_bounds lo hi its.toArray.size
  unfold slicePick
  rw [h1, h2, h3]
  simp only [sliceRange_one, pick_run, List.size_toArray] <;> rfl
/-- xs[lo:hi] of a list: a new list -/
noncomputable def rSlL (K : PySem.W.Frag) : V → Option Int → Option Int → Hp → VK → Prop := fun x lo hi H Q => ∃ a xs, x = .ref a ∧ SqL K H a xs ∧ ∀ p, H p = none → Q (.ref p) (upd H p (.lst (cutV xs lo hi)))
theorem sl_list : SlR X (rSlL X.K) := by
  intro pins s σ H x v vl vu lo hi sl Q I rx hs pl pu h
  obtain ⟨a, xs, rfl, hx, q⟩ := h
  cases rx
  obtain ⟨its, r, ht, hz⟩ := I.list hx
  have hlen := r.length
  refine ⟨"list", _, slot_list_getitem.lookup, ht.isList.typeIs, ?_⟩
  refine wpAny_getItem_list_slice ht.isList hs pl pu .none (by simp) ?_ (by rw [List.size_toArray] <;> omega)
  rw [slicePick_cut, ← hlen]
  refine ⟨.ref s.heap.objs.size, _, I.laid (t' := s.toks) (o := .lst (cutV xs lo hi)) (fun b ob q => Heap.get?_push_of_some _ q) (Nat.le_refl _) ?_, rfl, q _ (I.hok.fresh (Nat.le_refl _))⟩
  exact ⟨Nat.le_trans (cutV_length xs lo hi) hz, _, 0, (r.drop (HT.sIx xs.length 0 lo)).take (HT.sIx xs.length xs.length hi - HT.sIx xs.length 0 lo), Heap.get?_push_size _ rfl⟩

/-! ### in, not in: flat items -/
noncomputable def flatV : V → Bool
  | .non => true
  | .bl _ => true
  | .int _ => true
  | .str _ => true
  | _ => false
/-- == of flat values -/
noncomputable def eqV : V → V → Bool
  | .non, .non => true
  | .bl a, .bl b => a == b
  | .bl a, .int b => (if a then 1 else 0) == b
  | .int a, .bl b => a == (if b then 1 else 0)
  | .int a, .int b => a == b
  | .str a, .str b => a == b
  | _, _ => false
theorem eqAt_V {A : Around} {s : Shared} {y x : V} {u v : Value} (ry : RelV y u) (rx : RelV x v) (fy : flatV y = true) (fx : flatV x = true) : SeqAt.EqAt A s u v (eqV y x) := by
  cases y with
  | non =>
    cases ry
    cases x with
    | non => cases rx; exact SeqAt.EqAt.same _
    | bl b => cases rx; exact SeqAt.EqAt.none_bool b
    | int b => obtain ⟨t, rfl⟩ := rx; exact SeqAt.EqAt.none_int b t
    | str b => obtain ⟨t, rfl⟩ := rx; exact SeqAt.EqAt.none_str b t
    | _ => exact absurd (show false = true from fx) Bool.false_ne_true
  | bl a =>
    cases ry
    cases x with
    | non => cases rx; exact SeqAt.EqAt.bool_none a
    | bl b => cases rx; exact SeqAt.EqAt.bool_bool a b
    | int b => obtain ⟨t, rfl⟩ := rx; exact SeqAt.EqAt.bool_int a b t
    | str b => obtain ⟨t, rfl⟩ := rx; exact SeqAt.EqAt.bool_str a b t
    | _ => exact absurd (show false = true from fx) Bool.false_ne_true
  | int a =>
    obtain ⟨t', rfl⟩ := ry
    cases x with
    | non => cases rx; exact SeqAt.EqAt.int_none a t'
    | bl b => cases rx; exact SeqAt.EqAt.int_bool a t' b
    | int b => obtain ⟨t, rfl⟩ := rx; exact SeqAt.EqAt.int_int a t' b t
    | str b => obtain ⟨t, rfl⟩ := rx; exact SeqAt.EqAt.int_str a t' b t
    | _ => exact absurd (show false = true from fx) Bool.false_ne_true
  | str a =>
    obtain ⟨t', rfl⟩ := ry
    cases x with
    | non => cases rx; exact SeqAt.EqAt.str_none a t'
    | bl b => cases rx; exact SeqAt.EqAt.str_bool a t' b
    | int b => obtain ⟨t, rfl⟩ := rx; exact SeqAt.EqAt.str_int a t' b t
    | str b => obtain ⟨t, rfl⟩ := rx; exact SeqAt.EqAt.str_str a t' b t
    | _ => exact absurd (show false = true from fx) Bool.false_ne_true
  | _ => exact absurd (show false = true from fy) Bool.false_ne_true
/-- the items' answers, read off the values (a value's own answer does not lean on its token) -/
noncomputable def eqU (x : V) (u : Value) : Bool := match u with
  | .none => eqV .non x
  | .bool b => eqV (.bl b) x
  | .int i _ => eqV (.int i) x
  | .str z _ => eqV (.str z) x
  | _ => false
theorem eqU_of {x y : V} {u : Value} (r : RelV y u) (f : flatV y = true) : eqU x u = eqV y x := by
  cases y with
  | non => cases r; rfl
  | bl b => cases r; rfl
  | int i => obtain ⟨t, rfl⟩ := r; rfl
  | str z => obtain ⟨t, rfl⟩ := r; rfl
  | _ => exact absurd (show false = true from f) Bool.false_ne_true
theorem any_eqU {x : V} : ∀ {xs : List V} {us : List Value}, Vals xs us → xs.all flatV = true → us.any (eqU x) = xs.any fun y => eqV y x
  | _, _, .nil, _ => rfl
  | y :: xs, u :: us, .cons r t, f => by
    rw [List.all_cons, Bool.and_eq_true] at f
    rw [List.any_cons, List.any_cons, eqU_of r f.1, any_eqU t f.2]
theorem mem_eqAt {A : Around} {s : Shared} {x : V} {v : Value} (rx : RelV x v) (fx : flatV x = true) : ∀ {xs : List V} {us : List Value}, Vals xs us → xs.all flatV = true → ∀ u ∈ us, SeqAt.EqAt A s u v (eqU x u)
  | _, _, .nil, _ => fun u hu => by cases hu
  | y :: xs, u :: us, .cons r t, f => fun u' hu => by
    rw [List.all_cons, Bool.and_eq_true] at f
    rcases List.mem_cons.mp hu with rfl | hu
    · rw [eqU_of r f.1]; exact eqAt_V r rx f.1 fx
    · exact mem_eqAt rx fx t f.2 u' hu
noncomputable def inV (x : V) (xs : List V) : Bool := xs.any fun y => eqV y x
/-- x in a list or tuple of flat items -/
noncomputable def rIn (K : PySem.W.Frag) (neg : Bool) : R2 := fun x y H Q => ∃ p xs, y = .ref p ∧ (SqL K H p xs ∨ SqT K H p xs) ∧ flatV x = true ∧ xs.all flatV = true ∧ Q (.bl (if neg then !inV x xs else inV x xs)) H
theorem op_notIn_seq : OpR X (compareOp .NotIn) (rIn X.K true) := by
  intro pins s σ H x y v u Q I rx ry h
  obtain ⟨p, xs, rfl, hq, fx, fs, q⟩ := h
  cases ry
  rcases hq with hq | hq
  · obtain ⟨its, r, pl, hz⟩ := I.list hq
    refine SeqAt.notIn_listAt (eqU x) pl.isList (fun w hw => mem_eqAt rx fx r fs w (by simpa using hw)) ⟨.bl _, H, I, rfl, ?_⟩
    rw [show its.toArray.any (eqU x) = its.any (eqU x) by simp, any_eqU r fs]
    exact q
  · obtain ⟨its, r, pl, hz⟩ := I.tuple hq
    refine SeqAt.notIn_tupleAt (eqU x) pl (fun w hw => mem_eqAt rx fx r fs w (by simpa using hw)) ⟨.bl _, H, I, rfl, ?_⟩
    rw [show its.toArray.any (eqU x) = its.any (eqU x) by simp, any_eqU r fs]
    exact q
theorem op_notIn_str : OpR X (compareOp .NotIn) (fun x y H Q => ∃ i j, x = .str i ∧ y = .str j ∧ Q (.bl (!(!(Builtin.Str.occurrences j i 0 j.length 1).isEmpty))) H) := by
  intro pins s σ H x y v u Q I rx ry h
  obtain ⟨i, j, rfl, rfl, q⟩ := h
  obtain ⟨t, rfl⟩ := rx
  obtain ⟨t', rfl⟩ := ry
  exact notIn_str ⟨.bl _, H, I, rfl, q⟩

/-! ### len, list(x), tuple(x) of any list or tuple that is read -/
theorem call_len_seq : CallR X (.builtin "len") (fun xs H Q => ∃ p ys, xs = [.ref p] ∧ (SqL X.K H p ys ∨ SqT X.K H p ys) ∧ Q (.int ys.length) H) := by
  intro pins s σ H xs us Q I r h
  obtain ⟨p, ys, rfl, hq, q⟩ := h
  obtain ⟨u, rfl, rx⟩ := vals1 r
  cases rx
  have hn := line63
  rcases hq with hq | hq
  · obtain ⟨its, r', pl, hz⟩ := I.list hq
    have hlen := r'.length
    exact Calls.call_len_list pl.isList (by simp only [List.size_toArray] <;> omega) ⟨.int ys.length, H, I.tok _, ⟨s.toks + 1, by rw [List.size_toArray, hlen]⟩, q⟩
  · obtain ⟨its, r', pl, hz⟩ := I.tuple hq
    have hlen := r'.length
    exact len_tuple pl (by simp only [List.size_toArray] <;> omega) ⟨.int ys.length, H, I.tok _, ⟨s.toks + 1, by rw [List.size_toArray, hlen]⟩, q⟩
theorem call_len_str : CallR X (.builtin "len") (fun xs H Q => ∃ z, xs = [.str z] ∧ z.length ≤ sizeLine ∧ Q (.int z.length) H) := by
  intro pins s σ H xs us Q I r h
  obtain ⟨z, rfl, hz, q⟩ := h
  obtain ⟨u, rfl, t, rfl⟩ := vals1 r
  have hn := line63
  exact len_str (by omega) ⟨.int z.length, H, I.tok _, ⟨_, rfl⟩, q⟩
theorem CallR.or {f : Value} {r r' : List V → Hp → VK → Prop} (h : CallR X f r) (h' : CallR X f r') : CallR X f (fun xs H Q => r xs H Q ∨ r' xs H Q) := by
  intro pins s σ H xs us Q I rs q
  rcases q with q | q
  · exact h pins s σ H xs us Q I rs q
  · exact h' pins s σ H xs us Q I rs q
theorem call_list_of : CallR X (.type "list") (fun xs H Q => ∃ p ys, xs = [.ref p] ∧ (SqL X.K H p ys ∨ SqT X.K H p ys) ∧ ∀ l, H l = none → Q (.ref l) (upd H l (.lst ys))) := by
  intro pins s σ H xs us Q I r h
  obtain ⟨p, ys, rfl, hq, q⟩ := h
  obtain ⟨u, rfl, rx⟩ := vals1 r
  cases rx
  have fin : ∀ (its : List Value), Vals ys its → ys.length ≤ sizeLine → ∀ (h' : Heap) (c' : Nat), (∀ b o', s.heap.get? b = some o' → h'.get? b = some o') →
      h'.get? s.heap.objs.size = some { cls := .type "list", dict := none, data := .seq its.toArray c', slots := #[] } → EP X pins σ Q (.ref s.heap.objs.size) { s with heap := h' } := fun its r' hz h' c' kp e =>
    ⟨.ref s.heap.objs.size, _, I.laid (t' := s.toks) kp (Nat.le_refl _) (show ObjOk X.prog X.w _ h' _ (.lst ys) from ⟨hz, its, c', r', e⟩), rfl, q _ (I.hok.fresh (Nat.le_refl _))⟩
  rcases hq with hq | hq
  · obtain ⟨its, r', pl, hz⟩ := I.list hq
    have hlen := r'.length
    obtain ⟨o, ho, hc, n, hd⟩ := pl.isList
    exact call_list_seq p (.inl rfl) ho hc hd (fun h' c' kp e => fin its r' hz h' c' kp e) (by simp only [List.size_toArray] <;> omega)
  · obtain ⟨its, r', pl, hz⟩ := I.tuple hq
    have hlen := r'.length
    obtain ⟨o, ho, hc, n, hd⟩ := pl
    exact call_list_seq p (.inr rfl) ho hc hd (fun h' c' kp e => fin its r' hz h' c' kp e) (by simp only [List.size_toArray] <;> omega)
/-! ### the call of a builtin's method: o.m(..) -/
/-- the value is of that builtin type -/
noncomputable def tyV (K : PySem.W.Frag) (T : String) (x : V) (H : Hp) : Prop := match x with
  | .str _ => T = "str"
  | .int _ => T = "int"
  | .ref p => (T = "list" ∧ ∃ xs, SqL K H p xs) ∨ (T = "tuple" ∧ ∃ o, K.lookup p = some o ∧ o.cls = .type "tuple" ∧ o.dict = none) ∨
      (T = "dict" ∧ ((∃ kvs, H p = some (.dK kvs)) ∨ ∃ kvs, H p = some (.dT kvs))) ∨ (T = "set" ∧ ∃ S n, H p = some (.set S n))
  | _ => False
theorem tyV_is {pins : List (Addr × Obj)} {σ : St} {H : Hp} {s : Shared} {T : String} {x : V} {v : Value} (I : Inv X pins σ H s) (r : RelV x v) (ty : tyV X.K T x H) :
    s.TypeIs v T ∧ ∀ a, v = .ref a → ∃ ob, s.heap.get? a = some ob ∧ ob.dict = none := by
  cases x with
  | str z =>
    obtain ⟨t, rfl⟩ := r
    cases (show T = "str" from ty)
    exact ⟨typeIs_str s z t, fun _ e => nomatch e⟩
  | int i =>
    obtain ⟨t, rfl⟩ := r
    cases (show T = "int" from ty)
    exact ⟨typeIs_int s i t, fun _ e => nomatch e⟩
  | ref p =>
    cases r
    rcases ty with ⟨rfl, xs, hq⟩ | ⟨rfl, o, hk, hc, hd⟩ | ⟨rfl, hk⟩ | ⟨rfl, S, n, hk⟩
    · obtain ⟨its, _, pl, _⟩ := I.list hq
      refine ⟨pl.isList.typeIs, fun a e => ?_⟩
      cases e
      obtain ⟨o, n, e, c, hd, _⟩ := pl
      exact ⟨o, e, hd⟩
    · refine ⟨⟨o, I.kIn p o hk, hc⟩, fun a e => ?_⟩
      cases e
      exact ⟨o, I.kIn _ o hk, hd⟩
    · have z : ∃ o, s.heap.get? p = some o ∧ o.ExactDict := by
        rcases hk with ⟨kvs, hk⟩ | ⟨kvs, hk⟩
        · obtain ⟨_, _, _, _, o, _, _, e, ex, _⟩ := I.hok p _ hk
          exact ⟨o, e, ex⟩
        · obtain ⟨_, _, _, _, o, _, _, e, ex, _⟩ := I.hok p _ hk
          exact ⟨o, e, ex⟩
      obtain ⟨o, e, ex⟩ := z
      refine ⟨⟨o, e, ex.1⟩, fun a e2 => ?_⟩
      cases e2
      exact ⟨o, e, ex.2.1⟩
    · obtain ⟨o, _, _, _, e, ex, _⟩ := I.hok p _ hk
      refine ⟨⟨o, e, ex.1⟩, fun a e2 => ?_⟩
      cases e2
      exact ⟨o, e, ex.2.1⟩
  | _ => exact False.elim ty
noncomputable def tBM0 (K : PySem.W.Frag) (T : String) (r : V → List V → Hp → VK → Prop) (to : TE) : TE := fun σ H Q => to σ H fun x H1 => tyV K T x H1 ∧ r x [] H1 Q
noncomputable def tBM (K : PySem.W.Frag) (T : String) (r : V → List V → Hp → VK → Prop) (to : TE) (t : TA) : TE := fun σ H Q => to σ H fun x H1 => tyV K T x H1 ∧ t σ H1 fun xs H2 => r x xs H2 Q
variable {o e : Expr} {es : List Expr} {to : TE} {t : TA} {name : Str} {apos cpos : Pos} {T id : String} {r : V → List V → Hp → VK → Prop}
theorem pe_bm0 (pa : PlainAttrs T) (slot : Slot T name id) (hty : typeOf (.builtin id) = pure (.type "method_descriptor")) (hm : MtR X id r) (ho : PE X o to)
    (hbase : attributeBase o name X.env (eval o X.env) = eval o X.env := by rfl) (hline : (apos.endLine == cpos.line) = true := by rfl) : PE X (.Call (.Attribute o name apos) [] [] cpos) (tBM0 X.K T r to) := by
  intro pins s σ H Q I h
  refine wpAny_Call_method0_late hbase hline (thn (ho pins s σ H _ I h) fun v s1 ⟨x, H1, I1, r1, ty, q1⟩ => ?_)
  obtain ⟨h1, h2⟩ := tyV_is I1 r1 ty
  exact ⟨T, id, pa, slot, hty, h1, h2, Calls.callWith_builtin rfl (PySem.evalArgs_none (hm pins s1 σ H1 x [] v [] Q I1 r1 .nil q1))⟩
theorem pe_bm (pa : PlainAttrs T) (slot : Slot T name id) (hty : typeOf (.builtin id) = pure (.type "method_descriptor")) (hm : MtR X id r) (ho : PE X o to) (ha : PA X (e :: es) t)
    (hbase : attributeBase o name X.env (eval o X.env) = eval o X.env := by rfl)
    (hfew : ((backTo cpos (starEach (e :: es) X.env)).all (fun x => !x.1) && (backToKw cpos (keywordEach [] X.env)).all (fun x => x.1.isSome)
      && decide ((e :: es).length + ([] : List Keyword).length + (if ([] : List Keyword).isEmpty then 0 else 1) < 30)) = true := by rfl)
    (hline : (apos.endLine == cpos.line) = true := by rfl) (hs : starEach (e :: es) X.env = (false, eval e X.env) :: starEach es X.env := by rfl) (hplain : (backTo cpos (starEach es X.env)).any (·.1) = false := by rfl) :
    PE X (.Call (.Attribute o name apos) (e :: es) [] cpos) (tBM X.K T r to t) := by
  intro pins s σ H Q I h
  refine wpAny_Call_method_late hbase hfew hline rfl (thn (ho pins s σ H _ I h) fun v s1 ⟨x, H1, I1, r1, ty, q1⟩ => ?_)
  obtain ⟨h1, h2⟩ := tyV_is I1 r1 ty
  refine ⟨T, id, pa, slot, hty, h1, h2, ?_⟩
  have hA := ha cpos pins s1 σ H1 _ I1 q1
  rw [hs] at hA ⊢
  refine Calls.callWith_builtin (by show (false || (backTo cpos (starEach es X.env)).any (·.1)) = false; rw [hplain] <;> rfl) (Calls.evalArgs_plain ?_)
  exact thn hA fun us s2 ⟨vs, H2, I2, r2, q2⟩ => hm pins s2 σ H2 x vs v us Q I2 r1 r2 q2
/- xs.append(e), list.index on a module's tuple .. are MtR facts of 06m -/
end
end L2

namespace L2
open PySem PySem.Spec PyProof.Rows

noncomputable def MtM (X : Cx) (id : String) (r : V → List V → Hp → VK → Prop) : Prop :=
  ∀ (pins : List (Addr × Obj)) (s : Shared) (σ : St) (H : Hp) (x : V) (xs : List V) (v : Value) (us : List Value) (Q : VK), Inv X pins σ H s → RelV x v → Vals xs us → r x xs H Q →
    wpAny (model X.prog X.w) X.A (call (.builtin id) (v :: us)) (EP X pins σ Q) X.xe s

/-! ### lists of values -/
theorem Vals.one : ∀ {x : V} {us : List Value}, Vals [x] us → ∃ u, us = [u] ∧ RelV x u
  | _, _, .cons r .nil => ⟨_, rfl, r⟩
theorem Vals.zero : ∀ {us : List Value}, Vals [] us → us = []
  | _, .nil => rfl
theorem Vals.dropLast {xs : List V} {us : List Value} (h : Vals xs us) : Vals xs.dropLast us.dropLast := by
  induction h with
  | nil => exact .nil
  | cons r t ih =>
    cases t with
    | nil => exact .nil
    | cons q t' => exact .cons r ih
theorem Vals.rep {xs : List V} {us : List Value} (h : Vals xs us) : ∀ k : Nat, Vals (List.replicate k xs).flatten (List.replicate k us).flatten
  | 0 => .nil
  | k + 1 => by
    rw [List.replicate_succ, List.replicate_succ, List.flatten_cons, List.flatten_cons]
    exact Vals.append h (Vals.rep h k)
theorem erase_last {α : Type} (l : List α) : l.eraseIdx (l.length - 1) = l.dropLast := by
  induction l with
  | nil => rfl
  | cons a r ih =>
    cases r with
    | nil => rfl
    | cons b r =>
      have e : (a :: b :: r).length - 1 = ((b :: r).length - 1) + 1 := by
        have h1 : (a :: b :: r).length = r.length + 2 := rfl
        have h2 : (b :: r).length = r.length + 1 := rfl
        omega
      rw [e, List.eraseIdx_cons_succ, ih]
      all_goals rfl
theorem foldl_rep (its : List Value) : ∀ (k : Nat) (acc : List Value),
    List.foldl (fun x1 x2 => x1 ++ x2) acc.toArray (List.replicate k its.toArray) = (acc ++ (List.replicate k its).flatten).toArray
  | 0, acc => by simp
  | k + 1, acc => by
    have e : acc.toArray ++ its.toArray = (acc ++ its).toArray := by simp
    have e2 : (acc ++ its) ++ (List.replicate k its).flatten = acc ++ (List.replicate (k + 1) its).flatten := by
      rw [List.replicate_succ, List.flatten_cons, List.append_assoc]
    rw [← e2, ← foldl_rep its k (acc ++ its), ← e, List.replicate_succ, List.foldl_cons]

section
variable {X : Cx} {pins : List (Addr × Obj)} {σ : St} {H : Hp} {s : Shared} {l b : Addr} {xs ys zs : List V}

/-! ### the two steps: a tracked list is rewritten, a new list is laid -/
theorem Inv.lset {its its' : List Value} {n : Nat} {f : Array Value → Array Value} {t' : Nat} (I : Inv X pins σ H s) (hH : H l = some (.lst xs))
    (e : s.heap.get? l = some { cls := .type "list", data := .seq its.toArray n }) (hf : f its.toArray = its'.toArray) (hv : Vals ys its') (hz : ys.length ≤ sizeLine) :
    Inv X pins σ (upd H l (.lst ys)) { s with heap := s.heap.update l (Obj.mapSeq f), toks := t' } := by
  have q := PySem.IsL.update e f
  rw [hf] at q
  refine I.write (x := l) (e := l) (by rw [hH]; exact trivial) (.inl rfl) (fun b' u hb hu => (Heap.get?_update_other s.heap (Obj.mapSeq f) (Ne.symm hb)).trans hu) ⟨_, q⟩ ?_
  exact ⟨hz, its', _, hv, q⟩
theorem Inv.lnew {its : List Value} {t' : Nat} (I : Inv X pins σ H s) (hv : Vals ys its) (hz : ys.length ≤ sizeLine) :
    Inv X pins σ (upd H s.heap.objs.size (.lst ys)) { s with heap := s.heap.push { cls := .type "list", data := .seq its.toArray }, toks := t' } :=
  I.laid (fun _ _ q => Heap.get?_push_of_some _ q) (Nat.le_refl _) ⟨hz, its, 0, hv, Heap.get?_push_size _ rfl⟩
theorem Inv.fresh (I : Inv X pins σ H s) : H s.heap.objs.size = none := I.hok.fresh (Nat.le_refl _)
theorem Inv.lstM (I : Inv X pins σ H s) (hH : H l = some (.lst xs)) : xs.length ≤ sizeLine ∧ ∃ (its : List Value) (n : Nat), Vals xs its ∧ xs.length = its.length ∧ s.heap.get? l = some { cls := .type "list", data := .seq its.toArray n } := by
  obtain ⟨z, its, n, r, e⟩ := I.hok l _ hH
  exact ⟨z, its, n, r, r.length, e⟩

theorem notLongL {n : Nat} (h : n ≤ sizeLine) : Builtin.List.listTooLong n = false := by
  unfold Builtin.List.listTooLong
  exact decide_eq_false (by omega)
end

section
variable {X : Cx}

/-! ### methods -/
noncomputable def rAppend : V → List V → Hp → VK → Prop := fun x vs H Q => ∃ l xs y, x = .ref l ∧ vs = [y] ∧ H l = some (.lst xs) ∧ xs.length < sizeLine ∧ Q .non (upd H l (.lst (xs ++ [y])))
theorem mt_append : MtM X "list.append" rAppend := by
  intro pins s σ H x vs v us Q I rx rv h
  obtain ⟨l, xs, y, rfl, rfl, hH, hz, q⟩ := h
  cases rx
  obtain ⟨u, rfl, ru⟩ := rv.one
  obtain ⟨z, its, n, r, hl, e⟩ := I.lstM hH
  refine call_meets F.slot_list_append ⟨_, e, rfl⟩ F.entry_list_append (F.args_list_append_2 _ _) (PySem.list_append l its.toArray n u (by rw [List.size_toArray]; omega)) ⟨e, ?_⟩
  refine ⟨.non, _, I.lset (its' := its ++ [u]) hH e (by simp) (r.append (.cons ru .nil)) ?_, rfl, q⟩
  rw [List.length_append, List.length_singleton]
  omega

noncomputable def rExtend : V → List V → Hp → VK → Prop := fun x vs H Q => ∃ l b xs zs, x = .ref l ∧ vs = [.ref b] ∧ H l = some (.lst xs) ∧ H b = some (.lst zs) ∧ xs.length + zs.length ≤ sizeLine ∧ Q .non (upd H l (.lst (xs ++ zs)))
theorem mt_extend : MtM X "list.extend" rExtend := by
  intro pins s σ H x vs v us Q I rx rv h
  obtain ⟨l, b, xs, zs, rfl, rfl, hH, hB, hz, q⟩ := h
  cases rx
  obtain ⟨u, rfl, ru⟩ := rv.one
  cases ru
  obtain ⟨z, its, n, r, hl, e⟩ := I.lstM hH
  obtain ⟨z2, its2, n2, r2, hl2, e2⟩ := I.lstM hB
  have hsz : its.toArray.size + its2.toArray.size ≤ sizeLine := by rw [List.size_toArray, List.size_toArray]; omega
  have hlong : ¬ (!its.toArray.isEmpty && Builtin.List.listTooLong (its.toArray.size + its2.toArray.size)) = true := by
    rw [notLongL hsz, Bool.and_false]
    exact Bool.false_ne_true
  refine call_meets F.slot_list_extend ⟨_, e, rfl⟩ F.entry_list_extend (F.args_list_extend_2 _ _)
    (AutoSeq1.list_extend_list_list_0 l its.toArray n b its2.toArray n2 hlong (by rw [List.size_toArray]; omega) (by omega)) ⟨e, e2, ?_⟩
  refine ⟨.non, _, I.lset (its' := its ++ its2) hH e (by simp) (r.append r2) ?_, rfl, q⟩
  rw [List.length_append]
  omega

noncomputable def rPop : V → List V → Hp → VK → Prop := fun x vs H Q => ∃ l xs y, x = .ref l ∧ vs = [] ∧ H l = some (.lst xs) ∧ xs[xs.length - 1]? = some y ∧ Q y (upd H l (.lst xs.dropLast))
theorem mt_pop : MtM X "list.pop" rPop := by
  intro pins s σ H x vs v us Q I rx rv h
  obtain ⟨l, xs, y, rfl, rfl, hH, hy, q⟩ := h
  cases rx
  have hus := rv.zero
  subst hus
  obtain ⟨z, its, n, r, hl, e⟩ := I.lstM hH
  obtain ⟨u, hu, ru⟩ := r.get hy
  have hy' : its.toArray[its.toArray.size - 1]? = some u := by
    show its.toArray[its.length - 1]? = some u
    rw [← Array.getElem?_toList, ← hl]
    exact hu
  refine call_meets F.slot_list_pop ⟨_, e, rfl⟩ F.entry_list_pop (F.args_list_pop_1 _) (MeetsSeq.list_pop_last l its.toArray n u hy' (by rw [List.size_toArray]; omega)) ⟨e, ?_⟩
  refine ⟨y, _, I.lset (its' := its.dropLast) hH e ?_ r.dropLast ?_, ru, q⟩
  · show its.toArray.eraseIdxIfInBounds (its.toArray.size - 1) = its.dropLast.toArray
    rw [List.size_toArray, List.eraseIdxIfInBounds_toArray, erase_last]
  · rw [List.length_dropLast]
    omega

/-! ### list + list, list += list, list * int -/
noncomputable def rCat : R2 := fun x y H Q => ∃ l b xs zs, x = .ref l ∧ y = .ref b ∧ H l = some (.lst xs) ∧ H b = some (.lst zs) ∧ xs.length + zs.length ≤ sizeLine ∧ ∀ p, H p = none → Q (.ref p) (upd H p (.lst (xs ++ zs)))
theorem op_cat : OpR X (binaryOp .Add) rCat := by
  intro pins s σ H x y v u Q I rx ry h
  obtain ⟨l, b, xs, zs, rfl, rfl, hH, hB, hz, q⟩ := h
  cases rx
  cases ry
  obtain ⟨z, its, n, r, hl, e⟩ := I.lstM hH
  obtain ⟨z2, its2, n2, r2, hl2, e2⟩ := I.lstM hB
  refine PySem.P.add_list e e2 ?_ (by rw [List.size_toArray, List.size_toArray]; omega)
  have ea : its.toArray ++ its2.toArray = (its ++ its2).toArray := by simp
  rw [ea]
  exact ⟨.ref _, _, I.lnew (t' := s.toks) (r.append r2) (by rw [List.length_append]; omega), rfl, q _ I.fresh⟩
/-- a list times an int (a negative one is nothing) -/
noncomputable def rRep : R2 := fun x y H Q => ∃ l k xs, x = .ref l ∧ y = .int k ∧ H l = some (.lst xs) ∧ -(2 ^ 63) ≤ k ∧ k < 2 ^ 63 ∧ xs.length * k.toNat ≤ sizeLine ∧
  ∀ p, H p = none → Q (.ref p) (upd H p (.lst (List.replicate k.toNat xs).flatten))
theorem len_rep {α : Type} (xs : List α) (k : Nat) : (List.replicate k xs).flatten.length = k * xs.length := by
  induction k with
  | zero => simp
  | succ k ih => rw [List.replicate_succ, List.flatten_cons, List.length_append, ih, Nat.succ_mul, Nat.add_comm]
theorem op_rep : OpR X (binaryOp .Mult) rRep := by
  intro pins s σ H x y v u Q I rx ry h
  obtain ⟨l, k, xs, rfl, rfl, hH, h1, h2, hz, q⟩ := h
  cases rx
  obtain ⟨t, rfl⟩ := ry
  obtain ⟨z, its, n, r, hl, e⟩ := I.lstM hH
  have hlen : its.toArray.size * k.toNat ≤ sizeLine := by rw [List.size_toArray, ← hl]; exact hz
  have hcap : ¬ its.toArray.size * k.toNat > (2 ^ 63 - 1) / 8 := by
    have : (sizeLine : Nat) ≤ (2 ^ 63 - 1) / 8 := by decide
    omega
  have hfit : ¬ (!Builtin.List.listFitsIndex k) = true := by
    rw [fitsIndex_both h1 h2]
    exact Bool.false_ne_true
  have hlong : ¬ Builtin.List.listTooLong (its.toArray.size * k.toNat) = true := by
    rw [notLongL hlen]
    exact Bool.false_ne_true
  have hnew : List.foldl (fun x1 x2 => x1 ++ x2) #[] (List.replicate (if its.toArray.isEmpty = true then 0 else k.toNat) its.toArray) = (List.replicate k.toNat its).flatten.toArray := by
    have f0 : ∀ m : Nat, List.foldl (fun x1 x2 => x1 ++ x2) #[] (List.replicate m its.toArray) = (List.replicate m its).flatten.toArray := fun m => by
      have := foldl_rep its m []
      rw [List.nil_append] at this
      exact this
    rw [f0]
    cases its with
    | nil => simp
    | cons a r' => rw [if_neg (by simp)]
  refine wpAny_binaryOp_repeat_ref (T := "list") (U := "int") (by decide) ⟨_, e, rfl⟩ (fun s' => typeIs_int s' k t) noFill_list_mul F.fills_int_mul F.slot_int_rmul repeat_list F.slot_int_index.lookup
    (call_meets F.slot_int_rmul (typeIs_int s k t) F.entry_int_rmul (F.args_int_rmul_2 _ _) (int___rmul___int_list k t l its.toArray n)
      ⟨e, rfl, ⟨_, e, rfl⟩, call_meets F.slot_list_mul ⟨_, e, rfl⟩ F.entry_list_mul (F.args_list_mul_2 _ _) (AutoListH.list___mul___list_int_3 l its.toArray n k t hfit hcap hlong) ⟨e, ?_⟩⟩)
  rw [hnew]
  exact ⟨.ref _, _, I.lnew (t' := s.toks) (r.rep k.toNat) (by rw [len_rep, Nat.mul_comm]; exact hz), rfl, q _ I.fresh⟩

end

/-! ### xs[a:b] = ys -/
section
variable {prog : Program} {w : World} {A : Around} {E : Value → Shared → Prop} {s : Shared}
end

section
variable {X : Cx}
end
end L2

namespace Att
open PySem PySem.W PySem.Calls PyProof.Rows

/-! ### the script -/
theorem ints_of_wellAll {P : Params} {h : Heap} : ∀ (ns : List Int) (vs : List Value), WellAll P h vs (ns.map WData.int) → IntsAre vs ns := by
  intro ns
  induction ns with
  | nil =>
    intro vs w
    rw [List.map_nil] at w
    cases w
    exact .nil
  | cons n ns ih =>
    intro vs w
    rw [List.map_cons] at w
    cases w with
    | cons a b =>
      cases a
      exact .cons _ _ (ih _ b)

theorem script_of {l : OpenLaw} {n : Nat} (hn : l.most = some n) {P : Params} {h : Heap} {args : List WData} {vals : List Value}
    (hpre : l.row.toRowW.claim.pre args = true) (hwl : WellAll P h vals args) :
    ∃ a vs ns, vals = [Value.ref a] ∧ args = [WData.list (ns.map WData.int)] ∧ h.get? a = some { cls := .type "list", data := .seq vs.toArray } ∧ IntsAre vs ns ∧ ns.length ≤ n := by
  have hsh : WShape.hasAll [] args [.list .int] = true := (pre_splitW hpre).1
  have hc : l.pre.holds [] { args := args } = true := (pre_splitW hpre).2
  obtain ⟨d, r, rfl, h1, h2⟩ := hasAllW_cons hsh
  obtain rfl := hasAllW_nil h2
  obtain ⟨xs, rfl, h3⟩ := hasW_list h1
  obtain ⟨ns, rfl⟩ := items_int h3
  have hlen : ns.length ≤ n := by
    unfold OpenLaw.pre at hc
    have h4 : (WTm.not (.lt (.lit (.int (n : Int))) (.len (.arg 0)))).holds [] { args := [.list (ns.map .int)] } = true := by
      have h4 := (holds_andW hc).1
      rw [hn] at h4
      exact h4
    have h5 := condW_of h4 (w_not (w_lt w_lit (w_len_list (w_arg rfl))))
    rw [List.length_map] at h5
    refine Nat.le_of_not_lt fun q => ?_
    have q' : (n : Int) < ((ns.length : Nat) : Int) := by omega
    first
      | (rw [decide_eq_true q'] at h5; exact absurd h5 (by decide))
      | (simp at h5; omega)
  cases hwl with
  | cons w1 w2 =>
    cases w2
    cases w1 with
    | list ho hall => exact ⟨_, _, ns, rfl, rfl, ho, ints_of_wellAll ns _ hall, hlen⟩

theorem post_true (l : OpenLaw) (args : List WData) : l.row.toRowW.claim.post args (.bool true) args = true :=
  postW_of (r := l.row.toRowW) (X := (true == true))
    (show WShape.has [] (.bool true) .bool = true by first | rfl | decide | simp [WShape.has, WShape.arms, WShape.armsAll])
    (show (WTm.eq .res (.lit (.bool true))).value [] { args := args, res := some (.bool true), after := args } = some (.bool (true == true)) from w_eq_bool (w_res rfl) w_lit) rfl

/-- the same from a codeAny of the CALL (for a layer whose function contracts speak of calls) -/
theorem attach_call {l : OpenLaw} {n : Nat} {q : Program} {loose : List Str} {XP : (Str → Option Value) → Heap → Prop} {YP : World → Heap → Prop} {d : DefRec}
    (hn : l.most = some n) (hdf : d.params.defaults = [])
    (call : ∀ (w : World) (s₀ s₁ : Shared) (mg mb : Str → Option Value) (fa : Addr) (o : Obj) (pm cd doc : Value) (a : Addr) (vs : List Value) (ns : List Int),
      Ground q loose [] XP w s₀ mg mb s₁.heap → YP w s₁.heap →
      s₁.heap.get? fa = some o → o.data = .func (docDef d.name d.params d.body d.scope pm cd doc) → s₁.heap.CodeRec cd d.name → mg d.name = some (.ref fa) →
      s₁.heap.get? a = some { cls := .type "list", data := .seq vs.toArray } → IntsAre vs ns → ns.length ≤ n → s₁.gens = #[] →
      codeAny (model l.prog w) callerA (.call (.ref fa) ⟨[.ref a], []⟩) (fun r s' => r = .ok (.ret (.bool true)) ∧ OldK s₁.heap s'.heap ∧ s'.os = s₁.os ∧ AllBare s'.gens) s₁) :
    WalkO q loose XP YP l.row.toRowW d [] (fun f vs => PySem.call f vs) := by
  intro w s₀ s₁ mg mb G Y fa o pm cd doc dV kV ho hd hcd hD hmg hg args vals as hpre hlay hrd hwl hlo
  obtain rfl : dV = .none := Dflts.none hD hdf
  obtain rfl : kV = .none := Dflts.noKw hD
  obtain ⟨a, vs, ns, rfl, rfl, hobj, hints, hlen⟩ := script_of hn hpre hwl
  refine enter_call (codeAny_mono (call w s₀ s₁ mg mb fa o pm cd doc a vs ns G Y ho (fd_plain hd) hcd hmg hobj hints hlen hg) fun r s' hq => ?_)
  obtain ⟨rfl, h2, h3, h4⟩ := hq
  exact ⟨.inl ⟨.bool true, .bool true, [], rfl, fun _ => rfl, .bool true, post_true l _, fun _ => ⟨List.Pairwise.nil, fun _ hm => (nomatch hm)⟩⟩, h2, h3, h4⟩

/-! ### rules over ANY heap (no ledger) from facts about the written part K: the library's own take a ledger (News) for what they write -/
section
variable {prog : Program} {w : World} {A : Around} {E : Value → Shared → Prop} {s : Shared} {K : Frag}

noncomputable def ledger (h : Heap) (L d : Addr) : List (Addr × Obj) := (List.range h.objs.size).filterMap fun a => if a = L ∨ a = d then none else (h.get? a).map fun o => (a, o)
end
end Att

namespace L2
open PySem PySem.Spec PyProof.Rows

theorem vals_ints : ∀ {vs : List Value} {ns : List Int}, IntsAre vs ns → Vals (ns.map V.int) vs
  | _, _, .nil => .nil
  | _, _, .cons n t h => .cons ⟨t, rfl⟩ (vals_ints h)

/-- nothing is tracked but the script, known to the object (or it is an object of the module) -/
noncomputable def Only (H : Hp) : Prop := ∀ b, H b = none ∨ ∃ o xs, H b = some (.frz o (.lst xs))

/-- THE HEAD: the law's promise, at the heap behind the top. F, the promise of the law's def, may use that base is part of the heap (so K.In base, base.Ns mainGlobals mg stand in Mod) -/
theorem law_call {P : Program} {w : World} {K : PySem.W.Frag} {mg mb : Str → Option Value} {CX : CXT} {k : Nat} {fa a : Addr} {fd : FuncData} {x : Str} {sp : Sp} {s₁ : Shared} {vs : List Value} {ns : List Int}
    (KX : K.In s₁.heap) (hns : s₁.heap.Ns mainGlobals mg) (hb : s₁.heap.Ns builtinsNs mb) (hbb : ∀ x : Str, x ≠ "__name__" → mb x = bootBuiltins x) (hlim : s₁.heap.NoLimit) (hg : s₁.gens = #[])
    (ha : s₁.heap.get? a = some { cls := .type "list", data := .seq vs.toArray }) (hi : IntsAre vs ns) (hl : ns.length ≤ sizeLine) (hr : Room k callerA)
    (F : ∀ base : Heap, K.In base → base.Ns mainGlobals mg → FnOk P w K mg base CX k fa fd [x] sp) (hbind : ∀ (s : Shared) (u : Value), BindsTo s fd ⟨[u], []⟩ [(x, u)])
    (hsp : ∀ H : Hp, Only H → SqL K H a (ns.map V.int) → sp [.ref a] H (fun v _ => v = .bl true) fun _ _ _ => False)
    (hCX : ∀ H e s', CX [] H s₁ (fun _ _ _ => False) e s' → False) :
    codeAny (model P w) callerA (.call (.ref fa) ⟨[.ref a], []⟩) (fun r s' => r = .ok (.ret (.bool true)) ∧ OldK s₁.heap s'.heap ∧ s'.os = s₁.os ∧ AllBare s'.gens) s₁ := by
  have rv := vals_ints hi
  have lenV := hi.length
  -- from an abstract heap in which nothing but the script may be tracked
  have core : ∀ H : Hp, Only H → SqL K H a (ns.map V.int) → HOk P w H s₁.heap → (∀ b, H b ≠ none → b = a) → (H a ≠ none → K.lookup a = none) →
      codeAny (model P w) callerA (.call (.ref fa) ⟨[.ref a], []⟩) (fun r s' => r = .ok (.ret (.bool true)) ∧ OldK s₁.heap s'.heap ∧ s'.os = s₁.os ∧ AllBare s'.gens) s₁ := by
    intro H hO hS hok hA hK
    have base_of : ∀ {b : Addr} {o : Obj}, s₁.heap.get? b = some o → H b = none → (hidT s₁.heap H).get? b = some o := fun e n => hidT_get e n
    have noA : ∀ {b : Addr} {o : Obj} {es : Array DictEntry} {ep : Nat}, s₁.heap.get? b = some o → o.data = .dict es ep → H b = none := fun {b o es ep} e d => by
      cases q : H b with
      | none => rfl
      | some u =>
        have e' : b = a := hA b (by rw [q]; simp)
        subst e'
        rw [ha] at e; cases e
        have d' : Data.seq vs.toArray _ = Data.dict es ep := d
        cases d'
    have nsK : ∀ {b : Addr} {m : Str → Option Value}, s₁.heap.Ns b m → (hidT s₁.heap H).Ns b m := fun {b m} ⟨o, es, ep, e, d, r⟩ => ⟨o, es, ep, base_of e (noA e d), d, r⟩
    have hKb : K.In (hidT s₁.heap H) := fun b o e => base_of (KX b o e) (by
      cases q : H b with
      | none => rfl
      | some u =>
        have e' : b = a := hA b (by rw [q]; simp)
        subst e'
        rw [hK (by rw [q]; simp)] at e; cases e)
    have hM : Mod K mg (hidT s₁.heap H) := ⟨hKb, nsK hns, ⟨mb, nsK hb, hbb⟩, let ⟨mc, h1, h2⟩ := hlim; ⟨mc, nsK h1, h2⟩⟩
    have e0 : Env0 P w K mg (hidT s₁.heap H) callerA [] s₁ H := ⟨rfl, hM, fun b o e => of_hidT e, Nat.le_of_eq (hidT_size _ _), trivial, fun b hb => absurd (show b ∈ ([] : List Addr) from hb) (by simp), hok, .of_eq hg⟩
    refine codeAny_mono ((F _ hKb (nsK hns)).run callerA [] s₁ H ⟨[.ref a], []⟩ [.ref a] [.ref a] _ _ hr e0 (hbind s₁ (.ref a)) (.cons rfl .nil) (hsp H hO hS)) fun r s' h => ?_
    cases r with
    | error e => exact (hCX H e s' h).elim
    | ok fl =>
      cases fl with
      | next => exact False.elim h
      | brk => exact False.elim h
      | cont => exact False.elim h
      | ret u =>
        obtain ⟨v, H', os, bare, un, hok', r', q⟩ := h
        have q' : v = .bl true := q
        subst q'
        obtain rfl : u = Value.bool true := r'
        refine ⟨rfl, OldK.of_keep fun b o e => ?_, os, bare⟩
        cases q : H b with
        | none => exact un.keep b o e q (by intro z; exact absurd (show b ∈ ([] : List Addr) from z) (by simp)) (by simp)
        | some u =>
          rcases hO b with z | ⟨ob, xs, z⟩
          · rw [q] at z; cases z
          · have z2 := un.frzs b ob _ z
            obtain ⟨e1, _⟩ := hok b _ z
            obtain ⟨e2, _⟩ := hok' b _ z2
            rw [e] at e1; cases e1
            exact e2
  cases hk : K.lookup a with
  | some o =>
    -- the script is one of the module's own objects
    have e := KX a o hk
    rw [ha] at e
    cases e
    refine core (fun _ => none) (fun _ => .inl rfl) (.inr ⟨_, vs.toArray, _, hk, rfl, rfl, rfl, by rw [List.size_toArray, lenV]; exact hl, by simpa using rv⟩) (fun b u z => by have z' : (none : Option HO) = some u := z; cases z') (fun b z => absurd rfl z) fun z => absurd rfl z
  | none =>
    refine core (fun b => if b = a then some (.frz { cls := .type "list", data := .seq vs.toArray } (.lst (ns.map V.int))) else none) (fun b => ?_) (.inl (.inr ⟨{ cls := .type "list", data := .seq vs.toArray }, if_pos rfl⟩)) (fun b u z => ?_) (fun b z => ?_) fun _ => hk
    · by_cases hb : b = a
      · exact .inr ⟨_, _, if_pos hb⟩
      · exact .inl (if_neg hb)
    · by_cases hb : b = a
      · have z' := (if_pos hb).symm.trans z
        cases z'
        subst hb
        exact ⟨ha, by rw [List.length_map]; exact hl, vs, _, rv, ha⟩
      · have z' := (if_neg hb).symm.trans z
        cases z'
    · by_cases hb : b = a
      · exact hb
      · exact absurd (if_neg hb) z
end L2

namespace L2
open PySem PySem.Spec PyProof.Rows

noncomputable abbrev KOf {K : PySem.W.Frag} {h : Heap} (_ : K.In h) : PySem.W.Frag := K

/-- the goal that k_head leaves (case hc), from the law's promise. F gives the function object fd (K's own) once, then the promise over every base -/
theorem walk_of {l : PySem.W.OpenLaw} {n k : Nat} {q : Program} {loose : List Str} {XP : (Str → Option Value) → Heap → Prop} {YP : World → Heap → Prop} {d : DefRec} {K : Params → PySem.W.Frag} {CX : World → CXT} {sp : World → Sp} {x : Str}
    (hn : l.most = some n) (hn2 : n ≤ sizeLine) (hdf : d.params.defaults = []) (hr : Room k callerA)
    (hY : ∀ (w : World) (h : Heap), YP w h → (K w.params).In h)
    (F : ∀ (w : World) (mg : Str → Option Value) (fa : Addr) (h : Heap), (K w.params).In h → h.Ns mainGlobals mg → mg d.name = some (.ref fa) →
      ∃ fd : FuncData, (∀ (s : Shared) (u : Value), BindsTo s fd ⟨[u], []⟩ [(x, u)]) ∧
        ∀ base : Heap, (K w.params).In base → base.Ns mainGlobals mg → FnOk l.prog w (K w.params) mg base (CX w) k fa fd [x] (sp w))
    (hsp : ∀ (w : World) (H : Hp) (a : Addr) (ns : List Int), ns.length ≤ n → Only H → SqL (K w.params) H a (ns.map V.int) → sp w [.ref a] H (fun v _ => v = .bl true) fun _ _ _ => False)
    (hCX : ∀ (w : World) (H : Hp) (s : Shared) (e : Value) (s' : Shared), CX w [] H s (fun _ _ _ => False) e s' → False) :
    PySem.W.WalkO q loose XP YP l.row.toRowW d [] (fun f vs => PySem.call f vs) := by
  refine Att.attach_call hn hdf fun w s₀ s₁ mg mb fa o pm cd doc a vs ns G Y ho hd hcd hmg hobj hints hlen hg => ?_
  have KX := hY w _ Y
  obtain ⟨fd, hb, hF⟩ := F w mg fa _ KX G.T.g hmg
  exact law_call KX G.T.g G.T.b G.T.builtins G.T.nolimit hg hobj hints (Nat.le_trans hlen hn2) hr hF hb (fun H hO hS => hsp w H a ns hlen hO hS) fun H e s' => hCX w H s₁ e s'
end L2

/- THE LAST THEOREM (shape; LID, My.* are yours):
   My.Adr: a structure of the addresses that your layer names (classes, functions); My.Txt K t: a structure (Prop) of the equations over K;
   My.txt_mk : {K} {implicit addresses ..} (e1 : nsIn K mainGlobals "law" = some (some (.ref f))) (e2 : K.lookup f = some ⟨oc, od, .func (fnOf "law" "law" params body scope dV kV doc pm an cdv ct), sl⟩) (e3 : codeIn K cdv "law" = true) .. : ∃ t, My.Txt K t

theorem PySem.Challenge.cw_LID_holds : PySem.Challenge.rw_LID.Holds := by
  w_on; o_law; k_head; (case hw => w_witness2)
  k_fill
  refine L2.walk_of (l := PySem.Challenge.rw_LID) (n := 63) (k := 40) (x := "script") (CX := fun w => ..) (sp := fun _ => My.sp_law) rfl (by decide) rfl ⟨rfl, by decide, by decide⟩ (fun w h Y => PySem.W.kIn_of Y) ?F ?S ?C
  case F =>
    intro w mg fa h KX G hmg
    have T : ∃ t, My.Txt (L2.KOf KX) t := by
      dsimp only [L2.KOf]                          -- K must stand as «<heap const> w.params» for k_is
      refine' My.txt_mk ?e1 ?e2 ?e3 ..
      (case e1 => PySem.W.k_is)                    -- in the order: a name -> its address -> its object -> its parts
      (case e2 => PySem.W.k_is)
      ..
    obtain ⟨t, T⟩ := T
    have e0 := hmg.symm.trans (PySem.W.mg_of KX G T.law)
    cases e0                                       -- fa is the law's own address
    exact ⟨_, fun s u => .of_eq rfl, fun base kb nb => My.law_fn T kb nb⟩     -- if «.of_eq rfl» comes too early: refine' ⟨_, ?b, fun base kb nb => My.law_fn T kb nb⟩; exact fun s u => .of_eq rfl
  case S => exact fun w H a ns hl hO hS => ..
  case C => exact ..
(the tactic k_is has no namespace: write k_is) -/

/-! SHORT WORDS over the layer: a def of the text, its body, what a loop and a test want. -/
namespace L2
open PySem PySem.Spec PyProof.Rows

noncomputable def defArgs (s : Stmt) : Arguments := match s with
  | .FunctionDef _ a _ _ _ _ _ _ _ _ => a
  | _ => { posonlyargs := [], args := [], vararg := none, kwonlyargs := [], kw_defaults := [], kwarg := none, defaults := [] }
noncomputable def defBody (s : Stmt) : List Stmt := match s with
  | .FunctionDef _ _ b _ _ _ _ _ _ _ => b
  | _ => []
noncomputable def defScope (s : Stmt) : Scope := match s with
  | .FunctionDef _ _ _ _ _ _ sc _ _ _ => sc
  | _ => { kind := .function, names := [], isGenerator := false, isCoroutine := false }

/-! ### no exception leaves a def -/
noncomputable abbrev CX0 : CXT := fun _ _ _ _ _ _ => False
noncomputable abbrev E0 : XK := fun _ _ _ => False
theorem pass0 {X : Cx} : Passes CX0 X E0 := fun _ _ _ _ _ _ _ h => h.elim

/-! ### a def (or method) of the text as it stands behind the top -/
structure Fun (K : PySem.W.Frag) (x qual : Str) (st : Stmt) (f : Addr) (fd : FuncData) : Prop where
  ex : ∃ (oc : Value) (od : Option Addr) (kV doc pm : Value) (an : Option Addr) (cdv ct : Value) (osl : Array (Option Value)),
    fd = PySem.W.fnOf x qual (defArgs st) (defBody st) (defScope st) .none kV doc pm an cdv ct ∧ K.lookup f = some ⟨oc, od, .func fd, osl⟩ ∧ PySem.W.codeIn K cdv qual = true
  kp : PySem.W.keepIn K (.ref f) = true
section
variable {P : Program} {w : World} {K : PySem.W.Frag} {mg : Str → Option Value} {base : Heap}
/-- THE RULE for a def: its body as a term of rules, and the reading of that term -/
theorem Fun.ok {x qual : Str} {st : Stmt} {f : Addr} {fd : FuncData} {N ps : List Str} {k : Nat} {sp : Sp} (F : Fun K x qual st f fd) (S : FnScope N ps (defScope st)) (len : ∀ vs H Q E, sp vs H Q E → vs.length = ps.length)
    (hbody : ∀ (cdv : Value) (A : Around) (outer : List Env) (s : Shared) (H : Hp) (vs : List V) (Q : VK) (E : XK), Room k (A.deeper (envOfC qual (defScope st) s.heap.objs.size f cdv)) → sp vs H Q E →
      ∃ t, PSs (cxOf CX0 P w K mg base N qual (defScope st) f cdv A outer s H E).nox (defBody st) t ∧ t { nx := fun _ H' => Q .non H', rt := Q } (start N vs) H) : FnOk P w K mg base CX0 (k + 1) f fd ps sp := by
  obtain ⟨oc, od, kV, doc, pm, an, cdv, ct, osl, rfl, lk, hcd⟩ := F.ex
  refine fn_of lk hcd S len fun A outer s H vs Q E hr hsp => ?_
  obtain ⟨t, h, q⟩ := hbody cdv A outer s H vs Q E hr hsp
  exact ⟨t, h.nox, q⟩
/-- how its arguments bind (no defaults): h is «fun _ _ _ _ _ _ us hl => match us, hl with | [_, _], _ => rfl», one _ a parameter -/
theorem Fun.binds {x qual : Str} {st : Stmt} {f : Addr} {fd : FuncData} {ps : List Str} (F : Fun K x qual st f fd)
    (h : ∀ (kV doc pm : Value) (an : Option Addr) (cdv ct : Value) (us : List Value), us.length = ps.length → bindArgs (PySem.W.fnOf x qual (defArgs st) (defBody st) (defScope st) .none kV doc pm an cdv ct) ⟨us, []⟩ = pure (ps.zip us)) : Binds K fd ps [] := by
  obtain ⟨oc, od, kV, doc, pm, an, cdv, ct, osl, rfl, lk, hcd⟩ := F.ex
  exact .all (h kV doc pm an cdv ct)
theorem fun_mk {x qual : Str} {st : Stmt} {f : Addr} {oc : Value} {od an : Option Addr} {osl : Array (Option Value)} {kV doc pm cdv ct : Value} (l : K.lookup f = some ⟨oc, od, .func (PySem.W.fnOf x qual (defArgs st) (defBody st) (defScope st) .none kV doc pm an cdv ct), osl⟩)
    (c : PySem.W.codeIn K cdv qual = true) (k : PySem.W.keepIn K (.ref f) = true) : Fun K x qual st f (PySem.W.fnOf x qual (defArgs st) (defBody st) (defScope st) .none kV doc pm an cdv ct) := ⟨⟨oc, od, kV, doc, pm, an, cdv, ct, osl, rfl, l, c⟩, k⟩
end
/-! ### expressions in short: the name that stands in the i-th slot -/
section
variable {X : Cx}
end

end L2

namespace L2
open PySem PySem.Spec PyProof.Rows

/-! ### lists of pairs as tables -/
section
variable {κ : Type} [DecidableEq κ]
end


section
variable {P : Program} {w : World} {H : Hp} {h : Heap} {a : Addr}
end

section
variable {X : Cx} {pins : List (Addr × Obj)} {σ : St} {H : Hp} {s : Shared} {a : Addr} {y v : V} {u r : Value} {o : Option V} {A : Around} {E : Value → Shared → Prop}

end

section
variable {X : Cx} {pins : List (Addr × Obj)} {σ : St} {H : Hp} {s : Shared} {a : Addr} {kvs : List (Key × V)} {k : Key} {u : Value} {A : Around} {E : Value → Shared → Prop}
end


section
variable {X : Cx} {o i e value : Expr} {pos pos' tpos : Pos} {td ty tv : TE}
end


section
variable {X : Cx} {pos : Pos}
end

/-! ### methods -/
/-- a method call o.m(e) of a built-in, with one argument: what must be seen of the text -/
structure M1 (X : Cx) (o : Expr) (m : Str) (apos : Pos) (e : Expr) (cpos : Pos) : Prop where
  base : attributeBase o m X.env (eval o X.env) = eval o X.env
  few : ((backTo cpos (starEach [e] X.env)).all (fun x => !x.1) && (backToKw cpos (keywordEach [] X.env)).all (fun x => x.1.isSome)
    && decide (([e] : List Expr).length + ([] : List Keyword).length + (if ([] : List Keyword).isEmpty then 0 else 1) < 30)) = true
  line : (apos.endLine == cpos.line) = true
  trees : backTo cpos (starEach [e] X.env) = [(false, eval e X.env)]
structure M2 (X : Cx) (o : Expr) (m : Str) (apos : Pos) (e f : Expr) (cpos : Pos) : Prop where
  base : attributeBase o m X.env (eval o X.env) = eval o X.env
  few : ((backTo cpos (starEach [e, f] X.env)).all (fun x => !x.1) && (backToKw cpos (keywordEach [] X.env)).all (fun x => x.1.isSome)
    && decide (([e, f] : List Expr).length + ([] : List Keyword).length + (if ([] : List Keyword).isEmpty then 0 else 1) < 30)) = true
  line : (apos.endLine == cpos.line) = true
  trees : backTo cpos (starEach [e, f] X.env) = [(false, eval e X.env), (false, eval f X.env)]

section
variable {X : Cx} {pins : List (Addr × Obj)} {σ : St} {H : Hp} {s : Shared} {a : Addr} {y d : V} {u r : Value} {o : Option V} {A : Around} {E : Value → Shared → Prop}
end

section
variable {X : Cx} {o e f : Expr} {apos cpos : Pos} {td ty tx : TE}
end

/-! ### dict(d): a copy -/
section
variable {X : Cx} {pins : List (Addr × Obj)} {σ : St} {H : Hp} {s : Shared} {a : Addr} {kvs : List (Key × V)} {A : Around} {E : Value → Shared → Prop}
end


section
variable {X : Cx} {pins : List (Addr × Obj)} {σ : St} {H : Hp} {s : Shared} {a : Addr} {y : V} {u : Value} {A : Around} {E : Value → Shared → Prop}
end
end L2

namespace Pv
open PySem

/-- a value without addresses of tuples: a tuple is its items; fls: a list that is never written (the script, a module's list) -/
inductive D where
  | non | bl (b : Bool) | int (i : Int) | str (x : Str) | tup (l : List D) | fls (l : List D) | ref (a : Addr) | ty (n : String) | exc (c : Str)
inductive MO where
  | lst (xs : List D)
  | ins (c : Str) (fs : List (Str × D))
  /-- a dict by tuples of three ints -/
  | dct (kvs : List ((Int × Int × Int) × D))
noncomputable abbrev Mu := Addr → Option MO
noncomputable def updM (μ : Mu) (a : Addr) (o : MO) : Mu := fun b => if b = a then some o else μ b
theorem updM_same {μ : Mu} {a : Addr} {o : MO} : updM μ a o a = some o := by unfold updM; rw [if_pos rfl]
theorem updM_ne {μ : Mu} {a b : Addr} {o : MO} (h : b ≠ a) : updM μ a o b = μ b := by unfold updM; rw [if_neg h]
/-- lists may have come, those there stay -/
noncomputable def Ext (μ μ' : Mu) : Prop := ∀ a o, μ a = some o → μ' a = some o
theorem Ext.refl (μ : Mu) : Ext μ μ := fun _ _ h => h
theorem Ext.trans {a b c : Mu} (h : Ext a b) (k : Ext b c) : Ext a c := fun x o q => k x o (h x o q)
theorem Ext.new {μ : Mu} {p : Addr} {o : MO} (h : μ p = none) : Ext μ (updM μ p o) := fun a u q => by
  rw [updM_ne]; exact q
  intro e; subst e; rw [h] at q; cases q
theorem Ext.free {μ μ' : Mu} {p : Addr} (e : Ext μ μ') (h : μ' p = none) : μ p = none := by
  cases q : μ p with
  | none => rfl
  | some o => rw [e p o q] at h; cases h
/-- all but the list at p -/
noncomputable def ExtB (p : Addr) (μ μ' : Mu) : Prop := ∀ a o, a ≠ p → μ a = some o → μ' a = some o
theorem ne_free {μ : Mu} {p q : Addr} {o : MO} (h : μ p = some o) (k : μ q = none) : p ≠ q := by
  intro e; subst e; rw [h] at k; cases k

noncomputable abbrev St3 := List (Option D)
noncomputable def getI : St3 → Nat → Option D
  | [], _ => none
  | o :: _, 0 => o
  | _ :: r, i + 1 => getI r i
theorem getI_eq : ∀ (ρ : St3) (i : Nat), getI ρ i = (ρ[i]?).getD none
  | [], i => by simp [getI]
  | o :: _, 0 => by simp [getI]
  | _ :: r, i + 1 => by simp [getI, getI_eq r i]
noncomputable abbrev VK3 := D → Mu → Prop
noncomputable abbrev TE3 := St3 → Mu → VK3 → Prop
noncomputable abbrev TT3 := St3 → Mu → (Bool → Mu → Prop) → Prop
noncomputable abbrev TA3 := St3 → Mu → (List D → Mu → Prop) → Prop
structure Ends3 where
  nx : St3 → Mu → Prop
  rt : VK3
  bk : St3 → Mu → Prop := fun _ _ => False
  ct : St3 → Mu → Prop := fun _ _ => False
noncomputable abbrev TS3 := Ends3 → St3 → Mu → Prop
noncomputable abbrev R3 := D → D → Mu → VK3 → Prop
noncomputable abbrev Sp3 := List D → Mu → VK3 → Prop
noncomputable abbrev C3 := List D → Mu → VK3 → Prop
noncomputable abbrev TG3 := D → St3 → Mu → (St3 → Mu → Prop) → Prop
noncomputable abbrev TGs3 := List D → St3 → Mu → (St3 → Mu → Prop) → Prop
noncomputable abbrev TI3 := St3 → Mu → (List D → (Mu → Prop) → Mu → Prop) → Prop

/-! ### expressions -/
noncomputable def v3 (i : Nat) : TE3 := fun ρ μ Q => match getI ρ i with
  | some d => Q d μ
  | none => False
noncomputable def c3 (d : D) : TE3 := fun _ μ Q => Q d μ
noncomputable def o3 (r : R3) (ta tb : TE3) : TE3 := fun ρ μ Q => ta ρ μ fun x μ1 => tb ρ μ1 fun y μ2 => r x y μ2 Q
noncomputable def un3 (r : D → Mu → VK3 → Prop) (ta : TE3) : TE3 := fun ρ μ Q => ta ρ μ fun x μ1 => r x μ1 Q
noncomputable def b3 (t : TE3) : TT3 := fun ρ μ Q => t ρ μ fun d μ1 => match d with
  | .bl c => Q c μ1
  | _ => False
noncomputable def and3 (t u : TT3) : TT3 := fun ρ μ Q => t ρ μ fun c μ1 => if c = true then u ρ μ1 Q else Q false μ1
noncomputable def or3 (t u : TT3) : TT3 := fun ρ μ Q => t ρ μ fun c μ1 => if c = true then Q true μ1 else u ρ μ1 Q
noncomputable def not3 (t : TT3) : TT3 := fun ρ μ Q => t ρ μ fun c μ1 => Q (!c) μ1
noncomputable def andV3 (t u : TE3) : TE3 := fun ρ μ Q => t ρ μ fun d μ1 => match d with
  | .bl c => if c = true then u ρ μ1 Q else Q (.bl false) μ1
  | _ => False
noncomputable def orV3 (t u : TE3) : TE3 := fun ρ μ Q => t ρ μ fun d μ1 => match d with
  | .bl c => if c = true then Q (.bl true) μ1 else u ρ μ1 Q
  | _ => False
noncomputable def notV3 (t : TE3) : TE3 := fun ρ μ Q => t ρ μ fun d μ1 => match d with
  | .bl c => Q (.bl (!c)) μ1
  | _ => False
noncomputable def if3 (c : TT3) (t u : TE3) : TE3 := fun ρ μ Q => c ρ μ fun b μ1 => if b = true then t ρ μ1 Q else u ρ μ1 Q
noncomputable def nil3 : TA3 := fun _ μ Q => Q [] μ
noncomputable def cons3 (t : TE3) (u : TA3) : TA3 := fun ρ μ Q => t ρ μ fun d μ1 => u ρ μ1 fun ds μ2 => Q (d :: ds) μ2
noncomputable def tup3 (t : TA3) : TE3 := fun ρ μ Q => t ρ μ fun ds μ1 => ds.length ≤ sizeLine ∧ Q (.tup ds) μ1
noncomputable def lst3 (t : TA3) : TE3 := fun ρ μ Q => t ρ μ fun ds μ1 => ds.length ≤ sizeLine ∧ ∀ p, μ1 p = none → Q (.ref p) (updM μ1 p (.lst ds))
noncomputable def call3 (sp : Sp3) (t : TA3) : TE3 := fun ρ μ Q => t ρ μ fun ds μ1 => sp ds μ1 Q
noncomputable def mt3 (r : D → List D → Mu → VK3 → Prop) (to : TE3) (t : TA3) : TE3 := fun ρ μ Q => to ρ μ fun x μ1 => match x with
  | .ref p => match μ1 p with
    | some (.lst _) => t ρ μ1 fun ds μ2 => r (.ref p) ds μ2 Q
    | _ => False
  | _ => False

/-- a slice's parts -/
noncomputable abbrev TO3 := St3 → Mu → (Option Int → Mu → Prop) → Prop
noncomputable def np3 : TO3 := fun _ μ Q => Q none μ
noncomputable def pt3 (t : TE3) : TO3 := fun ρ μ Q => t ρ μ fun d μ1 => match d with
  | .int i => Q (some i) μ1
  | _ => False
noncomputable def sl3 (r : D → Option Int → Option Int → Mu → VK3 → Prop) (te : TE3) (tl th : TO3) : TE3 := fun ρ μ Q => te ρ μ fun x μ1 => tl ρ μ1 fun l μ2 => th ρ μ2 fun u μ3 => r x l u μ3 Q
/-- the place that a slice's bound means among n -/
noncomputable def sIx3 (n d : Nat) : Option Int → Nat
  | none => d
  | some v => if v < 0 then (v + (n : Int)).toNat else min v.toNat n
noncomputable def cut3 {α : Type} (xs : List α) (lo hi : Option Int) : List α := (xs.drop (sIx3 xs.length 0 lo)).take (sIx3 xs.length xs.length hi - sIx3 xs.length 0 lo)
noncomputable def slR : D → Option Int → Option Int → Mu → VK3 → Prop := fun x lo hi μ Q => match x with
  | .tup l => Q (.tup (cut3 l lo hi)) μ
  | .str z => z.length ≤ sizeLine ∧ Q (.str ⟨(cut3 z.cps.toList lo hi).toArray⟩) μ
  | .ref p => match μ p with
    | some (.lst l) => ∀ r, μ r = none → Q (.ref r) (updM μ r (.lst (cut3 l lo hi)))
    | _ => False
  | .fls l => ∀ r, μ r = none → Q (.ref r) (updM μ r (.lst (cut3 l lo hi)))
  | _ => False
/-! ### statements -/
noncomputable def next3 : TS3 := fun D ρ μ => D.nx ρ μ
noncomputable def never3 : TS3 := fun _ _ _ => False
noncomputable def brk3 : TS3 := fun D ρ μ => D.bk ρ μ
noncomputable def cnt3 : TS3 := fun D ρ μ => D.ct ρ μ
noncomputable def seq3 (t u : TS3) : TS3 := fun D ρ μ => t { D with nx := u D } ρ μ
noncomputable def drop3 (t : TE3) : TS3 := fun D ρ μ => t ρ μ fun _ μ1 => D.nx ρ μ1
noncomputable def ret3 (t : TE3) : TS3 := fun D ρ μ => t ρ μ D.rt
noncomputable def retN3 : TS3 := fun D _ μ => D.rt .non μ
noncomputable def ifs3 (c : TT3) (t u : TS3) : TS3 := fun D ρ μ => c ρ μ fun b μ1 => if b = true then t D ρ μ1 else u D ρ μ1
noncomputable def gn3 (i : Nat) : TG3 := fun d ρ μ Q => Q (ρ.set i (some d)) μ
noncomputable def gnil3 : TGs3 := fun ds ρ μ Q => match ds with
  | [] => Q ρ μ
  | _ => False
noncomputable def gcons3 (t : TG3) (u : TGs3) : TGs3 := fun ds ρ μ Q => match ds with
  | d :: r => t d ρ μ fun ρ1 μ1 => u r ρ1 μ1 Q
  | [] => False
noncomputable def gtup3 (n : Nat) (t : TGs3) : TG3 := fun d ρ μ Q => match d with
  | .tup l => l.length = n ∧ t l ρ μ Q
  | _ => False
noncomputable def set3 (i : Nat) (t : TE3) : TS3 := fun D ρ μ => t ρ μ fun d μ1 => D.nx (ρ.set i (some d)) μ1
noncomputable def asg3 (t : TE3) (g : TG3) : TS3 := fun D ρ μ => t ρ μ fun d μ1 => g d ρ μ1 D.nx
noncomputable def par3 (i j : Nat) (t : TA3) : TS3 := fun D ρ μ => t ρ μ fun ds μ1 => match ds with
  | [v, w] => D.nx ((ρ.set i (some v)).set j (some w)) μ1
  | _ => False
noncomputable def ixN (n : Nat) (i : Int) : Option Nat := if 0 ≤ i then (if i < n then some i.toNat else none) else if -(n : Int) ≤ i then some (i + n).toNat else none
noncomputable def atI {α : Type} (xs : List α) (i : Int) : Option α := (ixN xs.length i).bind fun j => xs[j]?
noncomputable def sub3 (to ti : TE3) : TG3 := fun d ρ μ Q => to ρ μ fun o μ1 => ti ρ μ1 fun i μ2 => match o, i with
  | .ref p, .int k => match μ2 p with
    | some (.lst xs) => match ixN xs.length k with
      | some j => Q ρ (updM μ2 p (.lst (xs.set j d)))
      | none => False
    | _ => False
  | _, _ => False
/-- a loop over items: S must stay true while they are walked -/
noncomputable def forS3 (S : Mu → Prop) (g : TG3) (tb : TS3) (D' : Ends3) : List D → St3 → Mu → Prop
  | [], ρ, μ => S μ ∧ D'.nx ρ μ
  | x :: r, ρ, μ => S μ ∧ ∃ N : St3 → Mu → Prop, (∀ ρ' μ', N ρ' μ' → forS3 S g tb D' r ρ' μ') ∧ g x ρ μ fun ρ1 μ1 => tb { D' with nx := N, ct := N, bk := D'.nx } ρ1 μ1
noncomputable def for3 (ti : TI3) (g : TG3) (tb : TS3) : TS3 := fun D' ρ μ => ti ρ μ fun l S μ1 => forS3 S g tb D' l ρ μ1
/-- a loop by what holds of the items still to come and the state -/
theorem for_inv {S : Mu → Prop} {g : TG3} {tb : TS3} {D' : Ends3} (W : List D → St3 → Mu → Prop) {l : List D} {ρ : St3} {μ : Mu} (h0 : W l ρ μ) (hS : ∀ l ρ μ, W l ρ μ → S μ) (hn : ∀ ρ μ, W [] ρ μ → D'.nx ρ μ)
    (hs : ∀ x r ρ μ, W (x :: r) ρ μ → g x ρ μ fun ρ1 μ1 => tb { D' with nx := W r, ct := W r, bk := D'.nx } ρ1 μ1) : forS3 S g tb D' l ρ μ := by
  induction l generalizing ρ μ with
  | nil => exact ⟨hS _ _ _ h0, hn _ _ h0⟩
  | cons x r ih => exact ⟨hS _ _ _ h0, W r, fun ρ' μ' q => ih q, hs x r ρ μ h0⟩
noncomputable def is3 (t : TE3) : TI3 := fun ρ μ R => t ρ μ fun d μ1 => match d with
  | .tup l => R l (fun _ => True) μ1
  | .fls l => R l (fun _ => True) μ1
  | .str z => R (z.cps.toList.map fun c => D.str ⟨#[c]⟩) (fun _ => True) μ1
  | .ref p => match μ1 p with
    | some (.lst l) => R l (fun μ => μ p = some (.lst l)) μ1
    | _ => False
  | _ => False
noncomputable def rngD (lo : Int) (n : Nat) : List D := (List.range n).map fun i => .int (lo + (i : Nat))
theorem rngD_succ (lo : Int) (n : Nat) : rngD lo (n + 1) = .int lo :: rngD (lo + 1) n := by
  unfold rngD
  rw [List.range_succ_eq_map, List.map_cons, List.map_map]
  have e0 : lo + ((0 : Nat) : Int) = lo := by simp
  rw [e0]
  congr 1
  apply List.map_congr_left
  intro a _
  show D.int (lo + ((a + 1 : Nat) : Int)) = D.int (lo + 1 + (a : Int))
  have e1 : lo + ((a + 1 : Nat) : Int) = lo + 1 + (a : Int) := by omega
  rw [e1]
noncomputable def ir3 (t : TA3) : TI3 := fun ρ μ R => t ρ μ fun ds μ1 => match ds with
  | [.int j] => (-(2 ^ 62) ≤ j ∧ j < 2 ^ 62) ∧ R (rngD 0 j.toNat) (fun _ => True) μ1
  | _ => False
noncomputable def ir23 (t : TA3) : TI3 := fun ρ μ R => t ρ μ fun ds μ1 => match ds with
  | [.int i, .int j] => (-(2 ^ 62) ≤ i ∧ i < 2 ^ 62 ∧ -(2 ^ 62) ≤ j ∧ j < 2 ^ 62) ∧ R (rngD i (j - i).toNat) (fun _ => True) μ1
  | _ => False
/-- a comprehension's block, by what holds of the items to come, those made, the block's names and the lists -/
noncomputable def cbody (S : Mu → Prop) (p : Addr) (g : TG3) (tc : TT3) (te : TE3) (Q : VK3) (l : List D) (ρ0 : St3) (μ0 : Mu) : Prop :=
  ∃ W : List D → List D → St3 → Mu → Prop, W l [] ρ0 μ0 ∧ (∀ l ys ρ μ, W l ys ρ μ → S μ ∧ μ p = some (.lst ys)) ∧ (∀ ys ρ μ, W [] ys ρ μ → Q (.ref p) μ) ∧
    ∀ x r ys ρ μ, W (x :: r) ys ρ μ → ys.length < sizeLine ∧ g x ρ μ fun ρ1 μ1 => tc ρ1 μ1 fun b μ2 =>
      if b = true then te ρ1 μ2 fun d μ3 => μ3 p = some (.lst ys) ∧ W r (ys ++ [d]) ρ1 (updM μ3 p (.lst (ys ++ [d]))) else W r ys ρ1 μ2
/-- js: where the block's names come from -/
noncomputable def comp3 (js : List (Option Nat)) (ti : TI3) (g : TG3) (tc : TT3) (te : TE3) : TE3 := fun ρ μ Q => ti ρ μ fun l S μ1 => ∀ p, μ1 p = none → cbody S p g tc te Q l (js.map fun j => j.bind (getI ρ)) (updM μ1 p (.lst []))
noncomputable def tt3 : TT3 := fun _ μ Q => Q true μ
/-- [e for x in ..], each item a value that hangs on x alone -/
theorem comp_map {S : Mu → Prop} {p : Addr} {te : TE3} {Q : VK3} {l : List D} {o : Option D} {rest : St3} {μ : Mu} (f : D → D) (hp : μ p = none) (hl : l.length ≤ sizeLine) (hS : ∀ μ', Ext μ μ' → S μ')
    (hx : ∀ x ∈ l, ∀ μ' R, Ext μ μ' → (∀ μ2, Ext μ' μ2 → R (f x) μ2) → te (some x :: rest) μ' R) (hQ : ∀ μ', Ext μ μ' → μ' p = some (.lst (l.map f)) → Q (.ref p) μ') :
    cbody S p (gn3 0) tt3 te Q l (o :: rest) (updM μ p (.lst [])) := by
  refine ⟨fun r ys ρ μ' => Ext μ μ' ∧ μ' p = some (.lst ys) ∧ (∃ o', ρ = o' :: rest) ∧ ∃ a, a ++ r = l ∧ ys = a.map f, ?_, ?_, ?_, ?_⟩
  · exact ⟨Ext.new hp, updM_same, ⟨o, rfl⟩, [], rfl, rfl⟩
  · rintro r ys ρ μ' ⟨h1, h2, _⟩
    exact ⟨hS _ h1, h2⟩
  · rintro ys ρ μ' ⟨h1, h2, _, a, e, rfl⟩
    rw [List.append_nil] at e
    subst e
    exact hQ _ h1 h2
  · rintro x r ys ρ μ' ⟨h1, h2, ⟨o', rfl⟩, a, e, rfl⟩
    refine ⟨by rw [List.length_map]; rw [← e, List.length_append, List.length_cons] at hl; omega, ?_⟩
    show te (some x :: rest) μ' _
    refine hx x (by rw [← e]; simp) μ' _ h1 fun μ2 h3 => ⟨h3 _ _ h2, fun b u hb => ?_, updM_same, ⟨_, rfl⟩, a ++ [x], by simp [← e], by simp⟩
    rw [updM_ne (ne_free hb hp)]
    exact h3 _ _ (h1 _ _ hb)

/-! ### operations -/
noncomputable def CPow (i j : Int) : Prop := 0 ≤ j ∧ j ≤ 1000000 ∧ i.natAbs < 2 ^ 64
noncomputable def Big : Nat := 2 ^ 1000
noncomputable def CMul (i j : Int) : Prop := ((-(2 ^ 64) < i ∧ i < 2 ^ 64) ∨ (-(2 ^ 64) < j ∧ j < 2 ^ 64)) ∨ (i.natAbs < Big ∧ j.natAbs < Big)
noncomputable def int2 (C : Int → Int → Prop) (g : Int → Int → D) : R3 := fun x y μ Q => match x, y with
  | .int i, .int j => C i j ∧ Q (g i j) μ
  | _, _ => False
noncomputable def int20 (g : Int → Int → D) : R3 := fun x y μ Q => match x, y with
  | .int i, .int j => Q (g i j) μ
  | _, _ => False
noncomputable def subR : R3 := int20 fun i j => .int (i - j)
/-- * of ints; a tuple, a list so often -/
noncomputable def mulR : R3 := fun x y μ Q => match x, y with
  | .int i, .int j => CMul i j ∧ Q (.int (i * j)) μ
  | .tup l, .int k => ((-(2 ^ 62) ≤ k ∧ k < 2 ^ 62) ∧ l.length * k.toNat ≤ 1000000) ∧ Q (.tup (List.replicate k.toNat l).flatten) μ
  | .ref p, .int k => match μ p with
    | some (.lst l) => ((-(2 ^ 62) ≤ k ∧ k < 2 ^ 62) ∧ l.length * k.toNat ≤ 1000000) ∧ ∀ r, μ r = none → Q (.ref r) (updM μ r (.lst (List.replicate k.toNat l).flatten))
    | _ => False
  | _, _ => False
noncomputable def modR : R3 := int2 (fun _ j => 0 < j) fun i j => .int (i % j)
noncomputable def fdivR : R3 := int2 (fun _ j => 0 < j ∧ j < 2 ^ 120) fun i j => .int (i / j)
noncomputable def powR : R3 := int2 CPow fun i j => .int (i ^ j.toNat)
noncomputable def ltR : R3 := int20 fun i j => .bl (decide (i < j))
noncomputable def leR : R3 := int20 fun i j => .bl (decide (i ≤ j))
noncomputable def gtR : R3 := int20 fun i j => .bl (decide (j < i))
noncomputable def geR : R3 := int20 fun i j => .bl (decide (j ≤ i))
noncomputable def negR : D → Mu → VK3 → Prop := fun x μ Q => match x with
  | .int i => Q (.int (-i)) μ
  | _ => False
/-- + of ints, texts, lists, tuples -/
noncomputable def addR : R3 := fun x y μ Q => match x, y with
  | .int i, .int j => Q (.int (i + j)) μ
  | .str i, .str j => i.length + j.length ≤ sizeLine ∧ Q (.str (i ++ j)) μ
  | .ref p, .ref q => match μ p, μ q with
    | some (.lst xs), some (.lst ys) => xs.length + ys.length ≤ sizeLine ∧ ∀ r, μ r = none → Q (.ref r) (updM μ r (.lst (xs ++ ys)))
    | _, _ => False
  | .tup l, .tup m => l.length + m.length ≤ sizeLine ∧ Q (.tup (l ++ m)) μ
  | _, _ => False
/-- == of scalars of one kind, and of None with them -/
noncomputable def eqS : D → D → Option Bool
  | .int i, .int j => some (decide (i = j))
  | .bl i, .bl j => some (decide (i = j))
  | .str i, .str j => some (decide (i = j))
  | .non, .non => some true
  | .non, .int _ => some false
  | .int _, .non => some false
  | .non, .str _ => some false
  | .str _, .non => some false
  | .int _, .str _ => some false
  | .str _, .int _ => some false
  | _, _ => none
/- data without addresses -/
mutual
noncomputable def dat : D → Option PyData
  | .non => some .none
  | .bl b => some (.bool b)
  | .int i => some (.int i)
  | .str x => if PyData.strOk x = true then some (.str x) else none
  | .tup l => match dats l with
    | some ps => some (.tuple ps)
    | none => none
  | _ => none
noncomputable def dats : List D → Option (List PyData)
  | [] => some []
  | d :: r => match dat d with
    | some p => match dats r with
      | some ps => some (p :: ps)
      | none => none
    | none => none
end
/-- .. and a list of such, or of lists of such -/
noncomputable def datM (μ : Mu) : D → Option PyData
  | .ref p => match μ p with
    | some (.lst l) => match dats l with
      | some ps => some (.list ps)
      | none => none
    | _ => none
  | d => dat d
noncomputable def eqR : R3 := fun x y μ Q => match eqS x y with
  | some c => Q (.bl c) μ
  | none => match datM μ x, datM μ y with
    | some p, some q => (p.depth ≤ 64 ∧ q.depth ≤ 64) ∧ Q (.bl (PyData.eqv p q)) μ
    | _, _ => False
noncomputable def neR : R3 := fun x y μ Q => match eqS x y with
  | some c => Q (.bl (!c)) μ
  | none => match datM μ x, datM μ y with
    | some p, some q => (p.depth ≤ 64 ∧ q.depth ≤ 64) ∧ Q (.bl (!PyData.eqv p q)) μ
    | _, _ => False
theorem eqR_ii (i j : Int) (μ : Mu) (Q : VK3) : eqR (.int i) (.int j) μ Q = Q (.bl (decide (i = j))) μ := rfl
theorem eqR_ss (i j : Str) (μ : Mu) (Q : VK3) : eqR (.str i) (.str j) μ Q = Q (.bl (decide (i = j))) μ := rfl
theorem eqR_bb (i j : Bool) (μ : Mu) (Q : VK3) : eqR (.bl i) (.bl j) μ Q = Q (.bl (decide (i = j))) μ := rfl
theorem eqR_is (i : Int) (j : Str) (μ : Mu) (Q : VK3) : eqR (.int i) (.str j) μ Q = Q (.bl false) μ := rfl
theorem neR_ii (i j : Int) (μ : Mu) (Q : VK3) : neR (.int i) (.int j) μ Q = Q (.bl (!decide (i = j))) μ := rfl
theorem neR_ss (i j : Str) (μ : Mu) (Q : VK3) : neR (.str i) (.str j) μ Q = Q (.bl (!decide (i = j))) μ := rfl
theorem neR_bb (i j : Bool) (μ : Mu) (Q : VK3) : neR (.bl i) (.bl j) μ Q = Q (.bl (!decide (i = j))) μ := rfl
/-- == of data, x and y not both scalars -/
theorem eqR_dat {x y : D} {μ : Mu} {Q : VK3} {p q : PyData} (e : eqS x y = none) (h1 : datM μ x = some p) (h2 : datM μ y = some q) (d1 : p.depth ≤ 64) (d2 : q.depth ≤ 64) : eqR x y μ Q = Q (.bl (PyData.eqv p q)) μ := by
  unfold eqR; rw [e]; simp only [h1, h2, d1, d2, true_and, and_self]
theorem neR_dat {x y : D} {μ : Mu} {Q : VK3} {p q : PyData} (e : eqS x y = none) (h1 : datM μ x = some p) (h2 : datM μ y = some q) (d1 : p.depth ≤ 64) (d2 : q.depth ≤ 64) : neR x y μ Q = Q (.bl (!PyData.eqv p q)) μ := by
  unfold neR; rw [e]; simp only [h1, h2, d1, d2, true_and, and_self]
noncomputable def strs? : List D → Option (List Str)
  | [] => some []
  | .str x :: r => match strs? r with
    | some l => some (x :: l)
    | none => none
  | _ :: _ => none
/-- in, of data -/
noncomputable def inD (neg : Bool) : R3 := fun x y μ Q => match datM μ x, datM μ y with
  | some d, some (.list xs) => (d.depth ≤ 64 ∧ (PyData.list xs).depth ≤ 64) ∧ Q (.bl (if neg then !(xs.any fun e => PyData.eqv e d) else xs.any fun e => PyData.eqv e d)) μ
  | some d, some (.tuple xs) => (d.depth ≤ 64 ∧ (PyData.tuple xs).depth ≤ 64) ∧ Q (.bl (if neg then !(xs.any fun e => PyData.eqv e d) else xs.any fun e => PyData.eqv e d)) μ
  | _, _ => False
noncomputable def inR (neg : Bool) : R3 := fun x y μ Q => match x, y with
  | .str z, .tup l => match strs? l with
    | some zs => Q (.bl (if neg then !zs.contains z else zs.contains z)) μ
    | none => inD neg (.str z) (.tup l) μ Q
  | .str z, .str y => Q (.bl (if neg then !(!(Builtin.Str.occurrences y z 0 y.length 1).isEmpty) else !(Builtin.Str.occurrences y z 0 y.length 1).isEmpty)) μ
  | x, y => inD neg x y μ Q
noncomputable def ixR : R3 := fun x y μ Q => match x, y with
  | .tup l, .int i => match atI l i with
    | some d => Q d μ
    | none => False
  | .fls l, .int i => match atI l i with
    | some d => Q d μ
    | none => False
  | .ref p, .int i => match μ p with
    | some (.lst l) => match atI l i with
      | some d => Q d μ
      | none => False
    | _ => False
  | _, _ => False
noncomputable def lenR : C3 := fun ds μ Q => match ds with
  | [.tup l] => Q (.int l.length) μ
  | [.fls l] => Q (.int l.length) μ
  | [.str z] => z.length ≤ sizeLine ∧ Q (.int z.length) μ
  | [.ref p] => match μ p with
    | some (.lst l) => Q (.int l.length) μ
    | _ => False
  | _ => False
noncomputable def absR : C3 := fun ds μ Q => match ds with
  | [.int i] => Q (.int (if i < 0 then -i else i)) μ
  | _ => False
noncomputable def intR : C3 := fun ds μ Q => match ds with
  | [.int i] => Q (.int i) μ
  | [.bl b] => Q (.int (if b then 1 else 0)) μ
  | [.str z] => match PySem.intText? z with
    | some n => z.length ≤ 640 ∧ Q (.int n) μ
    | none => False
  | _ => False
/-- str(i) -/
noncomputable def strR : C3 := fun ds μ Q => match ds with
  | [.int i] => i.natAbs.log2 < 1920 ∧ Q (.str (toString i)) μ
  | _ => False
/-- a method of a text -/
noncomputable def smt3 (r : Str → List D → Mu → VK3 → Prop) (to : TE3) (t : TA3) : TE3 := fun ρ μ Q => to ρ μ fun x μ1 => match x with
  | .str z => t ρ μ1 fun ds μ2 => r z ds μ2 Q
  | _ => False
noncomputable def joinR : Str → List D → Mu → VK3 → Prop := fun z ds μ Q => match ds with
  | [.ref p] => match μ p with
    | some (.lst l) => match strs? l with
      | some ys => (z.length ≤ 16 ∧ (ys.map (·.length)).sum + ys.length ≤ 1048576) ∧ Q (.str (Str.join z ys)) μ
      | none => False
    | _ => False
  | _ => False
noncomputable def splitR : Str → List D → Mu → VK3 → Prop := fun z ds μ Q => match ds with
  | [.str y] => ((y.length == 0) = false ∧ z.length ≤ 1000000) ∧ ∀ r, μ r = none → Q (.ref r) (updM μ r (.lst ((Txt.split z y).map D.str)))
  | _ => False
noncomputable def startsR : Str → List D → Mu → VK3 → Prop := fun z ds μ Q => match ds with
  | [.str y] => Q (.bl (Txt.startswith z y)) μ
  | _ => False
/-- xs.pop() -/
noncomputable def pop3 (to : TE3) : TE3 := fun ρ μ Q => to ρ μ fun x μ1 => match x with
  | .ref p => match μ1 p with
    | some (.lst l) => match l.reverse with
      | d :: r => Q d (updM μ1 p (.lst r.reverse))
      | [] => False
    | _ => False
  | _ => False
/-- list(reversed(xs)) -/
noncomputable def lrev3 (to : TE3) : TE3 := fun ρ μ Q => cons3 to nil3 ρ μ fun ds μ1 => match ds with
  | [.ref p] => match μ1 p with
    | some (.lst l) => ∀ r, μ1 r = none → Q (.ref r) (updM μ1 r (.lst l.reverse))
    | _ => False
  | _ => False
noncomputable def tupR : C3 := fun ds μ Q => match ds with
  | [.tup l] => Q (.tup l) μ
  | [.ref p] => match μ p with
    | some (.lst l) => Q (.tup l) μ
    | _ => False
  | _ => False
noncomputable def ints? : List D → Option (List Int)
  | [] => some []
  | .int x :: r => match ints? r with
    | some l => some (x :: l)
    | none => none
  | _ :: _ => none
noncomputable def sumR : C3 := fun ds μ Q => match ds with
  | [.ref p] => match μ p with
    | some (.lst l) => match ints? l with
      | some ns => Q (.int ns.sum) μ
      | none => False
    | _ => False
  | _ => False
noncomputable def bls? : List D → Option (List Bool)
  | [] => some []
  | .bl x :: r => match bls? r with
    | some l => some (x :: l)
    | none => none
  | _ :: _ => none
/-- min of two pairs of ints -/
noncomputable def ltP (a b c d : Int) : Bool := if a = c then decide (b < d) else decide (a < c)
noncomputable def minR : C3 := fun ds μ Q => match ds with
  | [.tup [.int a, .int b], .tup [.int c, .int d]] => Q (if ltP c d a b then .tup [.int c, .int d] else .tup [.int a, .int b]) μ
  | _ => False
noncomputable def allR : C3 := fun ds μ Q => match ds with
  | [.ref p] => match μ p with
    | some (.lst l) => match bls? l with
      | some bs => Q (.bl (bs.all id)) μ
      | none => False
    | _ => False
  | _ => False
noncomputable def tyN (μ : Mu) : D → Option String
  | .int _ => some "int"
  | .bl _ => some "bool"
  | .str _ => some "str"
  | .tup _ => some "tuple"
  | .non => some "NoneType"
  | .ref p => match μ p with
    | some (.lst _) => some "list"
    | _ => none
  | _ => none
noncomputable def isIn (t T : String) : Option Bool :=
  if t = T then some true
  else if t = "bool" ∧ T = "int" then some true
  else if (t = "int" ∨ t = "str" ∨ t = "tuple" ∨ t = "bool" ∨ t = "NoneType" ∨ t = "list") ∧ (T = "int" ∨ T = "str" ∨ T = "tuple" ∨ T = "bool" ∨ T = "list") then some false
  else none
noncomputable def isiR : C3 := fun ds μ Q => match ds with
  | [d, .ty T] => match tyN μ d with
    | some t => match isIn t T with
      | some b => Q (.bl b) μ
      | none => False
    | none => False
  | _ => False
noncomputable def appR : D → List D → Mu → VK3 → Prop := fun x ds μ Q => match x, ds with
  | .ref p, [d] => match μ p with
    | some (.lst l) => l.length < sizeLine ∧ Q .non (updM μ p (.lst (l ++ [d])))
    | _ => False
  | _, _ => False
noncomputable def extR : D → List D → Mu → VK3 → Prop := fun x ds μ Q => match x, ds with
  | .ref p, [.ref q] => match μ p, μ q with
    | some (.lst l), some (.lst m) => l.length + m.length ≤ sizeLine ∧ Q .non (updM μ p (.lst (l ++ m)))
    | _, _ => False
  | _, _ => False
theorem atI0 {α : Type} {a : α} {r : List α} : atI (a :: r) 0 = some a := by
  unfold atI ixN; rw [if_pos (by decide), if_pos (by simp only [List.length_cons]; omega)]; rfl
theorem atI1 {α : Type} {a b : α} {r : List α} : atI (a :: b :: r) 1 = some b := by
  unfold atI ixN; rw [if_pos (by decide), if_pos (by simp only [List.length_cons]; omega)]; rfl
theorem atI2 {α : Type} {a b c : α} {r : List α} : atI (a :: b :: c :: r) 2 = some c := by
  unfold atI ixN; rw [if_pos (by decide), if_pos (by simp only [List.length_cons]; omega)]; rfl
theorem ixN0 {n : Nat} : ixN (n + 1) 0 = some 0 := by
  unfold ixN; rw [if_pos (by decide), if_pos (by omega)]; rfl
theorem ixN1 {n : Nat} : ixN (n + 1 + 1) 1 = some 1 := by
  unfold ixN; rw [if_pos (by decide), if_pos (by omega)]; rfl
theorem ixN2 {n : Nat} : ixN (n + 1 + 1 + 1) 2 = some 2 := by
  unfold ixN; rw [if_pos (by decide), if_pos (by omega)]; rfl
/-- an atI in bounds -/
theorem atI_in {α : Type} {l : List α} {i : Int} (h0 : 0 ≤ i) (h1 : i < l.length) : ∃ d, d ∈ l ∧ atI l i = some d := by
  have hn : i.toNat < l.length := by omega
  refine ⟨l[i.toNat], List.getElem_mem hn, ?_⟩
  unfold atI ixN
  rw [if_pos h0, if_pos h1]
  exact List.getElem?_eq_getElem hn
noncomputable def start3 (N : List Str) (ds : List D) : St3 := ds.map some ++ List.replicate (N.length - ds.length) none
end Pv

namespace Pv
open PySem L2
noncomputable abbrev Fg := PySem.W.Frag
/-- tuples and what is frozen stay as they are -/
structure Kp (H H' : Hp) : Prop where
  tup : ∀ b xs, H b = some (.tup xs) → H' b = some (.tup xs)
  frz : ∀ b o u, H b = some (.frz o u) → H' b = some (.frz o u)
theorem Kp.refl (H : Hp) : Kp H H := ⟨fun _ _ h => h, fun _ _ _ h => h⟩
theorem Kp.trans {a b c : Hp} (h : Kp a b) (k : Kp b c) : Kp a c := ⟨fun x xs q => k.tup x xs (h.tup x xs q), fun x o u q => k.frz x o u (h.frz x o u q)⟩
/-- a new object, or a list written -/
theorem Kp.new {H : Hp} {p : Addr} {o : HO} (h : H p = none) : Kp H (upd H p o) :=
  ⟨fun b xs q => by rw [upd_ne (ne_of_none q h)]; exact q, fun b o u q => by rw [upd_ne (ne_of_none q h)]; exact q⟩
theorem Kp.wr {H : Hp} {p : Addr} {o : HO} {xs : List V} (h : H p = some (.lst xs)) : Kp H (upd H p o) :=
  ⟨fun b ys q => by rw [upd_ne (ne_of q h (by intro z; cases z))]; exact q, fun b o u q => by rw [upd_ne (ne_of q h (by intro z; cases z))]; exact q⟩
/-- a list that is never written: frozen, or an object of the module -/
noncomputable def SqF (K : Fg) (H : Hp) (a : Addr) (xs : List V) : Prop :=
  (∃ o, H a = some (.frz o (.lst xs))) ∨ ∃ (o : Obj) (its : Array Value) (n : Nat), K.lookup a = some o ∧ o.cls = .type "list" ∧ o.dict = none ∧ o.data = .seq its n ∧ its.size ≤ sizeLine ∧ Vals xs its.toList
theorem SqF.l {K : Fg} {H : Hp} {a : Addr} {xs : List V} (h : SqF K H a xs) : SqL K H a xs := by
  rcases h with ⟨o, h⟩ | h
  · exact .inl (.inr ⟨o, h⟩)
  · exact .inr h
theorem SqF.mono {K : Fg} {H H' : Hp} {a : Addr} {xs : List V} (k : Kp H H') (h : SqF K H a xs) : SqF K H' a xs := by
  rcases h with ⟨o, h⟩ | h
  · exact .inl ⟨o, k.frz _ _ _ h⟩
  · exact .inr h
theorem SqT.mono {K : Fg} {H H' : Hp} {a : Addr} {xs : List V} (k : Kp H H') (h : SqT K H a xs) : SqT K H' a xs := by
  rcases h with h | h
  · rcases h with h | ⟨o, h⟩
    · exact .inl (.inl (k.tup _ _ h))
    · exact .inl (.inr ⟨o, k.frz _ _ _ h⟩)
  · exact .inr h
mutual
inductive RelD (K : Fg) (H : Hp) : D → V → Prop where
  | non : RelD K H .non .non
  | bl (b : Bool) : RelD K H (.bl b) (.bl b)
  | int (i : Int) : RelD K H (.int i) (.int i)
  | str (x : Str) : RelD K H (.str x) (.str x)
  | ref (a : Addr) : RelD K H (.ref a) (.ref a)
  | ty (n : String) : RelD K H (.ty n) (.ty n)
  | tup {a : Addr} {l : List D} {vs : List V} : SqT K H a vs → RelDs K H l vs → RelD K H (.tup l) (.ref a)
  | fls {a : Addr} {l : List D} {vs : List V} : SqF K H a vs → RelDs K H l vs → RelD K H (.fls l) (.ref a)
  | exc {a C : Addr} {c : Str} {ob : Obj} {u : HO} : H a = some (.frz ob u) → ob.cls = .ref C → PySem.W.nsIn K mainGlobals c = some (some (.ref C)) → RelD K H (.exc c) (.ref a)
inductive RelDs (K : Fg) (H : Hp) : List D → List V → Prop where
  | nil : RelDs K H [] []
  | cons {d : D} {v : V} {l : List D} {vs : List V} : RelD K H d v → RelDs K H l vs → RelDs K H (d :: l) (v :: vs)
end
mutual
theorem RelD.mono {K : Fg} {H H' : Hp} (k : Kp H H') : ∀ {d : D} {v : V}, RelD K H d v → RelD K H' d v
  | _, _, .non => .non
  | _, _, .bl b => .bl b
  | _, _, .int b => .int b
  | _, _, .str b => .str b
  | _, _, .ref b => .ref b
  | _, _, .ty b => .ty b
  | _, _, .tup h r => .tup (SqT.mono k h) (RelDs.mono k r)
  | _, _, .fls h r => .fls (SqF.mono k h) (RelDs.mono k r)
  | _, _, .exc h r1 r2 => .exc (k.frz _ _ _ h) r1 r2
theorem RelDs.mono {K : Fg} {H H' : Hp} (k : Kp H H') : ∀ {d : List D} {v : List V}, RelDs K H d v → RelDs K H' d v
  | _, _, .nil => .nil
  | _, _, .cons h r => .cons (RelD.mono k h) (RelDs.mono k r)
end
theorem RelDs.length {K : Fg} {H : Hp} : ∀ {l : List D} {vs : List V}, RelDs K H l vs → l.length = vs.length
  | _, _, .nil => rfl
  | _, _, .cons _ r => congrArg (· + 1) r.length
theorem RelDs.get {K : Fg} {H : Hp} : ∀ {l : List D} {vs : List V} {i : Nat} {d : D}, RelDs K H l vs → l[i]? = some d → ∃ v, vs[i]? = some v ∧ RelD K H d v
  | _, _, _, _, .nil, e => by simp at e
  | _, _, 0, _, .cons h _, e => by simp at e; subst e; exact ⟨_, rfl, h⟩
  | _, _, i + 1, d, .cons _ r, e => by
    obtain ⟨v, h1, h2⟩ := RelDs.get (i := i) (d := d) r (by simpa using e)
    exact ⟨v, by simpa using h1, h2⟩
theorem RelDs.append {K : Fg} {H : Hp} : ∀ {l m : List D} {vs us : List V}, RelDs K H l vs → RelDs K H m us → RelDs K H (l ++ m) (vs ++ us)
  | _, _, _, _, .nil, q => q
  | _, _, _, _, .cons h r, q => .cons h (RelDs.append r q)
theorem RelDs.set {K : Fg} {H : Hp} {d : D} {v : V} (hd : RelD K H d v) : ∀ {l : List D} {vs : List V} (i : Nat), RelDs K H l vs → RelDs K H (l.set i d) (vs.set i v)
  | _, _, _, .nil => .nil
  | _, _, 0, .cons _ r => .cons hd r
  | _, _, i + 1, .cons h r => .cons h (RelDs.set hd i r)
theorem RelDs.take {K : Fg} {H : Hp} : ∀ {l : List D} {vs : List V} (n : Nat), RelDs K H l vs → RelDs K H (l.take n) (vs.take n)
  | _, _, 0, r => by simp only [List.take_zero]; exact .nil
  | _, _, n + 1, .nil => by simp only [List.take_nil]; exact .nil
  | _, _, n + 1, .cons h r => by simp only [List.take_succ_cons]; exact .cons h (RelDs.take n r)
theorem RelDs.drop {K : Fg} {H : Hp} : ∀ {l : List D} {vs : List V} (n : Nat), RelDs K H l vs → RelDs K H (l.drop n) (vs.drop n)
  | _, _, 0, r => by simp only [List.drop_zero]; exact r
  | _, _, n + 1, .nil => by simp only [List.drop_nil]; exact .nil
  | _, _, n + 1, .cons h r => by simp only [List.drop_succ_cons]; exact RelDs.drop n r
theorem RelDs.rep {K : Fg} {H : Hp} {l : List D} {vs : List V} (r : RelDs K H l vs) : ∀ k : Nat, RelDs K H (List.replicate k l).flatten (List.replicate k vs).flatten
  | 0 => .nil
  | k + 1 => by rw [List.replicate_succ, List.replicate_succ, List.flatten_cons, List.flatten_cons]; exact r.append (RelDs.rep r k)
inductive RelFs (K : Fg) (H : Hp) : List (Str × D) → List (Str × V) → Prop where
  | nil : RelFs K H [] []
  | cons {f : Str} {d : D} {v : V} {l : List (Str × D)} {vs : List (Str × V)} : RelD K H d v → RelFs K H l vs → RelFs K H ((f, d) :: l) ((f, v) :: vs)
theorem RelFs.mono {K : Fg} {H H' : Hp} (k : Kp H H') {l : List (Str × D)} {vs : List (Str × V)} (r : RelFs K H l vs) : RelFs K H' l vs := by
  induction r with
  | nil => exact .nil
  | cons h _ ih => exact .cons (h.mono k) ih
/-- the pairs of a dict -/
noncomputable def kT (t : Int × Int × Int) : List Key := [.inl t.1, .inl t.2.1, .inl t.2.2]
inductive RelKs (K : Fg) (H : Hp) : List ((Int × Int × Int) × D) → List (List Key × V) → Prop where
  | nil : RelKs K H [] []
  | cons {t : Int × Int × Int} {d : D} {v : V} {l : List ((Int × Int × Int) × D)} {vs : List (List Key × V)} : RelD K H d v → RelKs K H l vs → RelKs K H ((t, d) :: l) ((kT t, v) :: vs)
theorem RelKs.mono {K : Fg} {H H' : Hp} (k : Kp H H') {l : List ((Int × Int × Int) × D)} {vs : List (List Key × V)} (r : RelKs K H l vs) : RelKs K H' l vs := by
  induction r with
  | nil => exact .nil
  | cons h _ ih => exact .cons (h.mono k) ih
/-- the lists, objects and dicts that may be written -/
structure RelM (K : Fg) (μ : Mu) (H : Hp) : Prop where
  lst : ∀ p xs, μ p = some (.lst xs) → ∃ vs, H p = some (.lst vs) ∧ RelDs K H xs vs
  ins : ∀ p c fs, μ p = some (.ins c fs) → ∃ C dx vs, PySem.W.nsIn K mainGlobals c = some (some (.ref C)) ∧ H p = some (.ins C dx vs) ∧ H dx = some (.own p) ∧ RelFs K H fs vs
  dct : ∀ p kvs, μ p = some (.dct kvs) → ∃ vs, H p = some (.dT vs) ∧ RelKs K H kvs vs
instance {K : Fg} {μ : Mu} {H : Hp} : CoeFun (RelM K μ H) (fun _ => ∀ p xs, μ p = some (.lst xs) → ∃ vs, H p = some (.lst vs) ∧ RelDs K H xs vs) := ⟨RelM.lst⟩
theorem RelM.free {K : Fg} {μ : Mu} {H : Hp} (m : RelM K μ H) {p : Addr} (h : H p = none) : μ p = none := by
  cases e : μ p with
  | none => rfl
  | some o =>
    cases o with
    | lst xs =>
      obtain ⟨vs, q, _⟩ := m.lst p xs e
      rw [h] at q; cases q
    | ins c fs =>
      obtain ⟨C, dx, vs, _, q, _⟩ := m.ins p c fs e
      rw [h] at q; cases q
    | dct kvs =>
      obtain ⟨vs, q, _⟩ := m.dct p kvs e
      rw [h] at q; cases q
theorem RelM.newT {K : Fg} {μ : Mu} {H : Hp} {p : Addr} {o : HO} (h : H p = none) (m : RelM K μ H) : RelM K μ (upd H p o) := by
  have ne : ∀ {q : Addr} {u : HO}, H q = some u → q ≠ p := fun {q u} e z => by subst z; rw [h] at e; cases e
  refine ⟨fun q xs e => ?_, fun q c fs e => ?_, fun q kvs e => ?_⟩
  · obtain ⟨vs, q1, r⟩ := m.lst q xs e
    exact ⟨vs, by rw [upd_ne (ne q1)]; exact q1, r.mono (Kp.new h)⟩
  · obtain ⟨C, dx, vs, n, q1, q2, r⟩ := m.ins q c fs e
    exact ⟨C, dx, vs, n, by rw [upd_ne (ne q1)]; exact q1, by rw [upd_ne (ne q2)]; exact q2, r.mono (Kp.new h)⟩
  · obtain ⟨vs, q1, r⟩ := m.dct q kvs e
    exact ⟨vs, by rw [upd_ne (ne q1)]; exact q1, r.mono (Kp.new h)⟩
theorem RelM.newL {K : Fg} {μ : Mu} {H : Hp} {p : Addr} {xs : List D} {vs : List V} (h : H p = none) (r : RelDs K H xs vs) (m : RelM K μ H) : RelM K (updM μ p (.lst xs)) (upd H p (.lst vs)) := by
  have m' := m.newT (o := .lst vs) h
  refine ⟨fun q ys e => ?_, fun q c fs e => ?_, fun q kvs e => ?_⟩
  · by_cases z : q = p
    · subst z
      rw [updM_same] at e; cases e
      exact ⟨vs, upd_same, r.mono (Kp.new h)⟩
    · rw [updM_ne z] at e
      exact m'.lst q ys e
  · by_cases z : q = p
    · subst z
      rw [updM_same] at e; cases e
    · rw [updM_ne z] at e
      exact m'.ins q c fs e
  · by_cases z : q = p
    · subst z
      rw [updM_same] at e; cases e
    · rw [updM_ne z] at e
      exact m'.dct q kvs e
theorem RelM.wr {K : Fg} {μ : Mu} {H : Hp} {p : Addr} {xs : List D} {vs ws : List V} (h : H p = some (.lst ws)) (r : RelDs K H xs vs) (m : RelM K μ H) : RelM K (updM μ p (.lst xs)) (upd H p (.lst vs)) := by
  refine ⟨fun q ys e => ?_, fun q c fs e => ?_, fun q kvs e => ?_⟩
  · by_cases z : q = p
    · subst z
      rw [updM_same] at e; cases e
      exact ⟨vs, upd_same, r.mono (Kp.wr h)⟩
    · rw [updM_ne z] at e
      rw [upd_ne z]
      obtain ⟨us, q1, r1⟩ := m.lst q ys e
      exact ⟨us, q1, r1.mono (Kp.wr h)⟩
  · by_cases z : q = p
    · subst z
      rw [updM_same] at e; cases e
    · rw [updM_ne z] at e
      obtain ⟨C, dx, us, n, q1, q2, r1⟩ := m.ins q c fs e
      refine ⟨C, dx, us, n, by rw [upd_ne z]; exact q1, ?_, r1.mono (Kp.wr h)⟩
      rw [upd_ne]
      · exact q2
      · intro y; subst y; rw [h] at q2; cases q2
  · by_cases z : q = p
    · subst z
      rw [updM_same] at e; cases e
    · rw [updM_ne z] at e
      rw [upd_ne z]
      obtain ⟨us, q1, r1⟩ := m.dct q kvs e
      exact ⟨us, q1, r1.mono (Kp.wr h)⟩
/-- the frame -/
structure RSt (K : Fg) (H : Hp) (ρ : St3) (σ : St) : Prop where
  len : ρ.length = σ.length
  at' : ∀ i d, getI ρ i = some d → ∃ v, σ[i]? = some (some v) ∧ RelD K H d v
theorem RSt.mono {K : Fg} {H H' : Hp} {ρ : St3} {σ : St} (k : Kp H H') (s : RSt K H ρ σ) : RSt K H' ρ σ := ⟨s.len, fun i d e => let ⟨v, h, r⟩ := s.at' i d e; ⟨v, h, r.mono k⟩⟩
theorem getI_set : ∀ (ρ : St3) (i j : Nat) (d : Option D), getI (ρ.set i d) j = if i = j ∧ i < ρ.length then d else getI ρ j
  | [], i, j, d => by simp [getI]
  | o :: r, 0, 0, d => by simp [getI]
  | o :: r, 0, j + 1, d => by simp [getI]
  | o :: r, i + 1, 0, d => by simp [getI]
  | o :: r, i + 1, j + 1, d => by simp only [List.set_cons_succ, getI, getI_set r i j d, List.length_cons]; simp
theorem RSt.set {K : Fg} {H : Hp} {ρ : St3} {σ : St} {d : D} {v : V} (i : Nat) (r : RelD K H d v) (s : RSt K H ρ σ) : RSt K H (ρ.set i (some d)) (σ.set i (some v)) := by
  refine ⟨by simp [s.len], fun j e h => ?_⟩
  rw [getI_set] at h
  split at h
  · next c =>
    obtain ⟨rfl, c2⟩ := c
    cases h
    exact ⟨v, by rw [List.getElem?_set_self (by rw [← s.len]; exact c2)], r⟩
  · next c =>
    obtain ⟨u, q, r'⟩ := s.at' j e h
    have hj : j < σ.length := (List.getElem?_eq_some_iff.mp q).1
    by_cases z : i = j
    · subst z; exact absurd ⟨rfl, by rw [s.len]; exact hj⟩ c
    · exact ⟨u, by rw [List.getElem?_set_ne z]; exact q, r'⟩
theorem RSt.start {K : Fg} {H : Hp} {ds : List D} {vs : List V} (N : List Str) (r : RelDs K H ds vs) : RSt K H (start3 N ds) (L2.start N vs) := by
  have hl := r.length
  refine ⟨by simp [start3, L2.start, hl], fun i d e => ?_⟩
  rw [getI_eq] at e
  unfold start3 at e
  unfold L2.start
  by_cases c : i < ds.length
  · rw [List.getElem?_append_left (by simpa using c), List.getElem?_map] at e
    cases q : ds[i]? with
    | none => rw [q] at e; cases e
    | some d' =>
      rw [q] at e
      have e' : d' = d := by simpa using e
      subst e'
      obtain ⟨v, h1, h2⟩ := r.get q
      exact ⟨v, by rw [List.getElem?_append_left (by rw [List.length_map]; omega), List.getElem?_map, h1]; rfl, h2⟩
  · rw [List.getElem?_append_right (by simpa using c), List.getElem?_replicate] at e
    split at e <;> simp at e

/-! ### what a reading is worth: what is wanted of the value (Q3) leads to what is wanted below (Q) -/
noncomputable abbrev Ks (K : Fg) (H : Hp) (Q3 : VK3) (Q : VK) : Prop := ∀ d μ' v H', Q3 d μ' → Kp H H' → RelD K H' d v → RelM K μ' H' → Q v H'
theorem Ks.after {K : Fg} {H H1 : Hp} {Q3 : VK3} {Q : VK} (k : Ks K H Q3 Q) (e : Kp H H1) : Ks K H1 Q3 Q := fun d μ v H' q e' => k d μ v H' q (e.trans e')
noncomputable def RdE (K : Fg) (tv : TE) (t : TE3) : Prop := ∀ σ H Q ρ μ Q3, RSt K H ρ σ → RelM K μ H → t ρ μ Q3 → Ks K H Q3 Q → tv σ H Q
noncomputable def RE (X : Cx) (e : Expr) (t : TE3) : Prop := ∃ tv, PE X e tv ∧ RdE X.K tv t
noncomputable def RdT (K : Fg) (tv : TT) (t : TT3) : Prop := ∀ σ H Q ρ μ Q3, RSt K H ρ σ → RelM K μ H → t ρ μ Q3 → (∀ b μ' H', Q3 b μ' → Kp H H' → RelM K μ' H' → Q b H') → tv σ H Q
noncomputable def RT (X : Cx) (e : Expr) (t : TT3) : Prop := ∃ tv, PT X e tv ∧ RdT X.K tv t
noncomputable def RW (X : Cx) (e : Expr) (t : TT3) : Prop := ∃ tv, PW X e tv ∧ RdT X.K tv t
noncomputable def RdA (K : Fg) (tv : TA) (t : TA3) : Prop := ∀ σ H Q ρ μ Q3, RSt K H ρ σ → RelM K μ H → t ρ μ Q3 → (∀ ds μ' vs H', Q3 ds μ' → Kp H H' → RelDs K H' ds vs → RelM K μ' H' → Q vs H') → tv σ H Q
noncomputable def RA (X : Cx) (es : List Expr) (t : TA3) : Prop := ∃ tv, PA X es tv ∧ RdA X.K tv t
/-- the ends of a statement -/
structure KsD (K : Fg) (H : Hp) (D3 : Ends3) (D : Ends) : Prop where
  nx : ∀ ρ μ σ H', D3.nx ρ μ → Kp H H' → RSt K H' ρ σ → RelM K μ H' → D.nx σ H'
  bk : ∀ ρ μ σ H', D3.bk ρ μ → Kp H H' → RSt K H' ρ σ → RelM K μ H' → D.bk σ H'
  ct : ∀ ρ μ σ H', D3.ct ρ μ → Kp H H' → RSt K H' ρ σ → RelM K μ H' → D.ct σ H'
  rt : Ks K H D3.rt D.rt
theorem KsD.after {K : Fg} {H H1 : Hp} {D3 : Ends3} {D : Ends} (k : KsD K H D3 D) (e : Kp H H1) : KsD K H1 D3 D :=
  ⟨fun ρ μ σ H' q e' => k.nx ρ μ σ H' q (e.trans e'), fun ρ μ σ H' q e' => k.bk ρ μ σ H' q (e.trans e'), fun ρ μ σ H' q e' => k.ct ρ μ σ H' q (e.trans e'), k.rt.after e⟩
noncomputable def RdS (K : Fg) (tv : TS) (t : TS3) : Prop := ∀ σ H D ρ μ D3, RSt K H ρ σ → RelM K μ H → t D3 ρ μ → KsD K H D3 D → tv D σ H
noncomputable def RS (X : Cx) (st : Stmt) (t : TS3) : Prop := ∃ tv, PS X st tv ∧ RdS X.K tv t
noncomputable def RSs (X : Cx) (st : List Stmt) (t : TS3) : Prop := ∃ tv, PSs X st tv ∧ RdS X.K tv t
noncomputable def RdG (K : Fg) (tv : TG) (t : TG3) : Prop := ∀ v d σ H Q ρ μ Q3, RSt K H ρ σ → RelM K μ H → RelD K H d v → t d ρ μ Q3 → (∀ ρ' μ' σ' H', Q3 ρ' μ' → Kp H H' → RSt K H' ρ' σ' → RelM K μ' H' → Q σ' H') → tv v σ H Q
noncomputable def RG (X : Cx) (e : Expr) (t : TG3) : Prop := ∃ tv, PG X e tv ∧ RdG X.K tv t
noncomputable def RdGs (K : Fg) (tv : TGs) (t : TGs3) : Prop := ∀ vs ds σ H Q ρ μ Q3, RSt K H ρ σ → RelM K μ H → RelDs K H ds vs → t ds ρ μ Q3 → (∀ ρ' μ' σ' H', Q3 ρ' μ' → Kp H H' → RSt K H' ρ' σ' → RelM K μ' H' → Q σ' H') → tv vs σ H Q
noncomputable def RGs (X : Cx) (es : List Expr) (t : TGs3) : Prop := ∃ tv, PGs X es tv ∧ RdGs X.K tv t
/-- operations -/
noncomputable def RdO (K : Fg) (r : R2) (r3 : R3) : Prop := ∀ x y v u H Q μ Q3, RelM K μ H → RelD K H x v → RelD K H y u → r3 x y μ Q3 → Ks K H Q3 Q → r v u H Q
noncomputable def RO (X : Cx) (f : Value → Value → Sem Value) (r3 : R3) : Prop := ∃ r, OpR X f r ∧ RdO X.K r r3
noncomputable def RdU (K : Fg) (r : V → Hp → VK → Prop) (r3 : D → Mu → VK3 → Prop) : Prop := ∀ x v H Q μ Q3, RelM K μ H → RelD K H x v → r3 x μ Q3 → Ks K H Q3 Q → r v H Q
noncomputable def RU (X : Cx) (f : Value → Sem Value) (r3 : D → Mu → VK3 → Prop) : Prop := ∃ r, UnR X f r ∧ RdU X.K r r3
noncomputable def RdC (K : Fg) (r : List V → Hp → VK → Prop) (r3 : C3) : Prop := ∀ xs vs H Q μ Q3, RelM K μ H → RelDs K H xs vs → r3 xs μ Q3 → Ks K H Q3 Q → r vs H Q
noncomputable def RC (X : Cx) (f : Value) (r3 : C3) : Prop := ∃ r, CallR X f r ∧ RdC X.K r r3
noncomputable def RX (X : Cx) (r3 : R3) : Prop := ∃ r, IxR X r ∧ RdO X.K r r3
end Pv

namespace Pv
open PySem L2
section
variable {X : Cx} {a b c e : Expr} {ta tb tc te : TE3} {pos : Pos}
/-! ### names, constants -/
theorem re_var (i : Nat) {x : Str} (hN : X.N[i]? = some x := by rfl) (hv : Vis X.env.scope x := by first | exact Or.inl rfl | exact Or.inr (Or.inl rfl) | exact Or.inr (Or.inr rfl)) (hd : (x == ("__debug__" : Str)) = false := by decide)
    (hcd : (x == ("__classdict__" : Str)) = false := by decide) : RE X (.Name x pos) (v3 i) := by
  refine ⟨_, pe_var hN hv hd hcd, fun σ H Q ρ μ Q3 s m h k => ?_⟩
  unfold v3 at h
  cases q : getI ρ i with
  | none => rw [q] at h; exact h.elim
  | some d =>
    rw [q] at h
    obtain ⟨v, e, r⟩ := s.at' i d q
    exact ⟨v, e, k d μ v H h (Kp.refl H) r m⟩
theorem RdE.cst {K : Fg} {d : D} {v : V} (r : ∀ H, RelD K H d v) : RdE K (tC v) (c3 d) := fun σ H Q ρ μ Q3 s m h k => k d μ v H h (Kp.refl H) (r H) m
theorem re_int {i : Int} {j} : RE X (.Constant (.int i) j pos) (c3 (.int i)) := ⟨_, pe_int, RdE.cst fun _ => .int i⟩
theorem re_bl {i : Bool} {j} : RE X (.Constant (.bool i) j pos) (c3 (.bl i)) := ⟨_, pe_bl, RdE.cst fun _ => .bl i⟩
theorem re_non {j} : RE X (.Constant .none j pos) (c3 .non) := ⟨_, pe_non, RdE.cst fun _ => .non⟩
theorem re_str {x : Str} {j} : RE X (.Constant (.str x) j pos) (c3 (.str x)) := ⟨_, pe_str, RdE.cst fun _ => .str x⟩
/-- a name of the module that stands for a value -/
noncomputable def Gd (K : Fg) (mg : Str → Option Value) (x : Str) (d : D) : Prop := ∃ u v, mg x = some u ∧ RelV v u ∧ ∀ H, RelD K H d v
theorem re_g {x : Str} {d : D} (g : Gd X.K X.mg x d) (hg : Gl X x := by rfl) (hd : (x == ("__debug__" : Str)) = false := by decide) : RE X (.Name x pos) (c3 d) := by
  obtain ⟨u, v, hm, r, rd⟩ := g
  exact ⟨_, pe_glob hg hm r hd, RdE.cst rd⟩
theorem re_ty {x : Str} {T : String} (hm : X.mg x = none) (hv : bootBuiltins x = some (.type T)) (hg : Gl X x := by rfl) (hn : x ≠ "__name__" := by decide) (hd : (x == ("__debug__" : Str)) = false := by decide) : RE X (.Name x pos) (c3 (.ty T)) :=
  ⟨_, pe_bltn hg hm hv (show RelV (.ty T) (.type T) from rfl) hn hd, RdE.cst fun _ => .ty T⟩
/-! ### operators -/
theorem re_op {op : Operator} {r3 : R3} (ho : RO X (binaryOp op) r3) (ha : RE X a ta) (hb : RE X b tb) : RE X (.BinOp a op b pos) (o3 r3 ta tb) := by
  obtain ⟨r, po, ro⟩ := ho
  obtain ⟨va, pa, ra⟩ := ha
  obtain ⟨vb, pb, rb⟩ := hb
  exact ⟨_, pe_op po pa pb, fun σ H Q ρ μ Q3 s m h k => ra σ H _ ρ μ _ s m h fun x μ1 v H1 h1 k1 r1 m1 => rb σ H1 _ ρ μ1 _ (s.mono k1) m1 h1 fun y μ2 u H2 h2 k2 r2 m2 =>
    ro x y v u H2 Q μ2 Q3 m2 (r1.mono k2) r2 h2 (k.after (k1.trans k2))⟩
theorem re_un {op : UnaryOp} {r3 : D → Mu → VK3 → Prop} (ho : RU X (unaryOp op) r3) (ha : RE X a ta) : RE X (.UnaryOp op a pos) (un3 r3 ta) := by
  obtain ⟨r, po, ro⟩ := ho
  obtain ⟨va, pa, ra⟩ := ha
  exact ⟨_, pe_un po pa, fun σ H Q ρ μ Q3 s m h k => ra σ H _ ρ μ _ s m h fun x μ1 v H1 h1 k1 r1 m1 => ro x v H1 Q μ1 Q3 m1 r1 h1 (k.after k1)⟩
theorem RdE.op {K : Fg} {r : R2} {r3 : R3} {va vb : TE} (ra : RdE K va ta) (rb : RdE K vb tb) (ro : RdO K r r3) : RdE K (tOp r va vb) (o3 r3 ta tb) := fun σ H Q ρ μ Q3 s m h k =>
  ra σ H _ ρ μ _ s m h fun x μ1 v H1 h1 k1 r1 m1 => rb σ H1 _ ρ μ1 _ (s.mono k1) m1 h1 fun y μ2 u H2 h2 k2 r2 m2 => ro x y v u H2 Q μ2 Q3 m2 (r1.mono k2) r2 h2 (k.after (k1.trans k2))
theorem RdT.test {K : Fg} {va : TE} (ra : RdE K va ta) : RdT K (tTest va) (b3 ta) := fun σ H Q ρ μ Q3 s m h k => by
  refine ra σ H _ ρ μ _ s m h fun d μ1 v H1 h1 k1 r1 m1 => ?_
  cases r1 with
  | bl c => exact ⟨c, rfl, k c μ1 H1 h1 k1 m1⟩
  | _ => exact False.elim h1
theorem re_cmp {op : CmpOp} {r3 : R3} (ho : RO X (compareOp op) r3) (ha : RE X a ta) (hb : RE X b tb) (hm : behindInMarks op b = false := by first | exact nomark _ | with_unfolding_all rfl) : RE X (.Compare a [op] [b] pos) (o3 r3 ta tb) := by
  obtain ⟨r, po, ro⟩ := ho
  obtain ⟨va, pa, ra⟩ := ha
  obtain ⟨vb, pb, rb⟩ := hb
  exact ⟨_, pe_cmpR po pa pb hm, ra.op rb ro⟩
theorem rt_cmp {op : CmpOp} {r3 : R3} (ho : RO X (compareOp op) r3) (ha : RE X a ta) (hb : RE X b tb) (hm : behindInMarks op b = false := by first | exact nomark _ | with_unfolding_all rfl) : RT X (.Compare a [op] [b] pos) (b3 (o3 r3 ta tb)) := by
  obtain ⟨r, po, ro⟩ := ho
  obtain ⟨va, pa, ra⟩ := ha
  obtain ⟨vb, pb, rb⟩ := hb
  exact ⟨_, pt_cmpR po pa pb hm, RdT.test (ra.op rb ro)⟩
theorem rt_val (ha : RE X a ta) (he : ∀ whole, isTrue a X.env whole = (do let v ← whole; standAt a.pos; holding [v] (truthy v)) := by intro _; rfl) : RT X a (b3 ta) := by
  obtain ⟨va, pa, ra⟩ := ha
  exact ⟨_, pt_val pa he, RdT.test ra⟩
variable {tA tB' : TT3} {rest : List Expr}
theorem RW.pt (h : RW X a tA) : RT X a tA := let ⟨t, p, r⟩ := h; ⟨t, p.pt, r⟩
theorem rw_pt (h : RW X a tA) : RT X a tA := h.pt
theorem rw_and1 (h : RT X a tA) : RW X (.BoolOp .And [a] pos) tA := let ⟨t, p, r⟩ := h; ⟨t, pw_and1 p, r⟩
theorem rw_or1 (h : RT X a tA) : RW X (.BoolOp .Or [a] pos) tA := let ⟨t, p, r⟩ := h; ⟨t, pw_or1 p, r⟩
theorem rw_and (ha : RT X a tA) (hb : RW X (.BoolOp .And (b :: rest) pos) tB') : RW X (.BoolOp .And (a :: b :: rest) pos) (and3 tA tB') := by
  obtain ⟨va, pa, ra⟩ := ha
  obtain ⟨vb, pb, rb⟩ := hb
  refine ⟨_, pw_and pa pb, fun σ H Q ρ μ Q3 s m h k => ra σ H _ ρ μ _ s m h fun c μ1 H1 h1 k1 m1 => ?_⟩
  cases c with
  | true => exact rb σ H1 Q ρ μ1 Q3 (s.mono k1) m1 h1 fun b μ' H' q e => k b μ' H' q (k1.trans e)
  | false => exact k _ _ _ h1 k1 m1
theorem rw_or (ha : RT X a tA) (hb : RW X (.BoolOp .Or (b :: rest) pos) tB') : RW X (.BoolOp .Or (a :: b :: rest) pos) (or3 tA tB') := by
  obtain ⟨va, pa, ra⟩ := ha
  obtain ⟨vb, pb, rb⟩ := hb
  refine ⟨_, pw_or pa pb, fun σ H Q ρ μ Q3 s m h k => ra σ H _ ρ μ _ s m h fun c μ1 H1 h1 k1 m1 => ?_⟩
  cases c with
  | true => exact k _ _ _ h1 k1 m1
  | false => exact rb σ H1 Q ρ μ1 Q3 (s.mono k1) m1 h1 fun b μ' H' q e => k b μ' H' q (k1.trans e)
theorem rt_not (ha : RT X a tA) : RT X (.UnaryOp .Not a pos) (not3 tA) := by
  obtain ⟨va, pa, ra⟩ := ha
  exact ⟨_, pt_not pa, fun σ H Q ρ μ Q3 s m h k => ra σ H _ ρ μ _ s m h fun c μ1 H1 h1 k1 m1 => k _ _ _ h1 k1 m1⟩
theorem re_one {op} (h : RE X a ta) : RE X (.BoolOp op [a] pos) ta := let ⟨t, p, r⟩ := h; ⟨t, pe_one p, r⟩
theorem re_and (ha : RE X a ta) (hb : RE X (.BoolOp .And (b :: rest) pos) tb) : RE X (.BoolOp .And (a :: b :: rest) pos) (andV3 ta tb) := by
  obtain ⟨va, pa, ra⟩ := ha
  obtain ⟨vb, pb, rb⟩ := hb
  refine ⟨_, pe_and pa pb, fun σ H Q ρ μ Q3 s m h k => ra σ H _ ρ μ _ s m h fun d μ1 v H1 h1 k1 r1 m1 => ?_⟩
  cases r1 with
  | bl c =>
    refine ⟨c, rfl, ?_⟩
    cases c with
    | true => exact rb σ H1 Q ρ μ1 Q3 (s.mono k1) m1 h1 (k.after k1)
    | false => exact k _ _ _ _ h1 k1 (.bl _) m1
  | _ => exact False.elim h1
theorem re_not (ha : RE X a ta) : RE X (.UnaryOp .Not a pos) (notV3 ta) := by
  obtain ⟨va, pa, ra⟩ := ha
  refine ⟨_, pe_not pa, fun σ H Q ρ μ Q3 s m h k => ra σ H _ ρ μ _ s m h fun d μ1 v H1 h1 k1 r1 m1 => ?_⟩
  cases r1 with
  | bl c => exact ⟨c, rfl, k _ _ _ _ h1 k1 (.bl _) m1⟩
  | _ => exact False.elim h1
theorem re_if (hc : RT X c tA) (ha : RE X a ta) (hb : RE X b tb) : RE X (.IfExp c a b pos) (if3 tA ta tb) := by
  obtain ⟨vc, pc, rc⟩ := hc
  obtain ⟨va, pa, ra⟩ := ha
  obtain ⟨vb, pb, rb⟩ := hb
  refine ⟨_, pe_ifExp pc pa pb, fun σ H Q ρ μ Q3 s m h k => rc σ H _ ρ μ _ s m h fun c μ1 H1 h1 k1 m1 => ?_⟩
  cases c with
  | true => exact ra σ H1 Q ρ μ1 Q3 (s.mono k1) m1 h1 (k.after k1)
  | false => exact rb σ H1 Q ρ μ1 Q3 (s.mono k1) m1 h1 (k.after k1)
/-! ### argument lists, displays -/
variable {es : List Expr} {t : TA3}
theorem ra_nil : RA X [] nil3 := ⟨_, pa_nil, fun σ H Q ρ μ Q3 s m h k => k [] μ [] H h (Kp.refl H) .nil m⟩
theorem ra_cons (ha : RE X e te) (hr : RA X es t) (hs : starEach (e :: es) X.env = (false, eval e X.env) :: starEach es X.env := by rfl) : RA X (e :: es) (cons3 te t) := by
  obtain ⟨va, pa, ra⟩ := ha
  obtain ⟨vb, pb, rb⟩ := hr
  exact ⟨_, pa_cons pa pb hs, fun σ H Q ρ μ Q3 s m h k => ra σ H _ ρ μ _ s m h fun d μ1 v H1 h1 k1 r1 m1 => rb σ H1 _ ρ μ1 _ (s.mono k1) m1 h1 fun ds μ2 vs H2 h2 k2 r2 m2 =>
    k _ _ _ _ h2 (k1.trans k2) (.cons (r1.mono k2) r2) m2⟩
theorem re_tup {x1} (h : RA X es t) : RE X (.Tuple es x1 pos) (tup3 t) := by
  obtain ⟨va, pa, ra⟩ := h
  refine ⟨_, pe_tup pa, fun σ H Q ρ μ Q3 s m h k => ra σ H _ ρ μ _ s m h fun ds μ1 vs H1 h1 k1 r1 m1 => ⟨by rw [← r1.length]; exact h1.1, fun p hp => ?_⟩⟩
  exact k _ _ _ _ h1.2 (k1.trans (Kp.new hp)) (.tup (SqT.of upd_same) (r1.mono (Kp.new hp))) (m1.newT hp)
theorem re_lst (h : RA X es t) : RE X (.List es pos) (lst3 t) := by
  obtain ⟨va, pa, ra⟩ := h
  refine ⟨_, pe_lst pa, fun σ H Q ρ μ Q3 s m h k => ra σ H _ ρ μ _ s m h fun ds μ1 vs H1 h1 k1 r1 m1 => ⟨by rw [← r1.length]; exact h1.1, fun p hp => ?_⟩⟩
  exact k _ _ _ _ (h1.2 p (m1.free hp)) (k1.trans (Kp.new hp)) (.ref p) (m1.newL hp r1)
/-! ### statements -/
variable {st : Stmt} {sts : List Stmt} {t3 u3 : TS3}
theorem rss_nil : RSs X [] next3 := ⟨_, pss_nil, fun σ H D ρ μ D3 s m h k => k.nx ρ μ σ H h (Kp.refl H) s m⟩
theorem rss_one (h : RS X st t3) : RSs X [st] t3 := let ⟨t, p, r⟩ := h; ⟨t, pss_one p, r⟩
theorem rss_cons (h1 : RS X st t3) (h2 : RSs X sts u3) : RSs X (st :: sts) (seq3 t3 u3) := by
  obtain ⟨va, pa, ra⟩ := h1
  obtain ⟨vb, pb, rb⟩ := h2
  refine ⟨_, pss_cons pa pb, fun σ H D ρ μ D3 s m h k => ra σ H _ ρ μ _ s m h ⟨fun ρ1 μ1 σ1 H1 h1 k1 s1 m1 => rb σ1 H1 D ρ1 μ1 D3 s1 m1 h1 (k.after k1), k.bk, k.ct, k.rt⟩⟩
theorem rs_expr (he : RE X e te) (hs : swapsWith e none pos.line X.env = pure false := by rfl) : RS X (.Expr e pos) (drop3 te) := by
  obtain ⟨va, pa, ra⟩ := he
  exact ⟨_, ps_expr pa hs, fun σ H D ρ μ D3 s m h k => ra σ H _ ρ μ _ s m h fun d μ1 v H1 h1 k1 r1 m1 => k.nx ρ μ1 σ H1 h1 k1 (s.mono k1) m1⟩
theorem rs_ret (he : RE X e te) : RS X (.Return (some e) pos) (ret3 te) := by
  obtain ⟨va, pa, ra⟩ := he
  exact ⟨_, ps_ret pa, fun σ H D ρ μ D3 s m h k => ra σ H _ ρ μ _ s m h k.rt⟩
theorem rs_if {as bs : List Stmt} (hc : RT X c tA) (ha : RSs X as t3) (hb : RSs X bs u3) : RS X (.If c as bs pos) (ifs3 tA t3 u3) := by
  obtain ⟨vc, pc, rc⟩ := hc
  obtain ⟨va, pa, ra⟩ := ha
  obtain ⟨vb, pb, rb⟩ := hb
  refine ⟨_, ps_if pc pa pb, fun σ H D ρ μ D3 s m h k => rc σ H _ ρ μ _ s m h fun c μ1 H1 h1 k1 m1 => ?_⟩
  cases c with
  | true => exact ra σ H1 D ρ μ1 D3 (s.mono k1) m1 h1 (k.after k1)
  | false => exact rb σ H1 D ρ μ1 D3 (s.mono k1) m1 h1 (k.after k1)
/-! ### targets -/
theorem rg_name {i : Nat} {x : Str} (hN : X.N.Nodup) (hi : X.N[i]? = some x := by rfl) (hx : Loc X.env.scope x := by first | exact Or.inl rfl | exact Or.inr rfl) (hf : X.fn x = true ∨ X.env.scope.names.lookup x = some .local := by first | exact .inl rfl | exact .inr rfl) :
    RG X (.Name x pos) (gn3 i) := ⟨_, pg_name hN hi hx hf, fun v d σ H Q ρ μ Q3 s m r h k => k _ _ _ _ h (Kp.refl H) (s.set i r) m⟩
theorem rgs_nil : RGs X [] gnil3 := ⟨_, pgs_nil, fun vs ds σ H Q ρ μ Q3 s m r h k => by
  cases r with
  | nil => exact ⟨rfl, k _ _ _ _ h (Kp.refl H) s m⟩
  | cons _ _ => exact False.elim h⟩
theorem rgs_cons {g : TG3} {gs : TGs3} (h1 : RG X e g) (h2 : RGs X es gs) (hs : (assignEach (e :: es) X.env).map (·.2) = assign e X.env :: (assignEach es X.env).map (·.2) := by rfl) : RGs X (e :: es) (gcons3 g gs) := by
  obtain ⟨va, pa, ra⟩ := h1
  obtain ⟨vb, pb, rb⟩ := h2
  refine ⟨_, pgs_cons pa pb hs, fun vs ds σ H Q ρ μ Q3 s m r h k => ?_⟩
  cases r with
  | nil => exact False.elim h
  | cons r1 r2 => exact ⟨_, _, rfl, ra _ _ σ H _ ρ μ _ s m r1 h fun ρ1 μ1 σ1 H1 h1 k1 s1 m1 => rb _ _ σ1 H1 Q ρ1 μ1 Q3 s1 m1 (r2.mono k1) h1 fun ρ' μ' σ' H' q e => k ρ' μ' σ' H' q (k1.trans e)⟩
theorem rg_tup {kk : Nat} {gs : TGs3} {n : Nat} (hc : X.calm = true) (h : RGs X es gs) (hn : (assignEach es X.env).length = n := by rfl) (hst : (assignEach es X.env).findIdx? (·.1) = none := by rfl) : RG X (.Tuple es kk pos) (gtup3 n gs) := by
  obtain ⟨va, pa, ra⟩ := h
  refine ⟨_, pg_tup hc pa hn hst, fun v d σ H Q ρ μ Q3 s m r h k => ?_⟩
  cases r with
  | tup hq rs =>
    obtain ⟨hl, h⟩ := h
    exact ⟨_, _, rfl, hq, by rw [← rs.length]; exact hl, ra _ _ σ H Q ρ μ Q3 s m rs h k⟩
  | _ => exact False.elim h
theorem rs_set {i : Nat} {x : Str} {pos' : Pos} (hN : X.N.Nodup) (he : RE X e te) (hi : X.N[i]? = some x := by rfl) (hx : Loc X.env.scope x := by first | exact Or.inl rfl | exact Or.inr rfl) (hs : swapsWith e (some (.Name x pos')) pos.line X.env = pure false := by rfl)
    (hf : X.fn x = true ∨ X.env.scope.names.lookup x = some .local := by first | exact .inl rfl | exact .inr rfl) : RS X (.Assign [.Name x pos'] e pos) (set3 i te) := by
  obtain ⟨va, pa, ra⟩ := he
  exact ⟨_, ps_set hN hi hx pa hs hf, fun σ H D ρ μ D3 s m h k => ra σ H _ ρ μ _ s m h fun d μ1 v H1 h1 k1 r1 m1 => k.nx _ _ _ _ h1 k1 ((s.mono k1).set i r1) m1⟩
theorem rs_asg {tg : Expr} {g : TG3} (he : RE X e te) (hg : RG X tg g) (hs : swapsWithSole [tg] e pos.line X.env = pure false := by rfl) (hw : swappedStores [tg] e X.env = pure none := by rfl)
    (h1 : (assignEach [tg] X.env).map (·.2) = [assign tg X.env] := by rfl) : RS X (.Assign [tg] e pos) (asg3 te g) := by
  obtain ⟨va, pa, ra⟩ := he
  obtain ⟨vg, pg, rg⟩ := hg
  exact ⟨_, ps_asg pa pg hs hw h1, fun σ H D ρ μ D3 s m h k => ra σ H _ ρ μ _ s m h fun d μ1 v H1 h1 k1 r1 m1 => rg v d σ H1 _ ρ μ1 _ (s.mono k1) m1 r1 h1 fun ρ' μ' σ' H' q e => k.nx ρ' μ' σ' H' q (k1.trans e)⟩
theorem ixN_eq (n : Nat) (i : Int) : L2.ixN n i = ixN n i := rfl
theorem rg_sub {o i : Expr} {to ti : TE3} (ho : RE X o to) (hi : RE X i ti)
    (ha : ∀ v, assign (.Subscript o i pos) X.env v = (do
      let ov ← holding [v] (eval o X.env)
      let iv ← holding [v, ov] (eval i X.env)
      standAt pos
      holding [v, ov, iv] (setItem ov iv v)
      release [v, ov, iv] []) := by intro _; rfl) : RG X (.Subscript o i pos) (sub3 to ti) := by
  obtain ⟨va, pa, ra⟩ := ho
  obtain ⟨vb, pb, rb⟩ := hi
  refine ⟨_, pg_sub pa pb set_list ha, fun v d σ H Q ρ μ Q3 s m r h k => ra σ H _ ρ μ _ s m h fun o' μ1 ov H1 h1 k1 r1 m1 => rb σ H1 _ ρ μ1 _ (s.mono k1) m1 h1 fun i' μ2 iv H2 h2 k2 r2 m2 => ?_⟩
  cases r1 with
  | ref p =>
    cases r2 with
    | int kk =>
      dsimp only at h2
      cases e : μ2 p with
      | none => rw [e] at h2; exact h2.elim
      | some oo =>
        cases oo with
        | ins _ _ => rw [e] at h2; exact h2.elim
        | dct _ => rw [e] at h2; exact h2.elim
        | lst xs =>
          rw [e] at h2
          dsimp only at h2
          cases e2 : ixN xs.length kk with
          | none => rw [e2] at h2; exact h2.elim
          | some j =>
            rw [e2] at h2
            obtain ⟨vs, hv, rv⟩ := m2 p xs e
            have kk' := k1.trans k2
            refine ⟨p, vs, kk, j, rfl, rfl, hv, by rw [← rv.length]; exact e2, k _ _ _ _ h2 (kk'.trans (Kp.wr hv)) (s.mono (kk'.trans (Kp.wr hv))) (m2.wr hv (rv.set (r.mono kk') j))⟩
    | _ => exact False.elim h2
  | _ => cases r2 <;> exact False.elim h2
end
end Pv

namespace Pv
open PySem PySem.Spec PyProof.Rows L2
/-! ### what is walked -/
/-- the iterator hands out the items of l as long as S holds of the lists -/
noncomputable def ItOk (K : Fg) (J : It) (l : List D) (S : Mu → Prop) (H0 : Hp) : Prop := ∀ i H μ, Kp H0 H → RelM K μ H → S μ →
  (∀ d, l[i]? = some d → J.go i H ∧ ∀ x H2, J.yld i H x H2 → Kp H H2 ∧ RelM K μ H2 ∧ RelD K H2 d x) ∧ (l.length ≤ i → J.stop i H)
noncomputable def RdI (K : Fg) (wi : TI) (ti : TI3) : Prop := ∀ σ H R ρ μ R3, RSt K H ρ σ → RelM K μ H → ti ρ μ R3 → (∀ l S μ' J H', R3 l S μ' → Kp H H' → RelM K μ' H' → ItOk K J l S H' → R J H') → wi σ H R
noncomputable def RI (X : Cx) (tg iter : Expr) (ti : TI3) : Prop := ∃ wi, PI X tg iter wi ∧ RdI X.K wi ti
section
variable {X : Cx} {tg iter a b c e : Expr} {ta tb te : TE3} {pos : Pos}
/-- the signs of a text -/
noncomputable def Its (z : Str) : It := ⟨fun i _ => i < z.cps.size, fun i H x H' => H' = H ∧ ∃ c, z.cps[i]? = some c ∧ x = .str ⟨#[c]⟩, fun i _ => z.cps.size ≤ i⟩
theorem turn_str {P : Program} {w : World} {K : Fg} {tg : Expr} (T : String) (x : Str) (t : Tok) (it : Addr)
    (hT : ["enumerate", "zip", "dict_itemiterator", "dict_reverseitemiterator", "odict_iterator", "itertools.zip_longest", "itertools.pairwise"].contains T = false)
    (W : ∀ A : Around, A.handled = none → Walks P w A it [it] [it] x.cps.size (SignAt x) (fun i h => h.IsStrIter it T x t i))
    (sf : ∀ (A : Around) (i : Nat) (s : Shared) (Q : Value → Shared → Prop) (E : Value → Shared → Prop), s.heap.IsStrIter it T x t i → Q (.ref it) s → wpAny (model P w) A (pyIter (.ref it)) Q E s) :
    Turn P w K tg (Its x) [it] it (fun i h => h.IsStrIter it T x t i ∧ i ≤ x.cps.size) where
  mem := by simp
  obj := fun i h st b hb => by
    have e : b = it := by simpa using hb
    subst e
    obtain ⟨⟨o, e, c, d⟩, _⟩ := st
    exact ⟨o, e, fun v z => by rw [d] at z; cases z⟩
  keep := fun i h h' st k => by
    obtain ⟨⟨o, e, c, d⟩, l⟩ := st
    exact ⟨⟨o, k it (by simp) o e, c, d⟩, l⟩
  item := by
    intro X hP hw hK hc i pins s σ H E I hf st hg
    subst hP hw hK
    obtain ⟨f0, f1, f2, f3, f4, f5⟩ := hf it (by simp)
    refine (W X.A (I.ok.hd hc)).item i s _ E hg st.1 fun v h' tk hP hst' hk => ?_
    obtain ⟨c, u, ec, rfl⟩ := hP
    have I1 : Inv X pins σ H { s with heap := h', toks := tk } := I.turned (t' := tk) (fun b o hb e => hk b o (by simpa using hb) e) f0 f1 f3 f4 f5
    obtain ⟨o, e, c1, d⟩ := id hst'
    exact ⟨_, rfl, go_of (s := { s with heap := h', toks := tk }) e c1 d hT ⟨.str ⟨#[c]⟩, H, I1, ⟨u, rfl⟩, ⟨rfl, c, ec, rfl⟩, ⟨hst', hg⟩, fun b hb => (hf b hb).1⟩⟩
  done := by
    intro X hP hw hK hc i pins s σ H E I hf st hg
    subst hP hw hK
    have hg' : x.cps.size ≤ i := hg
    obtain ⟨f0, f1, f2, f3, f4, f5⟩ := hf it (by simp)
    have e1 : i = x.cps.size := Nat.le_antisymm st.2 hg'
    subst e1
    exact (W X.A (I.ok.hd hc)).done s _ E st.1 fun h' tk hk => ⟨rfl, I.turned (t' := tk) (fun b o hb e => hk b o (by simpa using hb) e) f0 f1 f3 f4 f5⟩
  self := fun A i s Q E st h => sf A i s Q E st.1 h
/-- a list or a tuple -/
noncomputable def iSeq (K : Fg) (tl : TE) : TI := fun σ H R => tl σ H fun x H1 => (∃ z, x = .str z ∧ R (Its z) H1) ∨ ∃ a, x = .ref a ∧ (((∃ xs, SqL K H1 a xs) ∧ R (Itl K a) H1) ∨ ((∃ xs, SqT K H1 a xs) ∧ R (Itt K a) H1))
theorem pi_seq {l : Expr} {tl : TE} (hl : PE X l tl) : PI X tg l (iSeq X.K tl) := by
  intro pins s σ H R I h
  refine thn (hl pins s σ H _ I h) fun v s1 ⟨x, H1, I1, r1, q1⟩ => ?_
  have fp : ∀ b ∈ [s1.heap.objs.size], FpOk X pins H1 b := fun b hb => by
    have e : b = s1.heap.objs.size := by simpa using hb
    subst e
    exact I1.fpOk (Nat.le_refl _) (I1.hok.fresh (Nat.le_refl _))
  rcases q1 with ⟨z, e, q⟩ | ⟨a, e, q⟩
  · subst e
    obtain ⟨t, rfl⟩ := r1
    cases ha : z.cps.all (· < 128)
    · refine wpAny_pyIter_wide ha ?_
      exact ⟨s1.heap.objs.size, [s1.heap.objs.size], _, _, H1, rfl, I1.kept (t' := s1.toks) fun b o e => Heap.get?_push_of_some _ e, turn_str "str_iterator" z t _ (by decide) (fun A hA => Walks.strWide hA _ z t) (fun _ _ _ _ _ st h => wpAny_pyIter_striter_wide st h), ⟨⟨_, Heap.get?_push_size _ rfl, rfl, rfl⟩, Nat.zero_le _⟩, fp, q⟩
    · refine wpAny_pyIter_ascii ha ?_
      exact ⟨s1.heap.objs.size, [s1.heap.objs.size], _, _, H1, rfl, I1.kept (t' := s1.toks) fun b o e => Heap.get?_push_of_some _ e, turn_str "str_ascii_iterator" z t _ (by decide) (fun A hA => Walks.strAscii hA _ z t) (fun _ _ _ _ _ st h => wpAny_pyIter_striter_ascii st h), ⟨⟨_, Heap.get?_push_size _ rfl, rfl, rfl⟩, Nat.zero_le _⟩, fp, q⟩
  subst e
  cases r1
  rcases q with ⟨⟨xs, hq⟩, q⟩ | ⟨⟨xs, hq⟩, q⟩
  · obtain ⟨its, rv, p, hz⟩ := I1.list hq
    refine wpAny_pyIter_list p.isList ?_
    exact ⟨s1.heap.objs.size, [s1.heap.objs.size], _, _, H1, rfl, I1.kept (t' := s1.toks) fun b o e => Heap.get?_push_of_some _ e, turn_list a _, ⟨_, Heap.get?_push_size _ rfl, rfl, rfl⟩, fp, q⟩
  · obtain ⟨its, rv, p, hz⟩ := I1.tuple hq
    refine wpAny_pyIter_tuple (show s1.heap.IsTuple a its.toArray from p) ?_
    exact ⟨s1.heap.objs.size, [s1.heap.objs.size], _, _, H1, rfl, I1.kept (t' := s1.toks) fun b o e => Heap.get?_push_of_some _ e, turn_tuple a _, ⟨_, Heap.get?_push_size _ rfl, rfl, rfl⟩, fp, q⟩
theorem itok_tup {K : Fg} {H0 : Hp} {a : Addr} {l : List D} {vs : List V} (h : SqT K H0 a vs) (r : RelDs K H0 l vs) : ItOk K (Itt K a) l (fun _ => True) H0 := fun i H μ k m _ => by
  refine ⟨fun d e => ?_, fun hl => ⟨vs, SqT.mono k h, by rw [← r.length]; exact hl⟩⟩
  obtain ⟨v, e1, r1⟩ := r.get e
  refine ⟨⟨vs, v, SqT.mono k h, e1⟩, fun x H2 y => ?_⟩
  obtain ⟨rfl, y⟩ := y
  have e2 := y vs (SqT.mono k h)
  rw [e1] at e2; cases e2
  exact ⟨Kp.refl _, m, r1.mono k⟩
theorem itok_fls {K : Fg} {H0 : Hp} {a : Addr} {l : List D} {vs : List V} (h : SqF K H0 a vs) (r : RelDs K H0 l vs) : ItOk K (Itl K a) l (fun _ => True) H0 := fun i H μ k m _ => by
  refine ⟨fun d e => ?_, fun hl => ⟨vs, (SqF.mono k h).l, by rw [← r.length]; exact hl⟩⟩
  obtain ⟨v, e1, r1⟩ := r.get e
  refine ⟨⟨vs, v, (SqF.mono k h).l, e1⟩, fun x H2 y => ?_⟩
  obtain ⟨rfl, y⟩ := y
  have e2 := y vs (SqF.mono k h).l
  rw [e1] at e2; cases e2
  exact ⟨Kp.refl _, m, r1.mono k⟩
theorem itok_lst {K : Fg} {H0 : Hp} {a : Addr} {l : List D} : ItOk K (Itl K a) l (fun μ => μ a = some (.lst l)) H0 := fun i H μ k m s => by
  obtain ⟨vs, h, r⟩ := m a l s
  refine ⟨fun d e => ?_, fun hl => ⟨vs, SqL.of h, by rw [← r.length]; exact hl⟩⟩
  obtain ⟨v, e1, r1⟩ := r.get e
  refine ⟨⟨vs, v, SqL.of h, e1⟩, fun x H2 y => ?_⟩
  obtain ⟨rfl, y⟩ := y
  have e2 := y vs (SqL.of h)
  rw [e1] at e2; cases e2
  exact ⟨Kp.refl _, m, r1⟩
theorem itok_str {K : Fg} {H0 : Hp} (z : Str) : ItOk K (Its z) (z.cps.toList.map fun c => D.str ⟨#[c]⟩) (fun _ => True) H0 := fun i H μ k m _ => by
  refine ⟨fun d e => ?_, fun hl => by show z.cps.size ≤ i; simpa using hl⟩
  rw [List.getElem?_map, Array.getElem?_toList] at e
  cases ec : z.cps[i]? with
  | none => rw [ec] at e; cases e
  | some c =>
    rw [ec] at e
    cases e
    refine ⟨?_, fun x H2 y => ?_⟩
    · show i < z.cps.size
      rcases Nat.lt_or_ge i z.cps.size with h | h
      · exact h
      · rw [Array.getElem?_eq_none h] at ec; cases ec
    · obtain ⟨rfl, c', ec', rfl⟩ := y
      rw [ec] at ec'; cases ec'
      exact ⟨Kp.refl _, m, .str _⟩
theorem ri_seq (ha : RE X a ta) : RI X tg a (is3 ta) := by
  obtain ⟨va, pa, ra⟩ := ha
  refine ⟨_, pi_seq pa, fun σ H R ρ μ R3 s m h k => ra σ H _ ρ μ _ s m h fun d μ1 v H1 h1 k1 r1 m1 => ?_⟩
  cases r1 with
  | str z => exact .inl ⟨z, rfl, k _ _ _ _ _ h1 k1 m1 (itok_str z)⟩
  | tup hq rs => exact .inr ⟨_, rfl, .inr ⟨⟨_, hq⟩, k _ _ _ _ _ h1 k1 m1 (itok_tup hq rs)⟩⟩
  | fls hq rs => exact .inr ⟨_, rfl, .inl ⟨⟨_, hq.l⟩, k _ _ _ _ _ h1 k1 m1 (itok_fls hq rs)⟩⟩
  | ref p =>
    dsimp only at h1
    cases e : μ1 p with
    | none => rw [e] at h1; exact h1.elim
    | some oo =>
      cases oo with
      | ins _ _ => rw [e] at h1; exact h1.elim
      | dct _ => rw [e] at h1; exact h1.elim
      | lst xs =>
        rw [e] at h1
        obtain ⟨vs, hv, rv⟩ := m1 p xs e
        exact .inr ⟨_, rfl, .inl ⟨⟨_, SqL.of hv⟩, k _ _ _ _ _ h1 k1 m1 itok_lst⟩⟩
  | _ => exact False.elim h1
theorem rngD_get (lo : Int) (n i : Nat) : (rngD lo n)[i]? = if i < n then some (.int (lo + i)) else none := by
  unfold rngD
  rw [List.getElem?_map]
  by_cases h : i < n
  · rw [List.getElem?_range h, if_pos h]; rfl
  · rw [List.getElem?_eq_none (by simpa using h), if_neg h]; rfl
theorem rngD_len (lo : Int) (n : Nat) : (rngD lo n).length = n := by simp [rngD]
theorem itok_rng {K : Fg} {H0 : Hp} (lo : Int) (n : Nat) : ItOk K (Itr lo n) (rngD lo n) (fun _ => True) H0 := fun i H μ k m _ => by
  refine ⟨fun d e => ?_, fun hl => by rw [rngD_len] at hl; exact hl⟩
  rw [rngD_get] at e
  split at e
  · next h =>
    cases e
    refine ⟨h, fun x H2 y => ?_⟩
    obtain ⟨rfl, rfl⟩ := y
    exact ⟨Kp.refl _, m, .int _⟩
  · cases e
theorem ri_range1 {p : Pos} (hm : X.mg "range" = none) (ha : RE X a ta) (hg : Gl X "range" := by rfl) (hs : starEach [a] X.env = [(false, eval a X.env)] := by rfl) : RI X tg (.Call (.Name "range" p) [a] [] pos) (ir3 (cons3 ta nil3)) := by
  obtain ⟨va, pa, ra⟩ := ra_cons ha ra_nil hs
  refine ⟨_, pi_range1 hg hm pa hs, fun σ H R ρ μ R3 s m h k => ra σ H _ ρ μ _ s m h fun ds μ1 vs H1 h1 k1 r1 m1 => ?_⟩
  cases r1 with
  | nil => exact False.elim h1
  | cons r1 r2 =>
    cases r2 with
    | cons _ _ => cases r1 <;> exact False.elim h1
    | nil =>
      cases r1 with
      | int j => exact ⟨j, rfl, h1.1.1, h1.1.2, k _ _ _ _ _ h1.2 k1 m1 (itok_rng _ _)⟩
      | _ => exact False.elim h1
theorem ri_range2 {p : Pos} (hm : X.mg "range" = none) (ha : RE X a ta) (hb : RE X b tb) (hg : Gl X "range" := by rfl) (hs : starEach [a, b] X.env = [(false, eval a X.env), (false, eval b X.env)] := by rfl) (hs2 : starEach [b] X.env = [(false, eval b X.env)] := by rfl) :
    RI X tg (.Call (.Name "range" p) [a, b] [] pos) (ir23 (cons3 ta (cons3 tb nil3))) := by
  obtain ⟨va, pa, ra⟩ := ra_cons ha (ra_cons hb ra_nil hs2) (by rw [hs, hs2])
  refine ⟨_, pi_range2 hg hm pa hs hs2, fun σ H R ρ μ R3 s m h k => ra σ H _ ρ μ _ s m h fun ds μ1 vs H1 h1 k1 r1 m1 => ?_⟩
  split at h1
  · next i j =>
    cases r1 with
    | cons r1 r2 =>
      cases r2 with
      | cons r2 r3 =>
        cases r3
        cases r1
        cases r2
        exact ⟨i, j, rfl, h1.1, k _ _ _ _ _ h1.2 k1 m1 (itok_rng _ _)⟩
  · exact h1.elim
/-! ### for, while -/
theorem rs_for {body : List Stmt} {ti : TI3} {g : TG3} {tb : TS3} (hp : PassesOwn (model X.prog X.w) X.A X.env X.xe) (hc : X.calm = true) (hi : RI X tg iter ti) (hg : RG X tg g) (hb : RSs X body tb)
    (hs : ∀ x, foldedSetIterable iter X.env x = pure x := by intro _; rfl) : RS X (.For tg iter body [] pos) (for3 ti g tb) := by
  obtain ⟨wi, pi, ri⟩ := hi
  obtain ⟨vg, pg, rg⟩ := hg
  obtain ⟨vb, pb, rb⟩ := hb
  refine ⟨_, ps_for hp hc pi pg pb hs, fun σ H D ρ μ D3 s m h k => ri σ H _ ρ μ _ s m h fun l S μ1 J H1 h1 k1 m1 ok => ?_⟩
  refine ⟨fun i n σ2 H2 => n = l.length - i ∧ i ≤ l.length ∧ ∃ ρ2 μ2, RSt X.K H2 ρ2 σ2 ∧ RelM X.K μ2 H2 ∧ Kp H1 H2 ∧ forS3 S g tb D3 (l.drop i) ρ2 μ2, ⟨l.length, rfl, Nat.zero_le _, ρ, μ1, s.mono k1, m1, Kp.refl _, h1⟩, ?_⟩
  rintro i n σ2 H2 ⟨rfl, hi, ρ2, μ2, s2, m2, k2, h2⟩
  by_cases hlt : i < l.length
  · rw [List.drop_eq_getElem_cons hlt] at h2
    obtain ⟨hS, N, hN, h2⟩ := h2
    obtain ⟨ok1, _⟩ := ok i H2 μ2 k2 m2 hS
    obtain ⟨go, yl⟩ := ok1 l[i] (List.getElem?_eq_getElem hlt)
    refine .inr ⟨go, fun σ3 H3 => ∃ ρ3 μ3, N ρ3 μ3 ∧ RSt X.K H3 ρ3 σ3 ∧ RelM X.K μ3 H3 ∧ Kp H1 H3, fun σ3 H3 ⟨ρ3, μ3, hn, s3, m3, k3⟩ => ⟨l.length - (i + 1), by omega, rfl, hlt, ρ3, μ3, s3, m3, k3, hN _ _ hn⟩, fun x H3 y => ?_⟩
    obtain ⟨k3, m3, r3⟩ := yl x H3 y
    refine rg x l[i] σ2 H3 _ ρ2 μ2 _ (s2.mono k3) m3 r3 h2 fun ρ4 μ4 σ4 H4 h4 k4 s4 m4 => ?_
    have k14 : Kp H1 H4 := k2.trans (k3.trans k4)
    exact rb σ4 H4 _ ρ4 μ4 _ s4 m4 h4 ⟨fun ρ5 μ5 σ5 H5 h5 k5 s5 m5 => ⟨ρ5, μ5, h5, s5, m5, k14.trans k5⟩, fun ρ5 μ5 σ5 H5 h5 k5 s5 m5 => k.nx _ _ _ _ h5 (k1.trans (k14.trans k5)) s5 m5,
      fun ρ5 μ5 σ5 H5 h5 k5 s5 m5 => ⟨ρ5, μ5, h5, s5, m5, k14.trans k5⟩, fun d μ5 v H5 h5 k5 r5 m5 => k.rt _ _ _ _ h5 (k1.trans (k14.trans k5)) r5 m5⟩
  · have e : i = l.length := by omega
    subst e
    rw [List.drop_length] at h2
    obtain ⟨hS, h2⟩ := h2
    exact .inl ⟨(ok _ H2 μ2 k2 m2 hS).2 (Nat.le_refl _), k.nx _ _ _ _ h2 (k1.trans k2) s2 m2⟩
/-! ### calls -/
noncomputable def lift (K : Fg) (sp : Sp3) : Sp := fun vs H Q _ => ∃ ds μ Q3, RelDs K H ds vs ∧ RelM K μ H ∧ sp ds μ Q3 ∧ Ks K H Q3 Q
/-- a def of the text keeps a promise (k: frames) -/
noncomputable def Cal (P : Program) (w : World) (K : Fg) (mg : Str → Option Value) (base : Heap) (k : Nat) (x : Str) (ps : List Str) (sp : Sp3) : Prop :=
  ∃ f fd, FnOk P w K mg base CX0 k f fd ps (lift K sp) ∧ mg x = some (.ref f) ∧ PySem.W.keepIn K (.ref f) = true ∧ Binds K fd ps []
theorem Cal.mono {P : Program} {w : World} {K : Fg} {mg : Str → Option Value} {base : Heap} {j k : Nat} {x : Str} {ps : List Str} {sp : Sp3} (c : Cal P w K mg base j x ps sp) (h : j ≤ k) : Cal P w K mg base k x ps sp := by
  obtain ⟨f, fd, F, r⟩ := c
  exact ⟨f, fd, F.mono h, r⟩
variable {es : List Expr} {t : TA3} {x : Str} {p : Pos}
theorem re_call {k : Nat} {ps : List Str} {sp : Sp3} (c : Cal X.prog X.w X.K X.mg X.base k x ps sp) (hr : Room k X.A) (ha : RA X (e :: es) t) (hg : Gl X x := by rfl) (hdb : (x == ("__debug__" : Str)) = false := by decide)
    (he : starEach (e :: es) X.env = (false, eval e X.env) :: starEach es X.env := by rfl) (hpl : (backTo pos (starEach es X.env)).any (·.1) = false := by rfl) : RE X (.Call (.Name x p) (e :: es) [] pos) (call3 sp t) := by
  obtain ⟨f, fd, F, hm, hk, hb⟩ := c
  obtain ⟨va, pa, ra⟩ := ha
  refine ⟨_, pe_call F hr hg hm hk hb .nil pass0 pa hdb he hpl, fun σ H Q ρ μ Q3 s m h k => ra σ H _ ρ μ _ s m h fun ds μ1 vs H1 h1 k1 r1 m1 => ?_⟩
  rw [List.append_nil]
  exact ⟨ds, μ1, Q3, r1, m1, h1, k.after k1⟩
theorem re_callB {r : C3} {id : String} (hc : RC X (.builtin id) r) (hm : X.mg x = none) (hv : bootBuiltins x = some (.builtin id)) (ha : RA X (e :: es) t) (hg : Gl X x := by rfl) (hn : x ≠ "__name__" := by decide) (hdb : (x == ("__debug__" : Str)) = false := by decide)
    (he : starEach (e :: es) X.env = (false, eval e X.env) :: starEach es X.env := by rfl) (hpl : (backTo pos (starEach es X.env)).any (·.1) = false := by rfl) : RE X (.Call (.Name x p) (e :: es) [] pos) (call3 r t) := by
  obtain ⟨r', pc, rc⟩ := hc
  obtain ⟨va, pa, ra⟩ := ha
  exact ⟨_, pe_callB pc hg hm hv pa hn hdb he hpl, fun σ H Q ρ μ Q3 s m h k => ra σ H _ ρ μ _ s m h fun ds μ1 vs H1 h1 k1 r1 m1 => rc ds vs H1 Q μ1 Q3 m1 r1 h1 (k.after k1)⟩
theorem re_callTy {r : C3} {T : String} (hc : RC X (.type T) r) (hm : X.mg x = none) (hv : bootBuiltins x = some (.type T)) (ha : RA X (e :: es) t) (hg : Gl X x := by rfl) (hn : x ≠ "__name__" := by decide) (hdb : (x == ("__debug__" : Str)) = false := by decide)
    (he : starEach (e :: es) X.env = (false, eval e X.env) :: starEach es X.env := by rfl) (hpl : (backTo pos (starEach es X.env)).any (·.1) = false := by rfl) : RE X (.Call (.Name x p) (e :: es) [] pos) (call3 r t) := by
  obtain ⟨r', pc, rc⟩ := hc
  obtain ⟨va, pa, ra⟩ := ha
  exact ⟨_, pe_callTy pc hg hm hv pa hn hdb he hpl, fun σ H Q ρ μ Q3 s m h k => ra σ H _ ρ μ _ s m h fun ds μ1 vs H1 h1 k1 r1 m1 => rc ds vs H1 Q μ1 Q3 m1 r1 h1 (k.after k1)⟩
theorem re_ix {r3 : R3} (hx : RX X r3) (ha : RE X a ta) (hb : RE X b tb) (hs : PlainIx b := by intro _ _; rfl) : RE X (.Subscript a b pos) (o3 r3 ta tb) := by
  obtain ⟨r, po, ro⟩ := hx
  obtain ⟨va, pa, ra⟩ := ha
  obtain ⟨vb, pb, rb⟩ := hb
  exact ⟨_, pe_ix po pa pb hs, ra.op rb ro⟩
end
/-! ### a def -/
section
variable {P : Program} {w : World} {K : Fg} {mg : Str → Option Value} {base : Heap}
theorem fnok_of {x : Str} {st : Stmt} {f : Addr} {fd : FuncData} {N ps : List Str} {k : Nat} {sp : Sp3} {t : TS3} (F : Fun K x x st f fd) (S : FnScope N ps (defScope st))
    (len : ∀ ds μ Q, sp ds μ Q → ds.length = ps.length)
    (body : ∀ (cdv : Value) (A : Around) (outer : List Env) (s : Shared) (H : Hp) (E : XK), Room k (A.deeper (envOfC x (defScope st) s.heap.objs.size f cdv)) → RSs (cxOf CX0 P w K mg base N x (defScope st) f cdv A outer s H E).nox (defBody st) t)
    (rd : ∀ ds μ Q, sp ds μ Q → t { nx := fun _ μ' => Q .non μ', rt := Q } (start3 N ds) μ) : FnOk P w K mg base CX0 (k + 1) f fd ps (lift K sp) := by
  refine F.ok S (fun vs H Q E h => ?_) (fun cdv A outer s H vs Q E hr h => ?_)
  · obtain ⟨ds, μ, Q3, r, m, q, ks⟩ := h
    rw [← r.length]; exact len _ _ _ q
  · obtain ⟨ds, μ, Q3, r, m, q, ks⟩ := h
    obtain ⟨tv, p, rt⟩ := body cdv A outer s H E hr
    exact ⟨tv, p, rt _ H _ _ μ _ (RSt.start N r) m (rd ds μ Q3 q) ⟨fun ρ μ' σ H' h' k' s' m' => ks _ _ _ _ h' k' .non m', fun ρ μ' σ H' h' => False.elim h', fun ρ μ' σ H' h' => False.elim h', ks⟩⟩
theorem cal_of {x : Str} {st : Stmt} {f : Addr} {fd : FuncData} {N ps : List Str} {k : Nat} {sp : Sp3} {t : TS3} (F : Fun K x x st f fd) (hm : mg x = some (.ref f)) (hb : Binds K fd ps []) (S : FnScope N ps (defScope st))
    (len : ∀ ds μ Q, sp ds μ Q → ds.length = ps.length)
    (body : ∀ (cdv : Value) (A : Around) (outer : List Env) (s : Shared) (H : Hp) (E : XK), Room k (A.deeper (envOfC x (defScope st) s.heap.objs.size f cdv)) → RSs (cxOf CX0 P w K mg base N x (defScope st) f cdv A outer s H E).nox (defBody st) t)
    (rd : ∀ ds μ Q, sp ds μ Q → t { nx := fun _ μ' => Q .non μ', rt := Q } (start3 N ds) μ) : Cal P w K mg base (k + 1) x ps sp :=
  ⟨f, fd, fnok_of F S len body rd, hm, F.kp, hb⟩
end
end Pv

namespace Pv
open PySem PySem.Spec PyProof.Rows L2
section
variable {X : Cx}
/-! ### ints -/
theorem RdO.i0 {K : Fg} {g3 : Int → Int → D} {g : Int → Int → V} (hg : ∀ i j H, RelD K H (g3 i j) (g i j)) : RdO K (rI0 g) (int20 g3) := fun x y v u H Q μ Q3 m rx ry h k => by
  cases rx with
  | int i =>
    cases ry with
    | int j => exact ⟨i, j, rfl, rfl, k _ _ _ _ h (Kp.refl _) (hg i j H) m⟩
    | _ => exact False.elim h
  | _ => cases ry <;> exact False.elim h
theorem RdO.i2 {K : Fg} {C : Int → Int → Prop} {g3 : Int → Int → D} {g : Int → Int → V} (hg : ∀ i j H, RelD K H (g3 i j) (g i j)) : RdO K (rI C g) (int2 C g3) := fun x y v u H Q μ Q3 m rx ry h k => by
  cases rx with
  | int i =>
    cases ry with
    | int j => exact ⟨i, j, rfl, rfl, h.1, k _ _ _ _ h.2 (Kp.refl _) (hg i j H) m⟩
    | _ => exact False.elim h
  | _ => cases ry <;> exact False.elim h
theorem q_sub : RO X (binaryOp .Sub) subR := ⟨_, op_sub, RdO.i0 fun _ _ _ => .int _⟩
theorem q_mod : RO X (binaryOp .Mod) modR := ⟨_, op_mod, RdO.i2 fun _ _ _ => .int _⟩
theorem q_pow : RO X (binaryOp .Pow) powR := ⟨_, op_pow, RdO.i2 fun _ _ _ => .int _⟩
theorem log2_lt {n k : Nat} (hk : 0 < k) (h : n < 2 ^ k) : n.log2 < k := by
  rcases Nat.eq_zero_or_pos n with h0 | hp
  · rw [h0]; simpa using hk
  · exact (Nat.log2_lt (Nat.ne_of_gt hp)).mpr h
theorem op_fdivB : OpR X (binaryOp .FloorDiv) (rI (fun _ j => 0 < j ∧ j < 2 ^ 120) fun i j => .int (i / j)) := opI fun i j _ _ _ _ _ hc q => by
  have h1 : (0 : Int) < j := hc.1
  have h2 : j < 2 ^ 120 := hc.2
  refine floordiv_int (by omega) (by rw [Int.fdiv_eq_ediv_of_nonneg i (by omega)]; exact q) (.inl (PyProof.noPylong_of_log2 ?_))
  have h3 : j.natAbs < 2 ^ 120 := by omega
  exact Nat.lt_trans (log2_lt (by decide) h3) (by decide)
theorem q_fdiv : RO X (binaryOp .FloorDiv) fdivR := ⟨_, op_fdivB, RdO.i2 fun _ _ _ => .int _⟩
theorem CMul.mulok {i j : Int} (h : CMul i j) : IntMulOk i j := by
  rcases h with h | ⟨h1, h2⟩
  · exact L2.CMul.ok h
  · unfold IntMulOk
    intro e
    rw [Bool.and_eq_true] at e
    have e2 := e.2
    unfold Builtin.Int.intTooBig at e2
    have hb : ∀ x : Int, x.natAbs < Big → Builtin.Int.intBits x ≤ 1000 := fun x hx => by
      unfold Builtin.Int.intBits
      split
      · exact Nat.zero_le _
      · exact log2_lt (by decide) hx
    have b1 := hb i h1
    have b2 := hb j h2
    have e3 := of_decide_eq_true e2
    have e4 : (2000 : Nat) < bitsLine := by decide
    omega
theorem op_mulB : OpR X (binaryOp .Mult) (rI CMul fun i j => .int (i * j)) := opI fun _ _ _ _ _ _ _ hc q => mul_int q hc.mulok
theorem q_neg : RU X (unaryOp .USub) negR := ⟨_, un_neg, fun x v H Q μ Q3 m r h k => by
  cases r with
  | int i => exact ⟨i, rfl, k _ _ _ _ h (Kp.refl _) (.int _) m⟩
  | _ => exact False.elim h⟩
theorem q_lt : RO X (compareOp .Lt) ltR := ⟨_, op_lt, RdO.i0 fun _ _ _ => .bl _⟩
theorem q_le : RO X (compareOp .LtE) leR := ⟨_, op_le, RdO.i0 fun _ _ _ => .bl _⟩
theorem q_gt : RO X (compareOp .Gt) gtR := ⟨_, op_gt, RdO.i0 fun _ _ _ => .bl _⟩
theorem q_ge : RO X (compareOp .GtE) geR := ⟨_, op_ge, RdO.i0 fun _ _ _ => .bl _⟩
/-! ### + -/
/-- t + u, any -/
noncomputable def rCatA (K : Fg) : R2 := fun x y H Q => ∃ a b xs ys, x = .ref a ∧ y = .ref b ∧ SqT K H a xs ∧ SqT K H b ys ∧ xs.length + ys.length ≤ sizeLine ∧
  (xs = [] → Q (.ref b) H) ∧ (ys = [] → Q (.ref a) H) ∧ (∀ p, H p = none → Q (.ref p) (upd H p (.tup (xs ++ ys))))
theorem op_catA : OpR X (binaryOp .Add) (rCatA X.K) := by
  intro pins s σ H x y v u Q I rx ry h
  obtain ⟨a, b, xs, ys, rfl, rfl, ha, hb, hz, q1, q2, q3⟩ := h
  by_cases hx : xs = []
  · cases rx
    cases ry
    obtain ⟨its, r, ht, _⟩ := I.tuple ha
    obtain ⟨its2, r2, ht2, _⟩ := I.tuple hb
    have hi : its = [] := by subst hx; cases r; rfl
    obtain ⟨⟨cls, dd, data, sl⟩, ho, hc, n, hd⟩ := id ht
    obtain ⟨⟨cls2, dd2, data2, sl2⟩, ho2, hc2, n2, hd2⟩ := id ht2
    simp only at hc hd hc2 hd2
    subst hc hd hc2 hd2
    exact concat_meets ⟨_, ho, rfl⟩ ⟨_, ho2, rfl⟩ noFill_tuple_add seq_tuple_add PySem.F.slot_tuple_add PySem.F.entry_tuple_add (PySem.F.args_tuple_add_2 _ _)
      (tuple_addW0 a b its.toArray its2.toArray n n2 dd dd2 sl sl2 (by simp [hi])) ⟨ho, ho2, ⟨.ref b, H, I, rfl, q1 hx⟩⟩
  · exact op_catT pins s σ H _ _ v u Q I rx ry ⟨a, b, xs, ys, rfl, rfl, ha, hb, hx, hz, q2, fun _ => q3⟩
theorem q_add : RO X (binaryOp .Add) addR := by
  refine ⟨_, (op_add.or op_add_str).or (op_cat.or op_catA), fun x y v u H Q μ Q3 m rx ry h k => ?_⟩
  cases rx with
  | int i =>
    cases ry with
    | int j => exact .inl (.inl ⟨i, j, rfl, rfl, k _ _ _ _ h (Kp.refl _) (.int _) m⟩)
    | _ => exact False.elim h
  | str i =>
    cases ry with
    | str j => exact .inl (.inr ⟨i, j, rfl, rfl, h.1, k _ _ _ _ h.2 (Kp.refl _) (.str _) m⟩)
    | _ => exact False.elim h
  | ref p =>
    cases ry with
    | ref q =>
      dsimp only [addR] at h
      cases e : μ p with
      | none => rw [e] at h; exact h.elim
      | some oo =>
        cases oo with
        | ins _ _ => rw [e] at h; exact h.elim
        | dct _ => rw [e] at h; exact h.elim
        | lst xs =>
          cases e2 : μ q with
          | none => rw [e, e2] at h; exact h.elim
          | some o2 =>
            cases o2 with
            | ins _ _ => rw [e, e2] at h; exact h.elim
            | dct _ => rw [e, e2] at h; exact h.elim
            | lst ys =>
              rw [e, e2] at h
              obtain ⟨vs, hv, rv⟩ := m p xs e
              obtain ⟨us, hu, ru⟩ := m q ys e2
              refine .inr (.inl ⟨p, q, vs, us, rfl, rfl, hv, hu, by rw [← rv.length, ← ru.length]; exact h.1, fun t ht => ?_⟩)
              exact k _ _ _ _ (h.2 t (m.free ht)) (Kp.new ht) (.ref t) (m.newL ht (rv.append ru))
    | _ => exact False.elim h
  | tup hq rs =>
    cases ry with
    | tup hq2 rs2 =>
      rename_i a l vs b l2 us
      refine .inr (.inr ⟨a, b, vs, us, rfl, rfl, hq, hq2, by rw [← rs.length, ← rs2.length]; exact h.1, fun e => ?_, fun e => ?_, fun t ht => ?_⟩)
      · subst e; cases rs
        exact k _ _ _ _ h.2 (Kp.refl _) (.tup hq2 rs2) m
      · subst e; cases rs2
        have h2 := h.2
        rw [List.append_nil] at h2
        exact k _ _ _ _ h2 (Kp.refl _) (.tup hq rs) m
      · exact k _ _ _ _ h.2 (Kp.new ht) (.tup (SqT.of upd_same) ((rs.append rs2).mono (Kp.new ht))) (m.newT ht)
    | _ => exact False.elim h
  | _ => cases ry <;> exact False.elim h
/-! ### a[i] -/
theorem RelDs.atI {K : Fg} {H : Hp} {l : List D} {vs : List V} {i : Int} {d : D} (r : RelDs K H l vs) (e : Pv.atI l i = some d) : ∃ v, L2.atI vs i = some v ∧ RelD K H d v := by
  unfold Pv.atI at e
  unfold L2.atI
  rw [ixN_eq, ← r.length]
  cases q : ixN l.length i with
  | none => rw [q] at e; cases e
  | some j =>
    rw [q] at e
    exact r.get e
theorem q_ix : RX X ixR := by
  refine ⟨_, ix_list.or ix_tup, fun x y v u H Q μ Q3 m rx ry h k => ?_⟩
  cases ry with
  | int i =>
    cases rx with
    | tup hq rs =>
      rename_i a l vs
      dsimp only [ixR] at h
      cases e : Pv.atI l i with
      | none => rw [e] at h; exact h.elim
      | some d =>
        rw [e] at h
        obtain ⟨w, e1, r1⟩ := rs.atI e
        exact .inr ⟨a, vs, i, w, rfl, rfl, hq, e1, k _ _ _ _ h (Kp.refl _) r1 m⟩
    | fls hq rs =>
      rename_i a l vs
      dsimp only [ixR] at h
      cases e : Pv.atI l i with
      | none => rw [e] at h; exact h.elim
      | some d =>
        rw [e] at h
        obtain ⟨w, e1, r1⟩ := rs.atI e
        exact .inl ⟨a, vs, i, w, rfl, rfl, hq.l, e1, k _ _ _ _ h (Kp.refl _) r1 m⟩
    | ref p =>
      dsimp only [ixR] at h
      cases e0 : μ p with
      | none => rw [e0] at h; exact h.elim
      | some oo =>
        cases oo with
        | ins _ _ => rw [e0] at h; exact h.elim
        | dct _ => rw [e0] at h; exact h.elim
        | lst l =>
          rw [e0] at h
          dsimp only at h
          obtain ⟨vs, hv, rs⟩ := m p l e0
          cases e : Pv.atI l i with
          | none => rw [e] at h; exact h.elim
          | some d =>
            rw [e] at h
            obtain ⟨w, e1, r1⟩ := rs.atI e
            exact .inl ⟨p, vs, i, w, rfl, rfl, SqL.of hv, e1, k _ _ _ _ h (Kp.refl _) r1 m⟩
    | _ => exact False.elim h
  | _ => cases rx <;> exact False.elim h
/-! ### in a tuple of texts -/
theorem strs_rel {K : Fg} {H : Hp} : ∀ {l : List D} {vs : List V} {zs : List Str}, RelDs K H l vs → strs? l = some zs → vs = zs.map V.str
  | _, _, zs, .nil, e => by simp [strs?] at e; subst e; rfl
  | _, _, zs, .cons h r, e => by
    cases h with
    | str x =>
      simp only [strs?] at e
      split at e
      · next ys e1 =>
        simp only [Option.some.injEq] at e
        subst e
        rw [strs_rel r e1]; rfl
      · cases e
    | _ => simp [strs?] at e
theorem inV_strs (z : Str) (zs : List Str) : inV (.str z) (zs.map V.str) = zs.contains z := by
  unfold inV
  rw [List.any_map]
  induction zs with
  | nil => rfl
  | cons y r ih =>
    rw [List.any_cons, ih, List.contains_cons]
    congr 1
    show (y == z) = (z == y)
    rw [Bool.eq_iff_iff, beq_iff_eq, beq_iff_eq]
    exact eq_comm
theorem flat_strs (zs : List Str) : (zs.map V.str).all flatV = true := by
  rw [List.all_map, List.all_eq_true]; intro _ _; rfl
/-! ### built-in functions -/
theorem q_len : RC X (.builtin "len") lenR := by
  refine ⟨_, call_len_seq.or call_len_str, fun xs vs H Q μ Q3 m r h k => ?_⟩
  cases r with
  | nil => exact False.elim h
  | cons r1 r2 =>
    cases r2 with
    | cons _ _ => cases r1 <;> exact False.elim h
    | nil =>
      cases r1 with
      | tup hq rs =>
        rename_i a l vs
        refine .inl ⟨a, vs, rfl, .inr hq, ?_⟩
        rw [← rs.length]
        exact k _ _ _ _ h (Kp.refl _) (.int _) m
      | fls hq rs =>
        rename_i a l vs
        refine .inl ⟨a, vs, rfl, .inl hq.l, ?_⟩
        rw [← rs.length]
        exact k _ _ _ _ h (Kp.refl _) (.int _) m
      | str z => exact .inr ⟨z, rfl, h.1, k _ _ _ _ h.2 (Kp.refl _) (.int _) m⟩
      | ref p =>
        dsimp only [lenR] at h
        cases e : μ p with
        | none => rw [e] at h; exact h.elim
        | some oo =>
          cases oo with
          | ins _ _ => rw [e] at h; exact h.elim
          | dct _ => rw [e] at h; exact h.elim
          | lst l =>
            rw [e] at h
            obtain ⟨vs, hv, rs⟩ := m p l e
            refine .inl ⟨p, vs, rfl, .inl (SqL.of hv), ?_⟩
            rw [← rs.length]
            exact k _ _ _ _ h (Kp.refl _) (.int _) m
      | _ => exact False.elim h
theorem q_abs : RC X (.builtin "abs") absR := by
  refine ⟨_, call_abs, fun xs vs H Q μ Q3 m r h k => ?_⟩
  cases r with
  | nil => exact False.elim h
  | cons r1 r2 =>
    cases r2 with
    | cons _ _ => cases r1 <;> exact False.elim h
    | nil =>
      cases r1 with
      | int i => exact ⟨i, rfl, k _ _ _ _ h (Kp.refl _) (.int _) m⟩
      | _ => exact False.elim h
end
end Pv

namespace Pv
open PySem PySem.Spec PyProof.Rows L2
section
variable {X : Cx} {pins : List (Addr × Obj)} {σ : L2.St} {H : Hp} {s : Shared}
/-! ### == -/
mutual
theorem reads_of (I : Inv X pins σ H s) : ∀ {d : D} {v : V} {p : PyData} {u : Value}, RelD X.K H d v → dat d = some p → RelV v u → ∃ as, Reads s.heap u p as
  | _, _, p, u, .non, e, r => by simp only [dat, Option.some.injEq] at e; subst e; cases r; exact ⟨_, Reads.none⟩
  | _, _, p, u, .bl b, e, r => by simp only [dat, Option.some.injEq] at e; subst e; cases r; exact ⟨_, Reads.bool b⟩
  | _, _, p, u, .int i, e, r => by simp only [dat, Option.some.injEq] at e; subst e; obtain ⟨t, rfl⟩ := r; exact ⟨_, Reads.int i t⟩
  | _, _, p, u, .str x, e, r => by
    simp only [dat] at e
    split at e
    · simp only [Option.some.injEq] at e; subst e; obtain ⟨t, rfl⟩ := r; exact ⟨_, Reads.str x t⟩
    · cases e
  | _, _, p, u, .ref a, e, r => by simp [dat] at e
  | _, _, p, u, .ty n, e, r => by simp [dat] at e
  | _, _, p, u, .fls _ _, e, r => by simp [dat] at e
  | _, _, p, u, .exc _ _ _, e, r => by simp [dat] at e
  | _, _, p, u, .tup hq rs, e, r => by
    simp only [dat] at e
    split at e
    · next ps e1 =>
      simp only [Option.some.injEq] at e; subst e
      cases r
      obtain ⟨its, rv, ⟨o, ho, hc, n, hd⟩, hz⟩ := I.tuple hq
      obtain ⟨as, q⟩ := readsAll_of I rs e1 rv
      exact ⟨_, Reads.tuple ho hc hd (by simpa using q)⟩
    · cases e
theorem readsAll_of (I : Inv X pins σ H s) : ∀ {l : List D} {vs : List V} {ps : List PyData} {us : List Value}, RelDs X.K H l vs → dats l = some ps → Vals vs us → ∃ as, ReadsAll s.heap us ps as
  | _, _, ps, us, .nil, e, r => by simp only [dats, Option.some.injEq] at e; subst e; cases r; exact ⟨_, ReadsAll.nil⟩
  | _, _, ps, us, .cons h rs, e, r => by
    simp only [dats] at e
    split at e
    · next p e1 =>
      split at e
      · next qs e2 =>
        simp only [Option.some.injEq] at e; subst e
        cases r with
        | cons r1 r2 =>
          obtain ⟨as, q1⟩ := reads_of I h e1 r1
          obtain ⟨bs, q2⟩ := readsAll_of I rs e2 r2
          exact ⟨_, ReadsAll.cons q1 q2⟩
      · cases e
    · cases e
end
theorem readsM_of (I : Inv X pins σ H s) {μ : Mu} (m : RelM X.K μ H) {d : D} {v : V} {p : PyData} {u : Value} (h : RelD X.K H d v) (e : datM μ d = some p) (r : RelV v u) : ∃ as, Reads s.heap u p as := by
  cases h with
  | ref a =>
    simp only [datM] at e
    split at e
    · next l e0 =>
      split at e
      · next ps e1 =>
        simp only [Option.some.injEq] at e; subst e
        cases r
        obtain ⟨vs, hv, rs⟩ := m a l e0
        obtain ⟨its, rv, pl, hz⟩ := I.list (SqL.of hv)
        obtain ⟨o, ho, hc, n, hd⟩ := pl.isList
        obtain ⟨as, q⟩ := readsAll_of I rs e1 rv
        exact ⟨_, Reads.list ho hc hd (by simpa using q)⟩
      · cases e
    · cases e
  | non => exact reads_of I .non e r
  | bl b => exact reads_of I (.bl b) e r
  | int i => exact reads_of I (.int i) e r
  | str x => exact reads_of I (.str x) e r
  | ty n => exact reads_of I (.ty n) e r
  | tup hq rs => exact reads_of I (.tup hq rs) e r
  | fls hq rs => exact reads_of I (.fls hq rs) e r
  | exc a1 a2 a3 => simp [datM, dat] at e
mutual
theorem canLay_dat : ∀ (d : D) (p : PyData), dat d = some p → p.canLay0 = true
  | .non, p, e => by simp only [dat, Option.some.injEq] at e; subst e; rfl
  | .bl b, p, e => by simp only [dat, Option.some.injEq] at e; subst e; rfl
  | .int b, p, e => by simp only [dat, Option.some.injEq] at e; subst e; rfl
  | .str x, p, e => by
    simp only [dat] at e
    split at e
    · next h => simp only [Option.some.injEq] at e; subst e; exact h
    · cases e
  | .tup l, p, e => by
    simp only [dat] at e
    split at e
    · next ps e1 => simp only [Option.some.injEq] at e; subst e; simp only [PyData.canLay0]; exact canLay_dats l ps e1
    · cases e
  | .fls _, p, e => by simp [dat] at e
  | .ref _, p, e => by simp [dat] at e
  | .ty _, p, e => by simp [dat] at e
theorem canLay_dats : ∀ (l : List D) (ps : List PyData), dats l = some ps → PyData.canLayAll0 ps = true
  | [], ps, e => by simp only [dats, Option.some.injEq] at e; subst e; rfl
  | d :: r, ps, e => by
    simp only [dats] at e
    split at e
    · next p e1 =>
      split at e
      · next qs e2 =>
        simp only [Option.some.injEq] at e; subst e
        simp only [PyData.canLayAll0, Bool.and_eq_true]
        exact ⟨canLay_dat d p e1, canLay_dats r qs e2⟩
      · cases e
    · cases e
end
theorem canLay_datM {μ : Mu} {d : D} {p : PyData} (e : datM μ d = some p) : p.canLay0 = true := by
  cases d with
  | ref a =>
    simp only [datM] at e
    split at e
    · next l e0 =>
      split at e
      · next ps e1 => simp only [Option.some.injEq] at e; subst e; simp only [PyData.canLay0]; exact canLay_dats l ps e1
      · cases e
    · cases e
  | non => exact canLay_dat _ p e
  | bl b => exact canLay_dat _ p e
  | int i => exact canLay_dat _ p e
  | str x => exact canLay_dat _ p e
  | ty n => exact canLay_dat _ p e
  | tup l => exact canLay_dat _ p e
  | fls l => exact canLay_dat _ p e
  | exc c => simp [datM, dat] at e
theorem shaped_of {μ : Mu} {d : D} {p : PyData} (e : datM μ d = some p) (h : p.depth ≤ 64) : PySem.SeqAt.shaped p = true := by
  unfold PySem.SeqAt.shaped
  rw [canLay_datM e, decide_eq_true h]; rfl
/-- == of data -/
noncomputable def rEqD (K : Fg) (neg : Bool) : R2 := fun x y H Q => ∃ d e μ p q, RelM K μ H ∧ RelD K H d x ∧ RelD K H e y ∧ datM μ d = some p ∧ datM μ e = some q ∧ p.depth ≤ 64 ∧ q.depth ≤ 64 ∧ Q (.bl (if neg then !PyData.eqv p q else PyData.eqv p q)) H
theorem op_eqD (hu : X.A.units + 64 < cLine) : OpR X (compareOp .Eq) (rEqD X.K false) := by
  intro pins s σ H x y v u Q I rx ry h
  obtain ⟨d, e, μ, p, q, m, rd, re, e1, e2, h1, h2, k⟩ := h
  obtain ⟨as, q1⟩ := readsM_of I m rd e1 rx
  obtain ⟨bs, q2⟩ := readsM_of I m re e2 ry
  exact eq_dataH q1 q2 (shaped_of e1 h1) (shaped_of e2 h2) hu ⟨.bl _, H, I, rfl, k⟩
theorem op_neD (hu : X.A.units + 64 < cLine) : OpR X (compareOp .NotEq) (rEqD X.K true) := by
  intro pins s σ H x y v u Q I rx ry h
  obtain ⟨d, e, μ, p, q, m, rd, re, e1, e2, h1, h2, k⟩ := h
  obtain ⟨as, q1⟩ := readsM_of I m rd e1 rx
  obtain ⟨bs, q2⟩ := readsM_of I m re e2 ry
  exact ne_dataH q1 q2 (shaped_of e1 h1) (shaped_of e2 h2) hu ⟨.bl _, H, I, rfl, k⟩
theorem eqS_v {K : Fg} {H : Hp} {x y : D} {v u : V} {c : Bool} (rx : RelD K H x v) (ry : RelD K H y u) (e : eqS x y = some c) : scal v u = true ∧ decide (v = u) = c := by
  unfold eqS at e
  split at e <;> first | (cases e; done) | (cases rx; cases ry; cases e; exact ⟨rfl, rfl⟩) | (cases rx; cases ry; cases e; refine ⟨rfl, ?_⟩; simp)
theorem hu64 {A : Around} {k : Nat} (hr : Room k A) : A.units + 64 < cLine := by have := hr.un; omega
/-- in, of data -/
noncomputable def rInD (K : Fg) (neg : Bool) : R2 := fun x y H Q => ∃ d e μ p xs, ∃ b : Bool, RelM K μ H ∧ RelD K H d x ∧ RelD K H e y ∧ datM μ d = some p ∧ datM μ e = some (if b then .list xs else .tuple xs) ∧ p.depth ≤ 64 ∧ (if b then PyData.list xs else PyData.tuple xs).depth ≤ 64 ∧
  Q (.bl (if neg then !(xs.any fun e => PyData.eqv e p) else xs.any fun e => PyData.eqv e p)) H
theorem op_notInD (hu : X.A.units + 65 < cLine) : OpR X (compareOp .NotIn) (rInD X.K true) := by
  intro pins s σ H x y v u Q I rx ry h
  obtain ⟨d, e, μ, p, xs, b, m, rd, re, e1, e2, h1, h2, k⟩ := h
  obtain ⟨as, q1⟩ := readsM_of I m rd e1 rx
  obtain ⟨bs, q2⟩ := readsM_of I m re e2 ry
  cases b
  · exact PySem.SeqAt.notIn_tuple_reads q2 q1 (PySem.SeqAt.canLay_of_shaped (shaped_of e2 h2)) (PySem.SeqAt.canLay_of_shaped (shaped_of e1 h1)) (room_in_shaped (shaped_of e1 h1) hu) ⟨.bl _, H, I, rfl, k⟩
  · exact PySem.SeqAt.notIn_list_reads q2 q1 (PySem.SeqAt.canLay_of_shaped (shaped_of e2 h2)) (PySem.SeqAt.canLay_of_shaped (shaped_of e1 h1)) (room_in_shaped (shaped_of e1 h1) hu) ⟨.bl _, H, I, rfl, k⟩
theorem hu65 {A : Around} {k : Nat} (hr : Room k A) : A.units + 65 < cLine := by have := hr.un; omega
theorem inD_v {K : Fg} {neg : Bool} {x y : D} {v u : V} {H : Hp} {Q : VK} {μ : Mu} {Q3 : VK3} (m : RelM K μ H) (rx : RelD K H x v) (ry : RelD K H y u) (h : inD neg x y μ Q3) (k : Ks K H Q3 Q) : rInD K neg v u H Q := by
  unfold inD at h
  split at h
  · next d xs e1 e2 => exact ⟨x, y, μ, d, xs, true, m, rx, ry, e1, e2, h.1.1, h.1.2, k _ _ _ _ h.2 (Kp.refl _) (.bl _) m⟩
  · next d xs e1 e2 => exact ⟨x, y, μ, d, xs, false, m, rx, ry, e1, e2, h.1.1, h.1.2, k _ _ _ _ h.2 (Kp.refl _) (.bl _) m⟩
  · exact h.elim
theorem RdO.inn {K : Fg} {neg : Bool} : RdO K (fun x y H Q => (rIn K neg x y H Q ∨ ∃ i j, x = .str i ∧ y = .str j ∧ Q (.bl (if neg then !(!(Builtin.Str.occurrences j i 0 j.length 1).isEmpty) else !(Builtin.Str.occurrences j i 0 j.length 1).isEmpty)) H) ∨ rInD K neg x y H Q) (inR neg) := fun x y v u H Q μ Q3 m rx ry h k => by
  unfold inR at h
  split at h
  · next z l =>
    cases e : strs? l with
    | none => rw [e] at h; exact .inr (inD_v m rx ry h k)
    | some zs =>
      rw [e] at h
      cases rx
      cases ry with
      | tup hq rs =>
        rename_i a vs
        have ev := strs_rel rs e
        refine .inl <| .inl ⟨a, vs, rfl, .inr hq, rfl, by rw [ev]; exact flat_strs zs, ?_⟩
        rw [ev, inV_strs]
        exact k _ _ _ _ h (Kp.refl _) (.bl _) m
  · next z y =>
    cases rx
    cases ry
    exact .inl <| .inr ⟨z, y, rfl, rfl, k _ _ _ _ h (Kp.refl _) (.bl _) m⟩
  · exact .inr (inD_v m rx ry h k)
theorem q_notin (hu : X.A.units + 65 < cLine) : RO X (compareOp .NotIn) (inR true) := ⟨_, (op_notIn_seq.or op_notIn_str).or (op_notInD hu), RdO.inn⟩
theorem q_eq (hu : X.A.units + 64 < cLine) : RO X (compareOp .Eq) eqR := by
  refine ⟨_, op_eq.or (op_eqD hu), fun x y v u H Q μ Q3 m rx ry h k => ?_⟩
  unfold eqR at h
  cases e : eqS x y with
  | some c =>
    rw [e] at h
    obtain ⟨h1, h2⟩ := eqS_v rx ry e
    refine .inl ⟨h1, ?_⟩
    rw [h2]
    exact k _ _ _ _ h (Kp.refl _) (.bl _) m
  | none =>
    rw [e] at h
    dsimp only at h
    cases e1 : datM μ x with
    | none => rw [e1] at h; exact h.elim
    | some p =>
      cases e2 : datM μ y with
      | none => rw [e1, e2] at h; exact h.elim
      | some q =>
        rw [e1, e2] at h
        exact .inr ⟨x, y, μ, p, q, m, rx, ry, e1, e2, h.1.1, h.1.2, k _ _ _ _ h.2 (Kp.refl _) (.bl _) m⟩
theorem q_ne (hu : X.A.units + 64 < cLine) : RO X (compareOp .NotEq) neR := by
  refine ⟨_, op_ne.or (op_neD hu), fun x y v u H Q μ Q3 m rx ry h k => ?_⟩
  unfold neR at h
  cases e : eqS x y with
  | some c =>
    rw [e] at h
    obtain ⟨h1, h2⟩ := eqS_v rx ry e
    refine .inl ⟨h1, ?_⟩
    rw [h2]
    exact k _ _ _ _ h (Kp.refl _) (.bl _) m
  | none =>
    rw [e] at h
    dsimp only at h
    cases e1 : datM μ x with
    | none => rw [e1] at h; exact h.elim
    | some p =>
      cases e2 : datM μ y with
      | none => rw [e1, e2] at h; exact h.elim
      | some q =>
        rw [e1, e2] at h
        exact .inr ⟨x, y, μ, p, q, m, rx, ry, e1, e2, h.1.1, h.1.2, k _ _ _ _ h.2 (Kp.refl _) (.bl _) m⟩
/-! ### isinstance -/
theorem isi_tab (K : Fg) : ∀ t ∈ ["int", "str", "tuple", "bool", "NoneType", "list"], ∀ T ∈ ["int", "str", "tuple", "bool", "list"], PySem.W.kitOne K (.type t) (.type T) = some (t == T || (t == "bool" && T == "int")) := by
  intro t ht T hT
  simp only [List.mem_cons, List.not_mem_nil, or_false] at ht hT
  rcases ht with rfl | rfl | rfl | rfl | rfl | rfl <;> rcases hT with rfl | rfl | rfl | rfl | rfl <;> with_unfolding_all rfl
theorem isIn_k {K : Fg} {t T : String} {b : Bool} (e : isIn t T = some b) (ht : t ∈ ["int", "str", "tuple", "bool", "NoneType", "list"]) (hT : T ∈ ["int", "str", "tuple", "bool", "list"]) : PySem.W.kitOne K (.type t) (.type T) = some b := by
  rw [isi_tab K t ht T hT]
  simp only [List.mem_cons, List.not_mem_nil, or_false] at ht hT
  rcases ht with rfl | rfl | rfl | rfl | rfl | rfl <;> rcases hT with rfl | rfl | rfl | rfl | rfl <;> simp [isIn] at e <;> subst e <;> rfl
theorem isIn_T {t T : String} {b : Bool} (e : isIn t T = some b) (ht : t ∈ ["int", "str", "tuple", "bool", "NoneType", "list"]) : T ∈ ["int", "str", "tuple", "bool", "list"] ∨ (t = T ∧ b = true) := by
  unfold isIn at e
  simp only [List.mem_cons, List.not_mem_nil, or_false] at ht ⊢
  split at e
  · next h => simp only [Option.some.injEq] at e; exact .inr ⟨h, e.symm⟩
  · split at e
    · next h => rw [h.2]; simp
    · split at e
      · next h => rcases h.2 with rfl | rfl | rfl | rfl | rfl <;> simp
      · cases e
theorem kit_same (K : Fg) (t : String) : PySem.W.kitOne K (.type t) (.type t) = some true := by
  unfold PySem.W.kitOne
  rw [if_pos (by simp)]
noncomputable def rIsi (K : Fg) : List V → Hp → VK → Prop := fun xs H Q => ∃ d v μ t T b, xs = [v, .ty T] ∧ RelM K μ H ∧ RelD K H d v ∧ tyN μ d = some t ∧ isIn t T = some b ∧ Q (.bl b) H
theorem call_isi : CallR X (.builtin "isinstance") (rIsi X.K) := by
  intro pins s σ H xs us Q I r h
  obtain ⟨d, v, μ, t, T, b, rfl, m, rd, e1, e2, q⟩ := h
  obtain ⟨u, w', rfl, rx, ry⟩ := vals2 r
  cases ry
  have fin : ∀ tk, EP X pins σ Q (.bool b) { s with toks := tk } := fun tk => ⟨.bl b, H, I.tok tk, rfl, q⟩
  have hk : ∀ t', t' ∈ ["int", "str", "tuple", "bool", "NoneType", "list"] → isIn t' T = some b → PySem.W.kitOne X.K (.type t') (.type T) = some b := fun t' h1 h2 => by
    rcases isIn_T h2 h1 with z | ⟨rfl, rfl⟩
    · exact isIn_k h2 h1 z
    · exact kit_same _ _
  cases rd with
  | non => simp only [tyN, Option.some.injEq] at e1; subst e1; cases rx; exact PySem.W.kia_one PySem.W.kitx_none I.kIn True.intro (hk _ (by simp) e2) (fun z => nomatch z) fin
  | bl y => simp only [tyN, Option.some.injEq] at e1; subst e1; cases rx; exact PySem.W.kia_one PySem.W.kitx_bool I.kIn True.intro (hk _ (by simp) e2) (fun z => nomatch z) fin
  | int i => simp only [tyN, Option.some.injEq] at e1; subst e1; obtain ⟨tk, rfl⟩ := rx; exact PySem.W.kia_one PySem.W.kitx_int I.kIn True.intro (hk _ (by simp) e2) (fun z => nomatch z) fin
  | str y => simp only [tyN, Option.some.injEq] at e1; subst e1; obtain ⟨tk, rfl⟩ := rx; exact PySem.W.kia_one PySem.W.kitx_str I.kIn True.intro (hk _ (by simp) e2) (fun z => nomatch z) fin
  | tup hq rs =>
    simp only [tyN, Option.some.injEq] at e1; subst e1; cases rx
    obtain ⟨its, rv, ⟨o, ho, hc, _⟩, hz⟩ := I.tuple hq
    exact PySem.W.kia_one PySem.W.kitx_tuple I.kIn ⟨o, ho, hc⟩ (hk _ (by simp) e2) (fun z => nomatch z) fin
  | ref p =>
    simp only [tyN] at e1
    split at e1
    · next l e0 =>
      simp only [Option.some.injEq] at e1; subst e1; cases rx
      obtain ⟨vs, hv, rs⟩ := m p l e0
      obtain ⟨its, rv, pl, hz⟩ := I.list (SqL.of hv)
      obtain ⟨o, ho, hc, _⟩ := pl.isList
      exact PySem.W.kia_one PySem.W.kitx_list I.kIn ⟨o, ho, hc⟩ (hk _ (by simp) e2) (fun z => nomatch z) fin
    · cases e1
  | ty n => simp [tyN] at e1
  | fls _ _ => simp [tyN] at e1
  | exc _ _ _ => simp [tyN] at e1
theorem q_isi : RC X (.builtin "isinstance") isiR := by
  refine ⟨_, call_isi, fun xs vs H Q μ Q3 m r h k => ?_⟩
  cases r with
  | nil => exact False.elim h
  | cons r1 r2 =>
    cases r2 with
    | nil => exact False.elim h
    | cons r2 r3 =>
      cases r3 with
      | cons _ _ => cases r2 <;> exact False.elim h
      | nil =>
        cases r2 with
        | ty T =>
          rename_i d v
          dsimp only [isiR] at h
          cases e : tyN μ d with
          | none => rw [e] at h; exact h.elim
          | some t =>
            rw [e] at h
            dsimp only at h
            cases e2 : isIn t T with
            | none => rw [e2] at h; exact h.elim
            | some b =>
              rw [e2] at h
              exact ⟨d, v, μ, t, T, b, rfl, m, r1, e, e2, k _ _ _ _ h (Kp.refl _) (.bl _) m⟩
        | _ => exact False.elim h
/-! ### methods of lists -/
variable {o e : Expr} {es : List Expr} {to : TE3} {t : TA3} {apos cpos : Pos}
theorem re_bm {name : Str} {id : String} {r : V → List V → Hp → VK → Prop} {r3 : D → List D → Mu → VK3 → Prop} (slot : Slot "list" name id) (hty : typeOf (.builtin id) = pure (.type "method_descriptor")) (hm : MtR X id r)
    (hrd : ∀ p xs v vs H Q μ Q3, RelM X.K μ H → RelD X.K H (.ref p) v → RelDs X.K H xs vs → r3 (.ref p) xs μ Q3 → Ks X.K H Q3 Q → r v vs H Q) (ho : RE X o to) (ha : RA X (e :: es) t)
    (hbase : attributeBase o name X.env (eval o X.env) = eval o X.env)
    (hfew : ((backTo cpos (starEach (e :: es) X.env)).all (fun x => !x.1) && (backToKw cpos (keywordEach [] X.env)).all (fun x => x.1.isSome)
      && decide ((e :: es).length + ([] : List Keyword).length + (if ([] : List Keyword).isEmpty then 0 else 1) < 30)) = true)
    (hline : (apos.endLine == cpos.line) = true) (hs : starEach (e :: es) X.env = (false, eval e X.env) :: starEach es X.env) (hplain : (backTo cpos (starEach es X.env)).any (·.1) = false) :
    RE X (.Call (.Attribute o name apos) (e :: es) [] cpos) (mt3 r3 to t) := by
  obtain ⟨va, pa, ra⟩ := ho
  obtain ⟨vb, pb, rb⟩ := ha
  refine ⟨_, pe_bm PySem.F.plainAttrs_list slot hty hm pa pb hbase hfew hline hs hplain, fun σ H Q ρ μ Q3 s m h k => ra σ H _ ρ μ _ s m h fun d μ1 v H1 h1 k1 r1 m1 => ?_⟩
  cases r1 with
  | ref p =>
    dsimp only at h1
    cases e0 : μ1 p with
    | none => rw [e0] at h1; exact h1.elim
    | some oo =>
      cases oo with
      | ins _ _ => rw [e0] at h1; exact h1.elim
      | dct _ => rw [e0] at h1; exact h1.elim
      | lst l =>
        rw [e0] at h1
        obtain ⟨vs, hv, rs⟩ := m1 p l e0
        refine ⟨.inl ⟨rfl, vs, SqL.of hv⟩, rb σ H1 _ ρ μ1 _ (s.mono k1) m1 h1 fun xs μ2 ys H2 h2 k2 r2 m2 => ?_⟩
        exact hrd p xs _ ys H2 Q μ2 Q3 m2 (.ref p) r2 h2 (k.after (k1.trans k2))
  | _ => exact False.elim h1
theorem re_append (ho : RE X o to) (ha : RA X (e :: es) t) (hbase : attributeBase o "append" X.env (eval o X.env) = eval o X.env := by rfl)
    (hfew : ((backTo cpos (starEach (e :: es) X.env)).all (fun x => !x.1) && (backToKw cpos (keywordEach [] X.env)).all (fun x => x.1.isSome)
      && decide ((e :: es).length + ([] : List Keyword).length + (if ([] : List Keyword).isEmpty then 0 else 1) < 30)) = true := by rfl)
    (hline : (apos.endLine == cpos.line) = true := by rfl) (hs : starEach (e :: es) X.env = (false, eval e X.env) :: starEach es X.env := by rfl) (hplain : (backTo cpos (starEach es X.env)).any (·.1) = false := by rfl) :
    RE X (.Call (.Attribute o "append" apos) (e :: es) [] cpos) (mt3 appR to t) := by
  refine re_bm PySem.F.slot_list_append PySem.F.type_list_append mt_append (fun p xs v vs H Q μ Q3 m rp rx h k => ?_) ho ha hbase hfew hline hs hplain
  cases rp
  cases rx with
  | nil => exact False.elim h
  | cons r1 r2 =>
    cases r2 with
    | cons _ _ => exact False.elim h
    | nil =>
      dsimp only [appR] at h
      cases e0 : μ p with
      | none => rw [e0] at h; exact h.elim
      | some oo =>
        cases oo with
        | ins _ _ => rw [e0] at h; exact h.elim
        | dct _ => rw [e0] at h; exact h.elim
        | lst l =>
          rw [e0] at h
          obtain ⟨vs, hv, rs⟩ := m p l e0
          exact ⟨p, vs, _, rfl, rfl, hv, by rw [← rs.length]; exact h.1, k _ _ _ _ h.2 (Kp.wr hv) .non (m.wr hv (rs.append (.cons r1 .nil)))⟩
theorem re_extend (ho : RE X o to) (ha : RA X (e :: es) t) (hbase : attributeBase o "extend" X.env (eval o X.env) = eval o X.env := by rfl)
    (hfew : ((backTo cpos (starEach (e :: es) X.env)).all (fun x => !x.1) && (backToKw cpos (keywordEach [] X.env)).all (fun x => x.1.isSome)
      && decide ((e :: es).length + ([] : List Keyword).length + (if ([] : List Keyword).isEmpty then 0 else 1) < 30)) = true := by rfl)
    (hline : (apos.endLine == cpos.line) = true := by rfl) (hs : starEach (e :: es) X.env = (false, eval e X.env) :: starEach es X.env := by rfl) (hplain : (backTo cpos (starEach es X.env)).any (·.1) = false := by rfl) :
    RE X (.Call (.Attribute o "extend" apos) (e :: es) [] cpos) (mt3 extR to t) := by
  refine re_bm PySem.F.slot_list_extend PySem.F.type_list_extend mt_extend (fun p xs v vs H Q μ Q3 m rp rx h k => ?_) ho ha hbase hfew hline hs hplain
  cases rp
  cases rx with
  | nil => exact False.elim h
  | cons r1 r2 =>
    cases r2 with
    | cons _ _ => cases r1 <;> exact False.elim h
    | nil =>
      cases r1 with
      | ref q =>
        dsimp only [extR] at h
        cases e0 : μ p with
        | none => rw [e0] at h; exact h.elim
        | some oo =>
          cases oo with
          | ins _ _ => rw [e0] at h; exact h.elim
          | dct _ => rw [e0] at h; exact h.elim
          | lst l =>
            cases e2 : μ q with
            | none => rw [e0, e2] at h; exact h.elim
            | some o2 =>
              cases o2 with
              | ins _ _ => rw [e0, e2] at h; exact h.elim
              | dct _ => rw [e0, e2] at h; exact h.elim
              | lst l2 =>
                rw [e0, e2] at h
                obtain ⟨vs, hv, rs⟩ := m p l e0
                obtain ⟨us, hu, ru⟩ := m q l2 e2
                exact ⟨p, q, vs, us, rfl, rfl, hv, hu, by rw [← rs.length, ← ru.length]; exact h.1, k _ _ _ _ h.2 (Kp.wr hv) .non (m.wr hv (rs.append ru))⟩
      | _ => exact False.elim h
end
end Pv

namespace Pv
open PySem PySem.Spec PyProof.Rows L2
/-! ### a comprehension: a block of its own within the body -/
noncomputable abbrev compCx (X : Cx) (NN : List Str) (scope : Scope) (cl : List (Str × Addr)) (C : Addr) (fp : List Addr) (s₀ : Shared) (H₀ : Hp) (pn : List (Addr × Obj)) : Cx :=
  { X with N := NN, s₀ := s₀, H₀ := H₀, env := compEnvC scope cl C X.env, outer := X.stack, ex := fp, fn := fun _ => false, pn := pn, xe := fun _ _ => False }
structure CompSc (X : Cx) (NN : List Str) (scope : Scope) (cl : List (Str × Addr)) (js : List (Option Nat)) : Prop where
  clos : closureFor scope X.env = pure cl
  cell : ∀ y ∈ scope.names, y.2 ≠ .cell
  kind : scope.kind = .function
  names : ∀ y ∈ scope.names, y.2 = .local → scope.names.lookup y.1 = some .local
  sub : ∀ x c, cl.lookup x = some c → X.env.cells.lookup x = some c
  has : ∀ x, ((relabel scope X.env).names.lookup x = some .cell ∨ (relabel scope X.env).names.lookup x = some .free) → ∃ c, cl.lookup x = some c
  len : js.length = NN.length
  out : ∀ (i j : Nat), js[i]? = some (some j) → ∃ x, NN[i]? = some x ∧ X.N[j]? = some x ∧ Vis X.env.scope x ∧ X.env.scope.names.lookup x ≠ some .local ∧ ((relabel scope X.env).names.lookup x = some .cell ∨ (relabel scope X.env).names.lookup x = some .free)
theorem lookup_mem {α : Type} {x : Str} {k : α} : ∀ {l : List (Str × α)}, l.lookup x = some k → (x, k) ∈ l
  | [], h => by simp at h
  | (n, k') :: r, h => by
    rw [List.lookup_cons] at h
    split at h
    · next e => simp only [Option.some.injEq] at h; subst h; rw [eq_of_beq e]; exact List.mem_cons_self
    · exact List.mem_cons_of_mem _ (lookup_mem h)
/-- no name of the body's is used in it -/
theorem CompSc.closed {X : Cx} {NN : List Str} {scope : Scope} (hf : ∀ y ∈ scope.names, y.2 ≠ .free) (hc : ∀ y ∈ scope.names, y.2 ≠ .cell) (hk : scope.kind = .function) (hn : ∀ y ∈ scope.names, y.2 = .local → scope.names.lookup y.1 = some .local) :
    CompSc X NN scope [] (NN.map fun _ => none) where
  clos := closureFor_none hf
  cell := hc
  kind := hk
  names := hn
  sub := fun x c h => by simp at h
  has := fun x h => by
    exfalso
    have e : (relabel scope X.env).names = scope.names := map_eq_self (l := scope.names) (fun y hy => by
      obtain ⟨n, k⟩ := y
      have : (k == NameKind.free) = false := by simpa using hf _ hy
      simp [this])
    rw [e] at h
    rcases h with h | h
    · exact hc _ (lookup_mem h) rfl
    · exact hf _ (lookup_mem h) rfl
  len := by simp
  out := fun i j h => by
    rw [List.getElem?_map] at h
    cases q : NN[i]? with
    | none => rw [q] at h; cases h
    | some y => rw [q] at h; simp at h
noncomputable def initV (js : List (Option Nat)) (σ : L2.St) : L2.St := js.map fun j => j.bind fun j => (σ[j]?).bind id
/-- the tests -/
noncomputable def PTs (X : Cx) (ifs : List Expr) (t : TT) : Prop := ∀ (pins : List (Addr × Obj)) (s : Shared) (σ : L2.St) (H : Hp) (Q : Bool → Hp → Prop), Inv X pins σ H s → t σ H Q →
  wpAny (model X.prog X.w) X.A (forIn ifs true fun c r => if r = true then do let ok ← isTrue c X.env (eval c X.env); pure (ForInStep.yield ok) else pure (ForInStep.yield r)) (TP X pins σ Q) X.xe s
theorem pts_nil {X : Cx} : PTs X [] (fun _ H Q => Q true H) := fun _ _ _ H _ I h => wpAny_tests_nil ⟨H, I, h⟩
noncomputable def tComp (js : List (Option Nat)) (wi : TI) (g : TG) (tc : TT) (te : TE) : TE := fun σ H Q => wi σ H fun J H1 => ∀ p, H1 p = none →
  ∃ W : Nat → Nat → L2.St → Hp → Prop, (∃ m, W 0 m (initV js σ) (upd H1 p (.lst []))) ∧ ∀ i m σ' H', W i m σ' H' →
    ((J.stop i H' ∧ Q (.ref p) H') ∨ (J.go i H' ∧ ∀ x H2, J.yld i H' x H2 → g x σ' H2 fun σ3 H3 => tc σ3 H3 fun b H4 =>
      if b = true then te σ3 H4 fun y H5 => ∃ ys, H5 p = some (.lst ys) ∧ ys.length < sizeLine ∧ ∃ m', m' < m ∧ W (i + 1) m' σ3 (upd H5 p (.lst (ys ++ [y]))) else ∃ m', m' < m ∧ W (i + 1) m' σ3 H4))
section
variable {X : Cx} {NN : List Str} {scope : Scope} {cl : List (Str × Addr)} {js : List (Option Nat)}
theorem comp_ok {pins : List (Addr × Obj)} {σ : L2.St} {H : Hp} {s : Shared} {fp : List Addr} {pn : List (Addr × Obj)} (hc : X.calm = true) (S : CompSc X NN scope cl js) (I : Inv X pins σ H s) (f : ∀ b ∈ fp, FpOk X pins H b ∧ b < s.heap.objs.size) :
    (compCx X NN scope cl s.heap.objs.size fp s H pn).Ok where
  mod := I.ok.mod
  kind := S.kind
  glob := I.ok.glob
  blt := I.ok.blt
  above := Nat.le_refl _
  inj := fun x y c h1 h2 => I.ok.inj x y c (S.sub x c h1) (S.sub y c h2)
  has := fun x h => S.has x h
  cab := fun x c h => by cases h
  hd := fun _ => I.ok.hd hc
  frames := I.ok.frames
  stk := .inl rfl
  exf := fun b hb => ⟨Nat.ne_of_lt (f b hb).2, fun x c e => (f b hb).1.2.2.2.2.1 x c (S.sub x c e)⟩
  bs := I.bs
  bsz := Nat.le_trans I.ok.bsz I.sz
  noex := fun b o e hb => by
    rcases (f b hb).1.2.2.2.1 with z | z
    · exact I.ok.noex b o e z
    · exact absurd (Nat.lt_of_lt_of_le (Heap.lt_size e) (Nat.le_trans I.ok.bsz z)) (Nat.lt_irrefl _)
  exfs := fun b hb hfs => by
    rcases List.mem_cons.mp (I.stkSub b hfs) with z | z
    · exact (f b hb).1.2.1 z
    · exact (f b hb).1.2.2.1 z
  funs := I.stack
  frf := I.stkFree
theorem initV_get {js : List (Option Nat)} {σ : L2.St} {i : Nat} {v : V} (h : (initV js σ)[i]? = some (some v)) : ∃ j, js[i]? = some (some j) ∧ σ[j]? = some (some v) := by
  unfold initV at h
  rw [List.getElem?_map] at h
  cases q : js[i]? with
  | none => rw [q] at h; cases h
  | some o =>
    rw [q] at h
    cases o with
    | none => simp at h
    | some j =>
      refine ⟨j, rfl, ?_⟩
      simp only [Option.map_some, Option.bind_some, Option.some.injEq] at h
      cases e : σ[j]? with
      | none => rw [e] at h; simp at h
      | some w => rw [e] at h; simp only [Option.bind_some, id] at h; rw [h]
theorem comp_inv0 {pins : List (Addr × Obj)} {σ : L2.St} {H : Hp} {s : Shared} {fp : List Addr} {h₁ : Heap} {m : Str → Option Value} {tk : Nat} (hc : X.calm = true) (S : CompSc X NN scope cl js) (I : Inv X pins σ H s) (f : ∀ b ∈ fp, FpOk X pins H b ∧ b < s.heap.objs.size)
    (hn : h₁.Ns s.heap.objs.size m) (k : ∀ b u, s.heap.get? b = some u → h₁.get? b = some u) : Inv (compCx X NN scope cl s.heap.objs.size fp s H (X.pn ++ pins)) [] (initV js σ) H { s with heap := h₁, toks := tk } where
  ok := comp_ok hc S I f
  os := rfl
  bare := I.bare
  base := Un.kept k
  loc := by
    refine ⟨m, hn, fun i x v h1 h2 h3 => ?_⟩
    obtain ⟨j, e1, e2⟩ := initV_get h2
    obtain ⟨y, q1, q2, q3, q4, q5⟩ := S.out i j e1
    have q1' : NN[i]? = some x := h1
    rw [q1] at q1'; cases q1'
    obtain ⟨mX, _, hl⟩ := I.loc
    obtain ⟨u, r, l⟩ := hl j x v q2 e2 q3
    refine ⟨u, r, .inr ⟨q5, ?_⟩⟩
    rcases l with ⟨z, _⟩ | ⟨_, c, hc', hcell⟩
    · exact absurd z q4
    · obtain ⟨c', hc2⟩ := S.has x q5
      have e := S.sub x c' hc2
      rw [hc'] at e; cases e
      obtain ⟨o, ho, hd⟩ := hcell
      exact ⟨c, hc2, o, k _ _ ho, hd⟩
  cell := fun x c e => by
    obtain ⟨v, o, ho, hd⟩ := I.cell x c (S.sub x c e)
    exact ⟨v, o, k _ _ ho, hd⟩
  free := I.hok.fresh (Nat.le_refl _)
  freeC := fun x c e => I.freeC x c (S.sub x c e)
  pin := fun p hp => by
    have hp' : p ∈ X.pn ++ pins := by simpa using hp
    obtain ⟨h1, h2, h3, h4, h5⟩ := I.pin p hp'
    refine ⟨k _ _ h1, h2, Nat.ne_of_lt (Heap.lt_size h1), fun z => ?_, h5⟩
    rcases List.mem_cons.mp (I.stkSub _ z) with z | z
    · exact h3 z
    · exact h4 z
  hok := I.hok.kept k
  len := by show (initV js σ).length = NN.length; unfold initV; rw [List.length_map]; exact S.len
theorem pe_comp {elt target iter : Expr} {ifs : List Expr} {pos : Pos} {wi : TI} {g : TG} {tc : TT} {te : TE} (hc : X.calm = true) (S : CompSc X NN scope cl js) (hi : PI X target iter wi)
    (hg : ∀ C fp s₀ H₀ pn, PG (compCx X NN scope cl C fp s₀ H₀ pn) target g) (ht : ∀ C fp s₀ H₀ pn, PTs (compCx X NN scope cl C fp s₀ H₀ pn) ifs tc) (he : ∀ C fp s₀ H₀ pn, PE (compCx X NN scope cl C fp s₀ H₀ pn) elt te)
    (hs : ∀ x, foldedSetIterable iter X.env x = pure x) : PE X (.ListComp elt [⟨target, iter, ifs, 0⟩] scope pos) (tComp js wi g tc te) := by
  intro pins s σ H Q I h
  rw [eval_ListComp]
  refine wpAny_comprehension_free (use := none) rfl hs S.clos S.kind S.names (thn (hi pins s σ H _ I h) fun xv s1 h1 => thn h1 fun itv s2 h2 => ?_)
  obtain ⟨it, fp, tn, J, H2, rfl, I2, T, st2, f2, hW⟩ := h2
  refine wpAny_newObj_type (wpAny_newFunctionEnv S.cell (by intro y hy; simp at hy) (fun h₁ hns₁ hsb₁ => ?_) S.kind)
  dsimp only at hns₁ hsb₁ ⊢
  have hD : H2 s2.heap.objs.size = none := I2.hok.fresh (Nat.le_refl _)
  have I3 : Inv X pins σ (upd H2 s2.heap.objs.size (.lst [])) { s2 with heap := s2.heap.push { cls := .type "list", dict := none, data := .seq ([] : List Value).toArray } } :=
    I2.lnew (t' := s2.toks) (its := []) .nil (by rw [sizeLine_eq]; decide)
  generalize hsD : ({ s2 with heap := s2.heap.push { cls := .type "list", dict := none, data := .seq ([] : List Value).toArray } } : Shared) = sD at I3
  have eh : sD.heap = s2.heap.push { cls := .type "list", dict := none, data := .seq ([] : List Value).toArray } := by rw [← hsD]
  have es : ∀ (h : Heap) (tk : Nat), ({ s2 with heap := h, toks := tk } : Shared) = { sD with heap := h, toks := tk } := fun h tk => by rw [← hsD]
  have hsz : s2.heap.objs.size < sD.heap.objs.size := by rw [eh, Heap.size_push]; exact Nat.lt_succ_self _
  rw [← eh] at hns₁ hsb₁ ⊢
  generalize hp0 : s2.heap.objs.size = p0 at *
  have up : ∀ b u, s2.heap.get? b = some u → sD.heap.get? b = some u := fun b u e => by rw [eh]; exact Heap.get?_push_of_some _ e
  have k : ∀ b u, sD.heap.get? b = some u → h₁.get? b = some u := fun b u e => hsb₁.extBut b u (Nat.ne_of_lt (Heap.lt_size e)) (Heap.get?_push_of_some _ e)
  have f3 : ∀ b ∈ fp, FpOk X pins (upd H2 p0 (.lst [])) b ∧ b < sD.heap.objs.size := fun b hb => by
    obtain ⟨o, ho, _⟩ := T.obj 0 _ st2 b hb
    have hlt : b < p0 := by rw [← hp0]; exact Heap.lt_size ho
    refine ⟨⟨?_, (f2 b hb).2⟩, Nat.lt_trans hlt hsz⟩
    rw [upd_ne (Nat.ne_of_lt hlt)]; exact (f2 b hb).1
  obtain ⟨W, ⟨m0, w0⟩, turn⟩ := hW p0 hD
  have I4 := comp_inv0 (tk := s2.toks + ([] : List (Str × Value)).length) hc S I3 f3 hns₁ k
  have st4 : tn 0 h₁ := T.keep 0 _ _ st2 fun b _ o e => k b o (up b o e)
  rw [es]
  generalize hX' : compCx X NN scope cl sD.heap.objs.size fp sD (upd H2 p0 (.lst [])) (X.pn ++ pins) = X' at I4
  have a1 : X'.env = compEnvC scope cl sD.heap.objs.size X.env := by rw [← hX']
  have a2 : X'.prog = X.prog := by rw [← hX']
  have a3 : X'.w = X.w := by rw [← hX']
  have a4 : X'.A = X.A := by rw [← hX']
  have a5 : X'.K = X.K := by rw [← hX']
  have a6 : X'.calm = true := by rw [← hX']; exact hc
  have a7 : X'.xe = fun _ _ => False := by rw [← hX']
  have a8 : X'.ex = fp := by rw [← hX']
  have T' : Turn X'.prog X'.w X'.K target J fp it tn := by rw [a2, a3, a5]; exact T
  have hg' : PG X' target g := by rw [← hX']; exact hg _ _ _ _ _
  have ht' : PTs X' ifs tc := by rw [← hX']; exact ht _ _ _ _ _
  have he' : PE X' elt te := by rw [← hX']; exact he _ _ _ _ _
  have fin : ∀ {σ' : L2.St} {H' : Hp} {s' : Shared}, Inv X' [] σ' H' s' → Q (.ref p0) H' → compPost (model X.prog X.w) X.A X.xe none (EP X pins σ Q) (.ref p0) sD.heap.objs.size (.ok .next) s' := fun {σ' H' s'} I' q => by
    obtain ⟨m', hn', _⟩ := I'.loc
    rw [a1] at hn'
    refine ⟨m', hn', fun h' sb => ?_⟩
    have u : Un (frs X.stack) fp (upd H2 p0 (.lst [])) H' sD.heap s'.heap := by
      have := I'.base
      rw [← hX'] at this
      exact this
    have hch : ∀ b ∈ fp, (b ∈ X.ex ∨ X.s₀.heap.objs.size ≤ b) ∧ b ≠ X.env.locals ∧ (∀ x c, X.env.cells.lookup x = some c → c ≠ b) ∧ ∀ p ∈ X.pn ++ pins, p.1 ≠ b := fun b hb => by
      obtain ⟨_, z1, _, z3, z4, z5⟩ := (f3 b hb).1
      exact ⟨z3, z1, z4, z5⟩
    have os' : s'.os = sD.os := by
      have := I'.os
      rw [← hX'] at this
      exact this
    have hok' : HOk X.prog X.w H' s'.heap := by
      have := I'.hok
      rw [← hX'] at this
      exact this
    have I5 : Inv X pins σ H' s' := I3.call' os' u hok' I'.bare hch
    have hC : H' sD.heap.objs.size = none := by
      have := I'.free
      rw [a1] at this
      exact this
    refine ⟨.ref p0, H', I5.turned (t' := s'.toks) (it := sD.heap.objs.size) (fun b o hb e => sb.extBut b o hb e) hC (Nat.ne_of_gt I3.lt) (.inr I3.sz) (fun x c e => ?_) (fun p hp => ?_), rfl, q⟩
    · obtain ⟨v, o, ho, _⟩ := I3.cell x c e
      exact Nat.ne_of_lt (Heap.lt_size ho)
    · exact Nat.ne_of_lt (Heap.lt_size (I3.pin p hp).1)
  have fp4 : ∀ {H' : Hp}, (∀ b ∈ fp, H' b = none) → ∀ b ∈ fp, FpOk X' [] H' b := fun hn b hb => by
    obtain ⟨_, z1, z2, z3, z4, z5⟩ := (f3 b hb).1
    rw [← hX']
    refine ⟨hn b hb, Nat.ne_of_lt (f3 b hb).2, fun z => ?_, .inl hb, fun x c e => z4 x c (S.sub x c e), fun p hp => z5 p (by simpa using hp)⟩
    rcases List.mem_cons.mp (I3.stkSub _ z) with z | z
    · exact z1 z
    · exact z2 z
  have loop : ∀ s₃ : Shared, Inv X' [] (initV js σ) (upd H2 p0 (.lst [])) s₃ → tn 0 s₃.heap →
      codeAny (model X.prog X.w) X.A (.compLoop (.ListComp elt [⟨target, iter, ifs, 0⟩] scope pos) 0 (.ref it) (.ref p0) (compEnvC scope cl sD.heap.objs.size X.env)) (compPost (model X.prog X.w) X.A X.xe none (EP X pins σ Q) (.ref p0) sD.heap.objs.size) s₃ := by
    intro s₃ I₃ st₃
    refine codeAny_loop rfl (fun n s' => ∃ i σ' H', Inv X' [] σ' H' s' ∧ tn i s'.heap ∧ (∀ b ∈ fp, H' b = none) ∧ W i n σ' H') (fun n s' hI => ?_) m0 ⟨0, initV js σ, _, I₃, st₃, fun b hb => (f3 b hb).1.1, w0⟩
    obtain ⟨i, σ3, H3, J3, st3, fr3, w3⟩ := hI
    have tr := turn i n σ3 H3 w3
    show wpAny _ X.A ((compTurn (.ListComp elt [⟨target, iter, ifs, 0⟩] scope pos) 0 (.ref it) (.ref p0) (compEnvC scope cl sD.heap.objs.size X.env)).onRaise (fun x => do noteFrame x (compEnvC scope cl sD.heap.objs.size X.env); theTreesLotGoes x)) _ _ s'
    refine wpAny_noted ?_
    rw [compTurn_list, ← a1, ← a2, ← a3, ← a4]
    have nof : ∀ {α : Type} {t : Sem α} {Q' : α → Shared → Prop} {s'' : Shared} {E : Value → Shared → Prop}, wpAny (model X'.prog X'.w) X'.A t Q' X'.xe s'' → wpAny (model X'.prog X'.w) X'.A t Q' E s'' := fun h => wpAny_mono h (fun _ _ q => q) fun _ _ z => by rw [a7] at z; exact z.elim
    rcases tr with ⟨stop, qn⟩ | ⟨go, step⟩
    · refine wpAny_bind (wpAny_standAt (wpAny_bind (nof (thn (T'.done X' rfl rfl rfl a6 i [] s' σ3 H3 X'.xe J3 (fp4 fr3) st3 stop) fun r s4 ⟨hr, J4⟩ => ?_))))
      subst hr
      exact wpAny_pure (fin J4 qn)
    · refine wpAny_bind (wpAny_standAt (wpAny_bind (nof (thn (T'.item X' rfl rfl rfl a6 i [] s' σ3 H3 X'.xe J3 (fp4 fr3) st3 go) fun r s4 ⟨u, hr, h4⟩ => ?_))))
      subst hr
      refine wpAny_bind (nof (thn h4 fun _ s5 ⟨x, H5, I5, r5, y5, st5, fr5⟩ => ?_))
      have I5' := I5.pinned (fp4 fr5) (T.obj _ _ st5)
      refine wpAny_bind (nof (thn (hg' _ s5 σ3 H5 x u _ I5' r5 (step x H5 y5)) fun _ s6 ⟨σ6, H6, I6, q6⟩ => ?_))
      refine wpAny_bind (nof (thn (ht' _ s6 σ6 H6 _ I6 q6) fun ok s7 ⟨H7, I7, q7⟩ => ?_))
      have again : ∀ {s8 : Shared} {σ8 : L2.St} {H8 : Hp}, Inv X' ([] ++ pinsAt fp s5.heap) σ8 H8 s8 → (∃ m', m' < n ∧ W (i + 1) m' σ8 H8) → ∃ m, m < n ∧ ∃ i σ' H', Inv X' [] σ' H' s8 ∧ tn i s8.heap ∧ (∀ b ∈ fp, H' b = none) ∧ W i m σ' H' := fun {s8 σ8 H8} I8 ⟨m', hm, w8⟩ => by
        refine ⟨m', hm, i + 1, σ8, H8, I8.unpinned, T.keep _ _ _ st5 fun b hb o e => (I8.pin (b, o) (List.mem_append_right _ (List.mem_append_right _ (mem_pinsAt hb e)))).1, fun b hb => ?_, w8⟩
        obtain ⟨o, e, d⟩ := T.obj _ _ st5 b hb
        exact (I8.pin (b, o) (List.mem_append_right _ (List.mem_append_right _ (mem_pinsAt hb e)))).2.1
      cases ok with
      | false => exact wpAny_pure ⟨rfl, again I7 q7⟩
      | true =>
        refine wpAny_bind (wpAny_bind (nof (thn (he' _ s7 σ6 H7 _ I7 q7) fun xv s8 ⟨y, H8, I8, r8, ys, q8, hlen, q9⟩ => wpAny_bind (nof ?_))))
        refine thn (mt_append (X := X') _ s8 σ6 H8 (.ref p0) [y] (.ref p0) [xv] (fun v H9 => v = .non ∧ H9 = upd H8 p0 (.lst (ys ++ [y]))) I8 rfl (.cons r8 .nil) ⟨p0, ys, y, rfl, rfl, q8, hlen, rfl, rfl⟩) fun rv s9 ⟨v9, H9, I9, _, _, e9⟩ => ?_
        subst e9
        exact wpAny_pure (wpAny_pure ⟨rfl, again I9 q9⟩)
  exact codeAny_compStart_list (loop _ I4 st4) (T.self X.A 0 _ _ _ st4 (loop _ I4 st4))
end
end Pv

namespace Pv
open PySem PySem.Spec PyProof.Rows L2
theorem bz_len : bootBuiltins "len" = some (.builtin "len") := by decide +kernel
theorem bz_abs : bootBuiltins "abs" = some (.builtin "abs") := by decide +kernel
theorem bz_isinstance : bootBuiltins "isinstance" = some (.builtin "isinstance") := by decide +kernel
theorem bz_tuple : bootBuiltins "tuple" = some (.type "tuple") := by decide +kernel
theorem bz_int : bootBuiltins "int" = some (.type "int") := by decide +kernel
theorem bz_bool : bootBuiltins "bool" = some (.type "bool") := by decide +kernel
theorem bz_list : bootBuiltins "list" = some (.type "list") := by decide +kernel
theorem bz_all : bootBuiltins "all" = some (.builtin "all") := by decide +kernel
theorem bz_min : bootBuiltins "min" = some (.builtin "min") := by decide +kernel
theorem bz_max : bootBuiltins "max" = some (.builtin "max") := by decide +kernel
theorem bz_sorted : bootBuiltins "sorted" = some (.builtin "sorted") := by decide +kernel
noncomputable def RTs (X : Cx) (ifs : List Expr) (t : TT3) : Prop := ∃ tv, PTs X ifs tv ∧ RdT X.K tv t
theorem rts_nil {X : Cx} : RTs X [] tt3 := ⟨_, pts_nil, fun σ H Q ρ μ Q3 s m h k => k _ _ _ h (Kp.refl _) m⟩
theorem init_rel {K : Fg} {H : Hp} {ρ : St3} {σ : L2.St} (s : RSt K H ρ σ) (js : List (Option Nat)) : RSt K H (js.map fun j => j.bind (getI ρ)) (initV js σ) := by
  refine ⟨by simp [initV], fun i d e => ?_⟩
  rw [getI_eq, List.getElem?_map] at e
  unfold initV
  rw [List.getElem?_map]
  cases q : js[i]? with
  | none => rw [q] at e; cases e
  | some o =>
    rw [q] at e
    cases o with
    | none => simp at e
    | some j =>
      have e' : getI ρ j = some d := by simpa using e
      obtain ⟨v, h1, h2⟩ := s.at' j d e'
      exact ⟨v, by simp [h1], h2⟩
theorem RdE.comp {K : Fg} {js : List (Option Nat)} {wi : TI} {g : TG} {tc : TT} {te : TE} {ti : TI3} {g3 : TG3} {tc3 : TT3} {te3 : TE3} (ri : RdI K wi ti) (rg : RdG K g g3) (rt : RdT K tc tc3) (re : RdE K te te3) : RdE K (tComp js wi g tc te) (comp3 js ti g3 tc3 te3) := by
  intro σ H Q ρ μ Q3 s m h k
  refine ri σ H _ ρ μ _ s m h fun l S μ1 J H1 h1 k1 m1 ok p hp => ?_
  obtain ⟨W, w0, hS, hn, hs⟩ := h1 p (m1.free hp)
  have kn : Kp H1 (upd H1 p (.lst [])) := Kp.new hp
  refine ⟨fun i n σ2 H2 => n = l.length - i ∧ i ≤ l.length ∧ ∃ ρ2 μ2 ys, RSt K H2 ρ2 σ2 ∧ RelM K μ2 H2 ∧ Kp H1 H2 ∧ W (l.drop i) ys ρ2 μ2, ⟨l.length, rfl, Nat.zero_le _, _, _, [], (init_rel (s.mono k1) js).mono kn, m1.newL hp .nil, kn, w0⟩, ?_⟩
  rintro i n σ2 H2 ⟨rfl, hi, ρ2, μ2, ys, s2, m2, k2, w2⟩
  obtain ⟨hS2, hp2⟩ := hS _ _ _ _ w2
  by_cases hlt : i < l.length
  · rw [List.drop_eq_getElem_cons hlt] at w2
    obtain ⟨hz, h2⟩ := hs _ _ _ _ _ w2
    obtain ⟨ok1, _⟩ := ok i H2 μ2 k2 m2 hS2
    obtain ⟨go, yl⟩ := ok1 l[i] (List.getElem?_eq_getElem hlt)
    refine .inr ⟨go, fun x H3 y => ?_⟩
    obtain ⟨k3, m3, r3⟩ := yl x H3 y
    refine rg x l[i] σ2 H3 _ ρ2 μ2 _ (s2.mono k3) m3 r3 h2 fun ρ4 μ4 σ4 H4 h4 k4 s4 m4 => ?_
    refine rt σ4 H4 _ ρ4 μ4 _ s4 m4 h4 fun b μ5 H5 h5 k5 m5 => ?_
    have k15 : Kp H1 H5 := k2.trans (k3.trans (k4.trans k5))
    cases b with
    | false => exact ⟨l.length - (i + 1), by omega, rfl, hlt, ρ4, μ5, ys, s4.mono k5, m5, k15, h5⟩
    | true =>
      refine re σ4 H5 _ ρ4 μ5 _ (s4.mono k5) m5 h5 fun d μ6 v H6 h6 k6 r6 m6 => ?_
      obtain ⟨vs, hv, rv⟩ := m6 p ys h6.1
      refine ⟨vs, hv, by rw [← rv.length]; exact hz, l.length - (i + 1), by omega, rfl, hlt, ρ4, _, _, ((s4.mono k5).mono k6).mono (Kp.wr hv), m6.wr hv (rv.append (.cons r6 .nil)), (k15.trans k6).trans (Kp.wr hv), h6.2⟩
  · have e : i = l.length := by omega
    subst e
    rw [List.drop_length] at w2
    exact .inl ⟨(ok _ H2 μ2 k2 m2 hS2).2 (Nat.le_refl _), k _ _ _ _ (hn _ _ _ w2) (k1.trans k2) (.ref p) m2⟩
section
variable {X : Cx} {elt target iter : Expr} {ifs : List Expr} {pos : Pos} {ti : TI3} {g : TG3} {tc : TT3} {te : TE3} {NN : List Str} {scope : Scope} {cl : List (Str × Addr)} {js : List (Option Nat)}
theorem re_compG (hc : X.calm = true) (S : CompSc X NN scope cl js) (hi : RI X target iter ti) (hg : ∀ C fp s₀ H₀ pn, RG (compCx X NN scope cl C fp s₀ H₀ pn) target g)
    (ht : ∀ C fp s₀ H₀ pn, RTs (compCx X NN scope cl C fp s₀ H₀ pn) ifs tc) (he : ∀ C fp s₀ H₀ pn, RE (compCx X NN scope cl C fp s₀ H₀ pn) elt te)
    (hs : ∀ x, foldedSetIterable iter X.env x = pure x) : RE X (.ListComp elt [⟨target, iter, ifs, 0⟩] scope pos) (comp3 js ti g tc te) := by
  obtain ⟨wi, pi, ri⟩ := hi
  -- one reading for all blocks: the union of theirs
  let gU : TG := fun v σ H Q => ∀ (r : TG3), r = g → ∃ d ρ μ Q3, RSt X.K H ρ σ ∧ RelM X.K μ H ∧ RelD X.K H d v ∧ g d ρ μ Q3 ∧ (∀ ρ' μ' σ' H', Q3 ρ' μ' → Kp H H' → RSt X.K H' ρ' σ' → RelM X.K μ' H' → Q σ' H')
  let tU : TT := fun σ H Q => ∃ ρ μ Q3, RSt X.K H ρ σ ∧ RelM X.K μ H ∧ tc ρ μ Q3 ∧ (∀ b μ' H', Q3 b μ' → Kp H H' → RelM X.K μ' H' → Q b H')
  let eU : TE := fun σ H Q => ∃ ρ μ Q3, RSt X.K H ρ σ ∧ RelM X.K μ H ∧ te ρ μ Q3 ∧ Ks X.K H Q3 Q
  have hg' : ∀ C fp s₀ H₀ pn, PG (compCx X NN scope cl C fp s₀ H₀ pn) target gU := fun C fp s₀ H₀ pn => by
    obtain ⟨tv, p, r⟩ := hg C fp s₀ H₀ pn
    intro pins s σ H v u Q I rv h
    obtain ⟨d, ρ, μ, Q3, a1, a2, a3, a4, a5⟩ := h g rfl
    exact p pins s σ H v u Q I rv (r v d σ H Q ρ μ Q3 a1 a2 a3 a4 a5)
  have ht' : ∀ C fp s₀ H₀ pn, PTs (compCx X NN scope cl C fp s₀ H₀ pn) ifs tU := fun C fp s₀ H₀ pn => by
    obtain ⟨tv, p, r⟩ := ht C fp s₀ H₀ pn
    intro pins s σ H Q I h
    obtain ⟨ρ, μ, Q3, a1, a2, a3, a4⟩ := h
    exact p pins s σ H Q I (r σ H Q ρ μ Q3 a1 a2 a3 a4)
  have he' : ∀ C fp s₀ H₀ pn, PE (compCx X NN scope cl C fp s₀ H₀ pn) elt eU := fun C fp s₀ H₀ pn => by
    obtain ⟨tv, p, r⟩ := he C fp s₀ H₀ pn
    intro pins s σ H Q I h
    obtain ⟨ρ, μ, Q3, a1, a2, a3, a4⟩ := h
    exact p pins s σ H Q I (r σ H Q ρ μ Q3 a1 a2 a3 a4)
  exact ⟨_, pe_comp hc S pi hg' ht' he' hs, RdE.comp ri (fun v d σ H Q ρ μ Q3 a1 a2 a3 a4 a5 _ _ => ⟨d, ρ, μ, Q3, a1, a2, a3, a4, a5⟩) (fun σ H Q ρ μ Q3 a1 a2 a3 a4 => ⟨ρ, μ, Q3, a1, a2, a3, a4⟩) (fun σ H Q ρ μ Q3 a1 a2 a3 a4 => ⟨ρ, μ, Q3, a1, a2, a3, a4⟩)⟩
/-- no name of the body's is used within -/
theorem re_comp (hf : ∀ y ∈ scope.names, y.2 ≠ .free) (hcl : ∀ y ∈ scope.names, y.2 ≠ .cell) (hn : ∀ y ∈ scope.names, y.2 = .local → scope.names.lookup y.1 = some .local) (hi : RI X target iter ti) (hg : ∀ C fp s₀ H₀ pn, RG (compCx X NN scope [] C fp s₀ H₀ pn) target g)
    (ht : ∀ C fp s₀ H₀ pn, RTs (compCx X NN scope [] C fp s₀ H₀ pn) ifs tc) (he : ∀ C fp s₀ H₀ pn, RE (compCx X NN scope [] C fp s₀ H₀ pn) elt te) (hc : X.calm = true := by rfl) (hk : scope.kind = .function := by rfl)
    (hs : ∀ x, foldedSetIterable iter X.env x = pure x := by intro _; rfl) : RE X (.ListComp elt [⟨target, iter, ifs, 0⟩] scope pos) (comp3 (NN.map fun _ => none) ti g tc te) :=
  re_compG hc (CompSc.closed hf hcl hk hn) hi hg ht he hs
end
end Pv

namespace Pv
open PySem PySem.Spec PyProof.Rows L2
/-! ### the module's constants -/
mutual
inductive TupK (K : Fg) : List D → Addr → Prop where
  | mk {a : Addr} {l : List D} {its : Array Value} {n : Nat} {od : Option Addr} {sl : Array (Option Value)} : K.lookup a = some ⟨.type "tuple", od, .seq its n, sl⟩ → its.size ≤ sizeLine → ItK K l its.toList → TupK K l a
inductive ItK (K : Fg) : List D → List Value → Prop where
  | nil : ItK K [] []
  | int {i : Int} {t : Tok} {l : List D} {us : List Value} : ItK K l us → ItK K (.int i :: l) (.int i t :: us)
  | str {x : Str} {t : Tok} {l : List D} {us : List Value} : ItK K l us → ItK K (.str x :: l) (.str x t :: us)
  | bl {b : Bool} {l : List D} {us : List Value} : ItK K l us → ItK K (.bl b :: l) (.bool b :: us)
  | tup {a : Addr} {l' l : List D} {us : List Value} : TupK K l' a → ItK K l us → ItK K (.tup l' :: l) (.ref a :: us)
end
mutual
theorem TupK.rel {K : Fg} : ∀ {l : List D} {a : Addr}, TupK K l a → ∀ H, RelD K H (.tup l) (.ref a)
  | _, _, .mk h1 h2 h3, H => by
    obtain ⟨vs, r, rd⟩ := h3.rel
    exact .tup (.inr ⟨_, _, _, h1, rfl, rfl, h2, r⟩) (rd H)
theorem ItK.rel {K : Fg} : ∀ {l : List D} {us : List Value}, ItK K l us → ∃ vs, Vals vs us ∧ ∀ H, RelDs K H l vs
  | _, _, .nil => ⟨[], .nil, fun _ => .nil⟩
  | _, _, .int h => let ⟨vs, r, rd⟩ := h.rel; ⟨_, .cons (show RelV (.int _) _ from ⟨_, rfl⟩) r, fun H => .cons (.int _) (rd H)⟩
  | _, _, .str h => let ⟨vs, r, rd⟩ := h.rel; ⟨_, .cons (show RelV (.str _) _ from ⟨_, rfl⟩) r, fun H => .cons (.str _) (rd H)⟩
  | _, _, .bl h => let ⟨vs, r, rd⟩ := h.rel; ⟨_, .cons (show RelV (.bl _) _ from rfl) r, fun H => .cons (.bl _) (rd H)⟩
  | _, _, .tup h0 h => let ⟨vs, r, rd⟩ := h.rel; ⟨_, .cons (show RelV (.ref _) _ from rfl) r, fun H => .cons (h0.rel H) (rd H)⟩
end
section
variable {K : Fg} {h : Heap} {mg : Str → Option Value} {x : Str}
theorem gd_int {i : Int} {t : Tok} (X : K.In h) (G : h.Ns mainGlobals mg) (e : PySem.W.nsIn K mainGlobals x = some (some (.int i t))) : Gd K mg x (.int i) := ⟨_, .int i, PySem.W.mg_of X G e, ⟨_, rfl⟩, fun _ => .int i⟩
theorem gd_tup {a : Addr} {l : List D} (X : K.In h) (G : h.Ns mainGlobals mg) (e : PySem.W.nsIn K mainGlobals x = some (some (.ref a))) (r : TupK K l a) : Gd K mg x (.tup l) := ⟨_, .ref a, PySem.W.mg_of X G e, rfl, fun H => r.rel H⟩
end
/-! ### the law's own call -/
theorem ints_rels {K : Fg} {H : Hp} : ∀ ns : List Int, RelDs K H (ns.map D.int) (ns.map V.int)
  | [] => .nil
  | n :: r => .cons (.int n) (ints_rels r)
theorem law_lift {K : Fg} {H : Hp} {a : Addr} {ns : List Int} {sp : Sp3} (hO : Only H) (hS : SqL K H a (ns.map V.int)) (h : sp [.fls (ns.map D.int)] (fun _ => none) (fun d _ => d = .bl true)) :
    lift K sp [.ref a] H (fun v _ => v = .bl true) fun _ _ _ => False := by
  have hF : SqF K H a (ns.map V.int) := by
    rcases hS with (h1 | ⟨o, h1⟩) | h1
    · rcases hO a with z | ⟨o, xs, z⟩
      · rw [h1] at z; cases z
      · rw [h1] at z; cases z
    · exact .inl ⟨o, h1⟩
    · exact .inr h1
  refine ⟨_, _, _, .cons (.fls hF (ints_rels ns)) .nil, (⟨fun p xs e => (by cases e), fun p c fs e => (by cases e), fun p kvs e => (by cases e)⟩), h, fun d μ' v H' q _ r _ => ?_⟩
  subst q
  cases r
  rfl
end Pv

namespace Pv
open PySem PySem.Spec PyProof.Rows L2
open PySem.AutoSeq1 (wpAny_loadPart')
/-! ### a tuple so often -/
theorem tuple_mulW0 (l : Addr) (items : Array Value) (n : Nat) (dd : Option Addr) (sl : Array (Option Value)) (x : Int) (u : Tok) (hc0 : (decide (x < -(2 ^ 63)) || decide (x ≥ 2 ^ 63)) = false) (hc1 : (items.isEmpty || x == 1) = true) :
    Meets (Builtin.«tuple.__mul__» ⟨[.ref l, .int x u], []⟩) (fun _ R s => s.heap.get? l = some { cls := .type "tuple", dict := dd, data := .seq items n, slots := sl } ∧ R (.ok (.ret (.ref l))) s) :=
  .of_wp fun prog w A R s h => by
    obtain ⟨hp, g, d, tk, os⟩ := s; obtain ⟨hl, h⟩ := h
    have f1 := AutoSeq1.idx_int
    have f2 := AutoSeq1.sub_tuple_tuple
    wp_walk using wpAny_loadPart' hl
    refine wpAny_ite_false (decide_eq_false (by rw [hc0]; exact Bool.false_ne_true)) ?_
    wp_walk using wpAny_loadPart' hl
    exact ⟨_, rfl, h⟩
theorem tuple_mulW1 (l : Addr) (items : Array Value) (n : Nat) (dd : Option Addr) (sl : Array (Option Value)) (x : Int) (u : Tok) (hc0 : (decide (x < -(2 ^ 63)) || decide (x ≥ 2 ^ 63)) = false) (hc1 : (items.isEmpty || x == 1) = false) (hc2 : (decide (x ≤ 0) || items.isEmpty) = true) :
    Meets (Builtin.«tuple.__mul__» ⟨[.ref l, .int x u], []⟩) (fun _ R s => s.heap.get? l = some { cls := .type "tuple", dict := dd, data := .seq items n, slots := sl } ∧ R (.ok (.ret (.ref s.heap.objs.size))) { s with heap := s.heap.push { cls := .type "tuple", data := .seq #[] } }) :=
  .of_wp fun prog w A R s h => by
    obtain ⟨hp, g, d, tk, os⟩ := s; obtain ⟨hl, h⟩ := h
    have f1 := AutoSeq1.idx_int
    have f2 := AutoSeq1.sub_tuple_tuple
    wp_walk using wpAny_loadPart' hl
    refine wpAny_ite_false (decide_eq_false (by rw [hc0]; exact Bool.false_ne_true)) ?_
    wp_walk using wpAny_loadPart' hl
    exact ⟨_, rfl, h⟩
theorem tuple_mulW2 (l : Addr) (items : Array Value) (n : Nat) (dd : Option Addr) (sl : Array (Option Value)) (x : Int) (u : Tok) (hc0 : (decide (x < -(2 ^ 63)) || decide (x ≥ 2 ^ 63)) = false) (hc1 : (items.isEmpty || x == 1) = false) (hc2 : (decide (x ≤ 0) || items.isEmpty) = false)
    (hc3 : ¬ ((items.size : Int) * x > (2 ^ 63 - 1) / 8)) (hc4 : Builtin.Tuple.tupleTooMany ((items.size : Int) * x) = false) (hz : ((List.replicate x.toNat items).foldl (· ++ ·) #[]).size ≤ sizeLine) :
    Meets (Builtin.«tuple.__mul__» ⟨[.ref l, .int x u], []⟩) (fun _ R s => s.heap.get? l = some { cls := .type "tuple", dict := dd, data := .seq items n, slots := sl } ∧ R (.ok (.ret (.ref s.heap.objs.size))) { s with heap := s.heap.push { cls := .type "tuple", data := .seq ((List.replicate x.toNat items).foldl (· ++ ·) #[]) } }) :=
  .of_wp fun prog w A R s h => by
    obtain ⟨hp, g, d, tk, os⟩ := s; obtain ⟨hl, h⟩ := h
    have f1 := AutoSeq1.idx_int
    have f2 := AutoSeq1.sub_tuple_tuple
    wp_walk using wpAny_loadPart' hl
    refine wpAny_ite_false (decide_eq_false (by rw [hc0]; exact Bool.false_ne_true)) ?_
    wp_walk using wpAny_loadPart' hl
    refine wpAny_ite_false (decide_eq_false hc3) ?_
    wp_walk using wpAny_loadPart' hl
    all_goals try (refine wpAny_ite_false (decide_eq_false (by rw [hc4]; exact Bool.false_ne_true)) ?_)
    have hsz : ((List.replicate x.toNat items).foldl (· ++ ·) #[]).size ≤ sizeLine := hz
    wp_walk using wpAny_loadPart' hl
    exact ⟨_, rfl, h⟩

theorem noFill_tupleMul : fillsNumberSlot (.type "tuple") "mul" = pure false :=
  PySem.fillsNumberSlot_seq (id := "tuple.__mul__") (r := some (.builtin "tuple.__rmul__")) F.slot_tuple_mul.lookup (by decide +kernel) F.slot_tuple_rmul.lookup (by decide +kernel)
theorem repeat_tupleMul : seqRepeat? (.type "tuple") = pure (some (.builtin "tuple.__mul__")) := by
  unfold seqRepeat?
  rw [PySem.seqSlot_of F.slot_tuple_mul.lookup (T := "tuple") (name := "__mul__") (id := "tuple.__mul__") (by decide +kernel), PySem.seqSlot_of F.slot_tuple_rmul.lookup (T := "tuple") (name := "__rmul__") (id := "tuple.__rmul__") (by decide +kernel)]
  rfl
theorem int_rmul_tuple (a : Int) (t : Tok) (l : Addr) (its : Array Value) (n : Nat) (dd : Option Addr) (sl : Array (Option Value)) :
    Meets (Builtin.«int.__rmul__» ⟨[.int a t, .ref l], []⟩) (fun _ R s => s.heap.get? l = some ⟨.type "tuple", dd, .seq its n, sl⟩ ∧ R (.ok (.ret .notImplemented)) s) :=
  .of_wp fun prog w A R s h => by
    obtain ⟨hp, g, d, tk, os⟩ := s
    obtain ⟨hl, h⟩ := h
    wp_walk using wpAny_loadPart' hl
    exact ⟨_, rfl, h⟩
section
variable {X : Cx}
noncomputable def rRepT (K : Fg) : R2 := fun x y H Q => ∃ a k xs, x = .ref a ∧ y = .int k ∧ SqT K H a xs ∧ -(2 ^ 62) ≤ k ∧ k < 2 ^ 62 ∧ xs.length * k.toNat ≤ 1000000 ∧ (xs = [] ∨ k = 1 → Q (.ref a) H) ∧ ∀ p, H p = none → Q (.ref p) (upd H p (.tup (List.replicate k.toNat xs).flatten))
theorem op_repT : OpR X (binaryOp .Mult) (rRepT X.K) := by
  intro pins s σ H x y v u Q I rx ry h
  obtain ⟨a, k, xs, rfl, rfl, hq, h1, h2, hz, q1, q2⟩ := h
  cases rx
  obtain ⟨t, rfl⟩ := ry
  obtain ⟨its, r, ⟨⟨cls, dd, data, sl⟩, ho, hc, n, hd⟩, hl⟩ := I.tuple hq
  simp only at hc hd
  subst hc hd
  have hlen : its.length = xs.length := r.length.symm
  have c0 : (decide (k < -(2 ^ 63)) || decide (k ≥ 2 ^ 63)) = false := by
    rw [decide_eq_false (by omega), decide_eq_false (by omega)]; rfl
  refine wpAny_binaryOp_repeat_ref (T := "tuple") (U := "int") (by decide) ⟨_, ho, rfl⟩ (fun s' => typeIs_int s' k t) noFill_tupleMul F.fills_int_mul F.slot_int_rmul repeat_tupleMul F.slot_int_index.lookup
    (call_meets F.slot_int_rmul (typeIs_int s k t) F.entry_int_rmul (F.args_int_rmul_2 _ _) (int_rmul_tuple k t a its.toArray n dd sl) ⟨ho, rfl, ⟨_, ho, rfl⟩, ?_⟩)
  by_cases e1 : xs = [] ∨ k = 1
  · refine call_meets F.slot_tuple_mul ⟨_, ho, rfl⟩ F.entry_tuple_mul (F.args_tuple_mul_2 _ _) (tuple_mulW0 a its.toArray n dd sl k t c0 ?_) ⟨ho, ⟨.ref a, H, I, rfl, q1 e1⟩⟩
    rcases e1 with e1 | e1
    · subst e1; cases r; rfl
    · subst e1; simp
  · have hne : its ≠ [] := fun z => e1 (.inl (by subst z; cases r; rfl))
    have hk1 : k ≠ 1 := fun z => e1 (.inr z)
    have c1 : (its.toArray.isEmpty || k == 1) = false := by simp [hne, hk1]
    have hf : H s.heap.objs.size = none := I.hok.fresh (Nat.le_refl _)
    by_cases e2 : k ≤ 0
    · have hk0 : k.toNat = 0 := by omega
      refine call_meets F.slot_tuple_mul ⟨_, ho, rfl⟩ F.entry_tuple_mul (F.args_tuple_mul_2 _ _) (tuple_mulW1 a its.toArray n dd sl k t c0 c1 (by simp [e2])) ⟨ho, ?_⟩
      refine ⟨.ref _, upd H s.heap.objs.size (.tup []), I.laid (t' := s.toks) (fun b ob q => Heap.get?_push_of_some _ q) (Nat.le_refl _) ⟨by rw [sizeLine_eq]; decide, [], .nil, IsTup.new _ _⟩, rfl, ?_⟩
      have := q2 _ hf
      rw [hk0] at this
      exact this
    · have fr : List.foldl (· ++ ·) #[] (List.replicate k.toNat its.toArray) = (List.replicate k.toNat its).flatten.toArray := by
        have := foldl_rep its k.toNat []
        rw [List.nil_append] at this
        exact this
      have hb : (1000000 : Nat) ≤ sizeLine := by rw [sizeLine_eq]; decide
      have hm : (its.toArray.size : Int) * k ≤ 1000000 := by
        rw [List.size_toArray, hlen]
        have : ((xs.length * k.toNat : Nat) : Int) ≤ 1000000 := by omega
        rw [Int.natCast_mul, Int.toNat_of_nonneg (by omega)] at this
        exact this
      have hsz : (List.replicate k.toNat its).flatten.length ≤ sizeLine := by rw [len_rep, Nat.mul_comm, hlen]; omega
      refine call_meets F.slot_tuple_mul ⟨_, ho, rfl⟩ F.entry_tuple_mul (F.args_tuple_mul_2 _ _) (tuple_mulW2 a its.toArray n dd sl k t c0 c1 (by simp [hne]; omega) (by omega) ?_ (by rw [fr, List.size_toArray]; exact hsz)) ⟨ho, ?_⟩
      · unfold Builtin.Tuple.tupleTooMany
        rw [decide_eq_false (by omega)]
      · rw [fr]
        refine ⟨.ref _, upd H s.heap.objs.size (.tup (List.replicate k.toNat xs).flatten), I.laid (t' := s.toks) (fun b ob q => Heap.get?_push_of_some _ q) (Nat.le_refl _) ⟨?_, _, r.rep k.toNat, IsTup.new _ _⟩, rfl, q2 _ hf⟩
        rw [len_rep, Nat.mul_comm]; omega
theorem q_mul : RO X (binaryOp .Mult) mulR := by
  refine ⟨_, op_mulB.or (op_repT.or op_rep), fun x y v u H Q μ Q3 m rx ry h k => ?_⟩
  cases ry with
  | int j =>
    cases rx with
    | int i => exact .inl ⟨i, j, rfl, rfl, h.1, k _ _ _ _ h.2 (Kp.refl _) (.int _) m⟩
    | tup hq rs =>
      rename_i a l vs
      refine .inr (.inl ⟨a, j, vs, rfl, rfl, hq, h.1.1.1, h.1.1.2, by rw [← rs.length]; exact h.1.2, fun e => ?_, fun p hp => ?_⟩)
      · rcases e with e | e
        · subst e; cases rs
          have h2 := h.2
          have e : (List.replicate j.toNat ([] : List D)).flatten = [] := by simp
          rw [e] at h2
          exact k _ _ _ _ h2 (Kp.refl _) (.tup hq .nil) m
        · subst e
          have h2 := h.2
          have e : (List.replicate (1 : Int).toNat l).flatten = l := by simp
          rw [e] at h2
          exact k _ _ _ _ h2 (Kp.refl _) (.tup hq rs) m
      · exact k _ _ _ _ h.2 (Kp.new hp) (.tup (SqT.of upd_same) ((rs.rep _).mono (Kp.new hp))) (m.newT hp)
    | ref p =>
      dsimp only [mulR] at h
      cases e : μ p with
      | none => rw [e] at h; exact h.elim
      | some oo =>
        cases oo with
        | ins _ _ => rw [e] at h; exact h.elim
        | dct _ => rw [e] at h; exact h.elim
        | lst l =>
          rw [e] at h
          obtain ⟨vs, hv, rv⟩ := m p l e
          have hb : (1000000 : Nat) ≤ sizeLine := by rw [sizeLine_eq]; decide
          refine .inr (.inr ⟨p, j, vs, rfl, rfl, hv, by have := h.1.1.1; omega, by have := h.1.1.2; omega, by rw [← rv.length]; exact Nat.le_trans h.1.2 hb, fun t ht => ?_⟩)
          exact k _ _ _ _ (h.2 t (m.free ht)) (Kp.new ht) (.ref t) (m.newL ht (rv.rep _))
    | _ => exact False.elim h
  | _ => cases rx <;> exact False.elim h
/-! ### slices -/
theorem tup_whole {prog : Program} {w : World} {A : Around} {E : Value → Shared → Prop} {s : Shared} {t sl : Addr} {items : Array Value} {vl vu : Value} {lo hi : Option Int} {Q : Value → Shared → Prop} (ht : IsTup s.heap t items) (hs : s.heap.IsSliceOf sl vl vu .none) (pl : IsPart vl lo) (pu : IsPart vu hi)
    (hw : HT.sIx items.size 0 lo = 0 ∧ HT.sIx items.size items.size hi = items.size) (h : Q (.ref t) s) : wpAny (model prog w) A (getItem (.ref t) (.ref sl)) Q E s := by
  obtain ⟨os, hos, hcs, hds⟩ := id hs
  have hTs : s.TypeIs (.ref sl) "slice" := ⟨os, hos, hcs⟩
  unfold getItem
  try with_reducible refine wpAny_holding ?_
  first | refine wpAny_bind (wpAny_pure ?_) | skip
  refine wpAny_bind (wpAny_sequenceKey ht.typeIs (by decide) ?_)
  refine wpAny_bind (wpAny_callSpecial?_slot ht.typeIs (name := Str.ofString "__getitem__") PyProof.Rows.slot_tuple_getitem (wpAny_call_entry PyProof.Rows.slot_tuple_getitem ht.typeIs entry_tuple_getitem ?_ (args_tuple_getitem _ _)))
  show wpAny _ _ (Builtin.Tuple.tupleItemsOf (.ref t) >>= _) _ _ s
  refine wpAny_bind (tupleItemsOf_ ht ?_)
  refine wpAny_bind (wpAny_typeOf hTs ?_)
  rw [if_pos (by decide)]
  refine wpAny_bind (HT.sliceApplied_gen hs pl pu ?_)
  rw [hw.1, hw.2]
  show wpAny _ _ (if ((((0 : Nat) : Int) == 0 && (1 : Int) == 1 && (items.size - 0) == items.size) = true) then _ else _) _ _ s
  rw [if_pos (by simp)]
  refine wpAny_bind (m := Builtin.Tuple.tupleIsExact _) (wpAny_bind (wpAny_typeOf ht.typeIs (wpAny_pure ?_)))
  rw [if_pos (by decide)]
  refine wpAny_bind (wpAny_rule ?_)
  first
    | exact wpAny_pure ⟨_, rfl, wpAny_pure h⟩
    | exact wpAny_bind (wpAny_pure (wpAny_pure ⟨_, rfl, wpAny_pure h⟩))
    | exact wpAny_bind (wpAny_bind (wpAny_pure (wpAny_pure (wpAny_pure ⟨_, rfl, wpAny_pure h⟩))))
noncomputable def rSlA (K : Fg) : V → Option Int → Option Int → Hp → VK → Prop := fun x lo hi H Q => ∃ a xs, x = .ref a ∧ SqT K H a xs ∧ (cutV xs lo hi = xs → Q (.ref a) H) ∧ ∀ p, H p = none → Q (.ref p) (upd H p (.tup (cutV xs lo hi)))
theorem sl_tupA : SlR X (rSlA X.K) := by
  intro pins s σ H x v vl vu lo hi sl Q I rx hs pl pu h
  obtain ⟨a, xs, rfl, hx, q1, q2⟩ := h
  by_cases hw : HT.sIx xs.length 0 lo = 0 ∧ HT.sIx xs.length xs.length hi = xs.length
  · cases rx
    obtain ⟨its, r, ht, hz⟩ := I.tuple hx
    have hlen : its.toArray.size = xs.length := by rw [List.size_toArray]; exact r.length.symm
    have e : cutV xs lo hi = xs := by unfold cutV; rw [hw.1, hw.2]; simp
    exact ⟨"tuple", _, PyProof.Rows.slot_tuple_getitem.lookup, ht.typeIs, tup_whole ht hs pl pu (by rw [hlen]; exact hw) ⟨.ref a, H, I, rfl, q1 e⟩⟩
  · exact sl_tup pins s σ H _ v vl vu lo hi sl Q I rx hs pl pu ⟨a, xs, rfl, hx, hw, q2⟩
theorem sIx3_eq : ∀ (n d : Nat) (o : Option Int), HT.sIx n d o = sIx3 n d o
  | _, _, none => rfl
  | _, _, some _ => rfl
theorem RelDs.cut {K : Fg} {H : Hp} {l : List D} {vs : List V} (r : RelDs K H l vs) (lo hi : Option Int) : RelDs K H (cut3 l lo hi) (cutV vs lo hi) := by
  unfold cut3 cutV
  rw [← r.length]
  simp only [sIx3_eq]
  exact (r.drop _).take _
noncomputable def RdP (K : Fg) (tv : TO) (t : TO3) : Prop := ∀ σ H Q ρ μ Q3, RSt K H ρ σ → RelM K μ H → t ρ μ Q3 → (∀ o μ' H', Q3 o μ' → Kp H H' → RelM K μ' H' → Q o H') → tv σ H Q
noncomputable def RP (X : Cx) (e : Option Expr) (t : TO3) : Prop := ∃ tv, PO X e tv ∧ RdP X.K tv t
theorem ro_none : RP X none np3 := ⟨_, po_none, fun σ H Q ρ μ Q3 s m h k => k _ _ _ h (Kp.refl _) m⟩
theorem ro_some {e : Expr} {te : TE3} (h : RE X e te) : RP X (some e) (pt3 te) := by
  obtain ⟨tv, p, r⟩ := h
  refine ⟨_, po_some p, fun σ H Q ρ μ Q3 s m h k => r σ H _ ρ μ _ s m h fun d μ1 v H1 h1 k1 r1 m1 => ?_⟩
  cases r1 with
  | int i => exact ⟨i, rfl, k _ _ _ h1 k1 m1⟩
  | _ => exact False.elim h1
noncomputable def RL (X : Cx) (r3 : D → Option Int → Option Int → Mu → VK3 → Prop) : Prop := ∃ r, SlR X r ∧ ∀ x v lo hi H Q μ Q3, RelM X.K μ H → RelD X.K H x v → r3 x lo hi μ Q3 → Ks X.K H Q3 Q → r v lo hi H Q
noncomputable def rSlS : V → Option Int → Option Int → Hp → VK → Prop := fun x lo hi H Q => ∃ z : Str, x = .str z ∧ z.length ≤ sizeLine ∧ Q (.str ⟨(cut3 z.cps.toList lo hi).toArray⟩) H
theorem strIx (lo hi : Option Int) (n : Nat) : Builtin.Str.strSliceIndices lo hi 1 n = sliceRange ((sIx3 n 0 lo : Nat) : Int) ((sIx3 n n hi : Nat) : Int) 1 := by
  unfold Builtin.Str.strSliceIndices
  have a1 : ∀ (d : Nat) (v : Option Int), (match v with | none => ((d : Nat) : Int) | some i => (if (1 : Int) > 0 then max 0 (min (if i < 0 then i + (n : Int) else i) (n : Int)) else max (-1) (min (if i < 0 then i + (n : Int) else i) ((n : Int) - 1)))) = ((sIx3 n d v : Nat) : Int) := fun d v => by
    cases v with
    | none => rfl
    | some i =>
      simp only [sIx3, show (1 : Int) > 0 by decide, if_true]
      by_cases h : i < 0
      · simp only [h, if_true]; omega
      · simp only [h, if_false]; omega
  have e1 := a1 0 lo
  have e2 := a1 n hi
  simp only [show (1 : Int) > 0 by decide, if_true] at e1 e2 ⊢
  rw [← e1, ← e2]
  cases lo <;> cases hi <;> rfl
theorem six_le (n : Nat) (o : Option Int) : sIx3 n n o ≤ n := by
  cases o with
  | none => exact Nat.le_refl _
  | some v =>
    show (if v < 0 then (v + (n : Int)).toNat else min v.toNat n) ≤ n
    split <;> omega
theorem sl_str : SlR X rSlS := by
  intro pins s σ H x v vl vu lo hi sl Q I rx hs pl pu h
  obtain ⟨z, rfl, hz, q⟩ := h
  obtain ⟨t, rfl⟩ := rx
  refine ⟨"str", _, F.slot_str_getitem.lookup, typeIs_str _ _ _, ?_⟩
  have hl : ∃ l : Option (Int × Tok), partValue l = vl ∧ l.map (·.1) = lo := by
    cases pl with
    | none => exact ⟨none, rfl, rfl⟩
    | int i t => exact ⟨some (i, t), rfl, rfl⟩
  have hu : ∃ u : Option (Int × Tok), partValue u = vu ∧ u.map (·.1) = hi := by
    cases pu with
    | none => exact ⟨none, rfl, rfl⟩
    | int i t => exact ⟨some (i, t), rfl, rfl⟩
  obtain ⟨l, rfl, rfl⟩ := hl
  obtain ⟨u, rfl, rfl⟩ := hu
  refine wpAny_getItem_str_slice (l := l) (u := u) (st := none) hs rfl ?_
  have e : (slicePicked z l u none).filterMap (z.cps[·]?) = cut3 z.cps.toList (l.map (·.1)) (u.map (·.1)) := by
    unfold slicePicked
    show (Builtin.Str.strSliceIndices _ _ 1 z.length).filterMap (z.cps[·]?) = _
    rw [strIx, sliceRange_one, pick_run]
    unfold cut3
    rw [Array.length_toList]
    rfl
  unfold sliceMade
  split
  · next hw =>
    have hlen : (slicePicked z l u none).length = z.length := by
      rw [Bool.and_eq_true] at hw
      simpa using hw.2
    have ez : cut3 z.cps.toList (l.map (·.1)) (u.map (·.1)) = z.cps.toList := by
      have h1 : (Builtin.Str.strSliceIndices (l.map (·.1)) (u.map (·.1)) 1 z.length).length = z.length := hlen
      rw [strIx, sliceRange_one, List.length_map, List.length_range] at h1
      have h2 := six_le z.length (u.map (·.1))
      have hs : z.length = z.cps.size := rfl
      unfold cut3
      rw [Array.length_toList, ← hs]
      rcases Nat.eq_zero_or_pos z.length with h0 | h0
      · have : z.cps.toList = [] := List.eq_nil_of_length_eq_zero (by rw [Array.length_toList, ← hs]; exact h0)
        rw [this]; simp
      · have ha : sIx3 z.length 0 (l.map (·.1)) = 0 := by omega
        rw [ha, List.drop_zero]
        exact List.take_of_length_le (by rw [Array.length_toList, ← hs]; omega)
    rw [ez] at q
    exact ⟨.str z, H, I, ⟨t, rfl⟩, q⟩
  · rw [e]
    refine ⟨?_, .str _, H, I.tok _, ⟨_, rfl⟩, q⟩
    refine Nat.le_trans ?_ hz
    show (cut3 z.cps.toList (l.map (·.1)) (u.map (·.1))).toArray.size ≤ z.cps.size
    rw [List.size_toArray]
    unfold cut3
    rw [List.length_take, List.length_drop, Array.length_toList]
    omega
theorem q_sl : RL X slR := by
  refine ⟨_, (sl_tupA.or sl_list).or sl_str, fun x v lo hi H Q μ Q3 m rx h k => ?_⟩
  cases rx with
  | str z => exact .inr ⟨z, rfl, h.1, k _ _ _ _ h.2 (Kp.refl _) (.str _) m⟩
  | tup hq rs =>
    refine .inl <| .inl ⟨_, _, rfl, hq, fun e => ?_, fun p hp => k _ _ _ _ h (Kp.new hp) (.tup (SqT.of upd_same) ((rs.cut lo hi).mono (Kp.new hp))) (m.newT hp)⟩
    refine k _ _ _ _ h (Kp.refl _) (.tup hq ?_) m
    have := rs.cut lo hi
    rw [e] at this
    exact this
  | fls hq rs => exact .inl <| .inr ⟨_, _, rfl, hq.l, fun p hp => k _ _ _ _ (h p (m.free hp)) (Kp.new hp) (.ref p) (m.newL hp (rs.cut lo hi))⟩
  | ref p =>
    dsimp only [slR] at h
    cases e : μ p with
    | none => rw [e] at h; exact h.elim
    | some oo =>
      cases oo with
      | ins _ _ => rw [e] at h; exact h.elim
      | dct _ => rw [e] at h; exact h.elim
      | lst l =>
        rw [e] at h
        obtain ⟨vs, hv, rs⟩ := m p l e
        exact .inl <| .inr ⟨p, vs, rfl, SqL.of hv, fun t ht => k _ _ _ _ (h t (m.free ht)) (Kp.new ht) (.ref t) (m.newL ht (rs.cut lo hi))⟩
  | _ => exact False.elim h
theorem re_slice {e : Expr} {te : TE3} {lo hi : Option Expr} {tl th : TO3} {pos p2 : Pos} {r3 : D → Option Int → Option Int → Mu → VK3 → Prop} (hr : RL X r3) (he : RE X e te) (hl : RP X lo tl) (hu : RP X hi th) : RE X (.Subscript e (.Slice lo hi none p2) pos) (sl3 r3 te tl th) := by
  obtain ⟨r, pr, rr⟩ := hr
  obtain ⟨va, pa, ra⟩ := he
  obtain ⟨vb, pb, rb⟩ := hl
  obtain ⟨vc, pc, rc⟩ := hu
  exact ⟨_, pe_slice pr pa pb pc, fun σ H Q ρ μ Q3 s m h k => ra σ H _ ρ μ _ s m h fun x μ1 v H1 h1 k1 r1 m1 => rb σ H1 _ ρ μ1 _ (s.mono k1) m1 h1 fun l μ2 H2 h2 k2 m2 => rc σ H2 _ ρ μ2 _ ((s.mono k1).mono k2) m2 h2 fun u μ3 H3 h3 k3 m3 =>
    rr x v l u H3 Q μ3 Q3 m3 (r1.mono (k2.trans k3)) h3 (k.after (k1.trans (k2.trans k3)))⟩
/-! ### all, any of a list of truths -/
theorem bls_rel {K : Fg} {H : Hp} : ∀ {l : List D} {vs : List V} {bs : List Bool}, RelDs K H l vs → bls? l = some bs → vs = bs.map V.bl
  | _, _, bs, .nil, e => by simp [bls?] at e; subst e; rfl
  | _, _, bs, .cons h r, e => by
    cases h with
    | bl x =>
      simp only [bls?] at e
      split at e
      · next ys e1 =>
        simp only [Option.some.injEq] at e
        subst e
        rw [bls_rel r e1]; rfl
      · cases e
    | _ => simp [bls?] at e
theorem vals_bls : ∀ {bs : List Bool} {us : List Value}, Vals (bs.map V.bl) us → us = bs.map Value.bool
  | [], _, r => by cases r; rfl
  | b :: bs, _, r => by
    cases r with
    | cons r1 r2 => cases r1; rw [vals_bls r2]; rfl
theorem truth_bls (prog : Program) (w : World) (A : Around) (bs : List Bool) : TruthOf prog w A (fun i v => (bs.map Value.bool).toArray[i]? = some v) (fun i => bs.getD i false) := by
  intro i v s Q E hP hQ
  have hP' : (bs.map Value.bool)[i]? = some v := by simpa using hP
  rw [List.getElem?_map] at hP'
  cases e : bs[i]? with
  | none => rw [e] at hP'; cases hP'
  | some b =>
    rw [e] at hP'
    simp only [Option.map_some, Option.some.injEq] at hP'
    subst hP'
    refine wpAny_truthy_bool ?_
    have : bs.getD i false = b := by rw [List.getD_eq_getElem?_getD, e]; rfl
    dsimp only at hQ
    rw [this] at hQ
    exact hQ
theorem range_all (bs : List Bool) : (List.range bs.length).all (fun i => bs.getD i false) = bs.all id := by
  rw [Bool.eq_iff_iff, List.all_eq_true, List.all_eq_true]
  constructor
  · intro h x hx
    obtain ⟨i, hi, rfl⟩ := List.mem_iff_getElem.mp hx
    have := h i (List.mem_range.mpr hi)
    rw [List.getD_eq_getElem?_getD, List.getElem?_eq_getElem hi] at this
    exact this
  · intro h i hi
    have hi' := List.mem_range.mp hi
    rw [List.getD_eq_getElem?_getD, List.getElem?_eq_getElem hi']
    exact h _ (List.getElem_mem hi')
theorem call_allL (hc : X.calm = true) : CallR X (.builtin "all") (fun xs H Q => ∃ (p : Addr) (bs : List Bool), xs = [.ref p] ∧ SqL X.K H p (bs.map V.bl) ∧ Q (.bl (bs.all id)) H) := by
  intro pins s σ H xs us Q I r h
  obtain ⟨p, bs, rfl, hq, q⟩ := h
  obtain ⟨u, rfl, rx⟩ := vals1 r
  cases rx
  obtain ⟨its, r', pl, hz⟩ := I.list hq
  have eu := vals_bls r'
  subst eu
  refine call_all_walk (wpAny_pyIter_list pl.isList ?_)
  have hlt : p < s.heap.objs.size := by obtain ⟨o, ho, _⟩ := pl.isList; exact Heap.lt_size ho
  refine ⟨_, _, _, _, _, _, _, rfl, Walks.list (A := X.A.in1) (I.ok.hd hc) _ p (Nat.ne_of_lt hlt) _, ⟨⟨_, Heap.get?_push_size _ rfl, rfl, rfl⟩, pl.isList.at fun o e => Heap.get?_push_of_some _ e⟩, truth_bls _ _ _ bs, fun h' tk hk => ?_⟩
  have e : (bs.map Value.bool).toArray.size = bs.length := by simp
  rw [e, range_all]
  refine ⟨.bl _, H, I.kept (t' := tk) fun b o eb => hk b o ?_ (Heap.get?_push_of_some _ eb), rfl, q⟩
  intro z
  rw [List.mem_singleton] at z
  rw [z] at eb
  exact absurd (Heap.lt_size eb) (Nat.lt_irrefl _)
theorem RdC.bools {K : Fg} {f : List Bool → Bool} {r3 : C3} (hr : ∀ ds μ Q3, r3 ds μ Q3 → ∃ p l bs, ds = [.ref p] ∧ μ p = some (.lst l) ∧ bls? l = some bs ∧ Q3 (.bl (f bs)) μ) :
    RdC K (fun xs H Q => ∃ (p : Addr) (bs : List Bool), xs = [.ref p] ∧ SqL K H p (bs.map V.bl) ∧ Q (.bl (f bs)) H) r3 := fun xs vs H Q μ Q3 m r h k => by
  obtain ⟨p, l, bs, rfl, e, e1, q⟩ := hr _ _ _ h
  cases r with
  | cons r1 r2 =>
    cases r2
    cases r1
    obtain ⟨us, hv, rs⟩ := m p l e
    have ev := bls_rel rs e1
    subst ev
    exact ⟨p, bs, rfl, SqL.of hv, k _ _ _ _ q (Kp.refl _) (.bl _) m⟩
theorem q_all (hc : X.calm = true := by rfl) : RC X (.builtin "all") allR := by
  refine ⟨_, call_allL hc, RdC.bools fun ds μ Q3 h => ?_⟩
  unfold allR at h
  split at h
  · split at h
    · next p _ l e =>
      split at h
      · next bs e1 => exact ⟨p, l, bs, rfl, e, e1, h⟩
      · exact h.elim
    · exact h.elim
  · exact h.elim
end
end Pv

namespace Pv
open PySem PySem.Spec PyProof.Rows L2
open PySem.AutoSeq1 (wpAny_loadPart')
/-! ### min of two pairs of ints -/
theorem lt_pair (p q : Addr) (a b c d : Int) (t1 t2 t3 t4 : Tok) (n m : Nat) (dd dd2 : Option Addr) (sl sl2 : Array (Option Value)) :
    Meets (Builtin.«tuple.__lt__» ⟨[.ref p, .ref q], []⟩) (fun A R s => s.heap.get? p = some { cls := .type "tuple", dict := dd, data := .seq #[.int a t1, .int b t2] n, slots := sl } ∧ s.heap.get? q = some { cls := .type "tuple", dict := dd2, data := .seq #[.int c t3, .int d t4] m, slots := sl2 } ∧
      R (.ok (.ret (.bool (ltP a b c d)))) s) :=
  .of_wp fun prog w A R s h => by
    obtain ⟨hp, g, dr, tk, os⟩ := s; obtain ⟨hl, hb, h⟩ := h
    have f2 := AutoSeq1.sub_tuple_tuple
    have lt : ∀ (x y : Int) (tx ty : Tok) {Q : Value → Shared → Prop} {E : Value → Shared → Prop} {A : Around} {s : Shared}, Q (.bool (decide (x < y))) s → wpAny (model prog w) A (richCompare .Lt (.int x tx) (.int y ty)) Q E s := fun x y tx ty Q E A s hq => wpAny_lt_int hq
    have eqb : ∀ (x y : Int) (tx ty : Tok) {Q : Bool → Shared → Prop} {E : Value → Shared → Prop} {A : Around} {s : Shared}, Q (x == y) s → wpAny (model prog w) A (eqBool (.int x tx) (.int y ty)) Q E s := fun x y tx ty Q E A s hq => wpAny_eqBool_int hq
    wp_walk using wpAny_loadPart' hl, wpAny_loadPart' hb, eqb a c t1 t3
    by_cases h1 : a = c
    · rw [show (a == c) = true by simpa using h1]
      wp_walk using eqb b d t2 t4
      by_cases h2 : b = d
      · rw [show (b == d) = true by simpa using h2]
        wp_walk
        have h' : R (.ok (.ret (.bool false))) ⟨hp, g, dr, tk, os⟩ := by simpa [ltP, h1, h2] using h
        exact ⟨_, rfl, h'⟩
      · rw [show (b == d) = false by simpa using h2]
        wp_walk using lt b d t2 t4
        exact ⟨_, rfl, by simpa [ltP, h1] using h⟩
    · rw [show (a == c) = false by simpa using h1]
      wp_walk using lt a c t1 t3
      exact ⟨_, rfl, by simpa [ltP, h1] using h⟩
section
variable {prog : Program} {w : World} {A : Around} {R : Result → Shared → Prop} {I : Addr} {fp wr : List Addr} {n : Nat} {P : Nat → Value → Prop} {St : Nat → Heap → Prop}
theorem hname : (toString "min" ++ toString ".loop" : String) = "min.loop" := by decide
theorem ml_end (W : Walks prog w A.in1 I fp wr n P St) (S : Addr) (hSf : S ∉ fp) (s : Shared) (vb : Value) (c : Nat) (hst : St n s.heap)
    (hS : s.heap.get? S = some { cls := .type "list", dict := none, data := .seq #[vb, vb] c, slots := #[] })
    (hR : ∀ h' tk, (∀ b o, b ∉ wr → b ≠ S → s.heap.get? b = some o → h'.get? b = some o) → R (.ok (.ret vb)) { s with heap := h', toks := tk }) :
    codeAny (model prog w) A (.builtin "min.loop" ⟨[.ref I, .none, .ref S], []⟩) R s := by
  have hSw : S ∉ wr := fun h => hSf (W.sub _ h)
  refine codeAny_builtin F.entry_min_loop ?_
  rw [Around.under_plainId F.plain_min_loop _]
  show wpAny _ A.in1 (seqItems? (.ref S) >>= _) _ _ s
  refine wpAny_bind (wpAny_seqItems hS rfl ?_)
  show wpAny _ A.in1 (tryCatch (pyNext (.ref I)) _ >>= _) _ _ s
  refine wpAny_bind (wpAny_tryCatch (W.done s _ _ hst fun h' tk hk' => ?_))
  have hS' := hk' S _ hSw hS
  show wpAny _ A.in1 (updateSeq S (fun _ => #[]) >>= _) _ _ _
  refine wpAny_bind ?_
  refine wpAny_updateSeq hS' rfl (wpAny_bind (wpAny_letGo (wpAny_pure ?_)))
  exact hR _ tk fun b o hbw hbS e => (Heap.get?_update_other _ _ (Ne.symm hbS)).trans (hk' b o hbw e)
theorem ml_turn (W : Walks prog w A.in1 I fp wr n P St) (S : Addr) (hSf : S ∉ fp) (s : Shared) (vb v0 : Value) (r : Bool) (c j : Nat) (hlt : j < n) (hj : j + 1 = n) (hst : St j s.heap) (hv : ∀ v, P j v → v = v0)
    (hcmp : ∀ (h' : Heap) (tk : Nat) (Q : Value → Shared → Prop) (E : Value → Shared → Prop), (∀ b o, b ∉ wr → s.heap.get? b = some o → h'.get? b = some o) → Q (.bool r) { s with heap := h', toks := tk } → wpAny (model prog w) A.in1 (richCompare .Lt v0 vb) Q E { s with heap := h', toks := tk })
    (hS : s.heap.get? S = some { cls := .type "list", dict := none, data := .seq #[vb, vb] c, slots := #[] })
    (hR : ∀ h' tk, (∀ b o, b ∉ wr → b ≠ S → s.heap.get? b = some o → h'.get? b = some o) → R (.ok (.ret (if r then v0 else vb))) { s with heap := h', toks := tk }) :
    codeAny (model prog w) A (.builtin "min.loop" ⟨[.ref I, .none, .ref S], []⟩) R s := by
  have hSw : S ∉ wr := fun h => hSf (W.sub _ h)
  refine codeAny_builtin F.entry_min_loop ?_
  rw [Around.under_plainId F.plain_min_loop _]
  show wpAny _ A.in1 (seqItems? (.ref S) >>= _) _ _ s
  refine wpAny_bind (wpAny_seqItems hS rfl ?_)
  show wpAny _ A.in1 (tryCatch (pyNext (.ref I)) _ >>= _) _ _ s
  refine wpAny_bind (wpAny_tryCatch (W.item j s _ _ hlt hst fun v h' tk hP hst' hk' => ?_))
  obtain rfl := hv v hP
  have hS' := hk' S _ hSw hS
  show wpAny _ A.in1 (tryCatch (holding [v, v] (richCompare .Lt v vb >>= _)) _ >>= _) _ _ _
  refine wpAny_bind (wpAny_tryCatch (wpAny_holding (wpAny_bind (hcmp h' tk _ _ hk' ?_))))
  refine wpAny_bind (wpAny_holding (wpAny_truthy_bool ?_))
  refine wpAny_bind (wpAny_letGo (wpAny_pure ?_))
  cases r with
  | true =>
    simp only [if_true]
    refine wpAny_bind ?_
    refine wpAny_updateSeq hS' rfl (wpAny_bind (wpAny_letGo ?_))
    rw [hname]
    refine wpAny_pure ⟨plainId_quiet F.plain_min_loop _, ml_end W S hSf _ v _ (hj ▸ W.frame _ _ _ hst' fun b hbf o e => ?_) (Heap.get?_update_self _ hS' rfl) fun h'' tk'' hk'' => ?_⟩
    · exact (Heap.get?_update_other _ _ (fun h : S = b => hSf (by rw [h]; exact hbf))).trans e
    · exact hR h'' tk'' fun b o hbw hbS e => hk'' b o hbw hbS ((Heap.get?_update_other _ _ (Ne.symm hbS)).trans (hk' b o hbw e))
  | false =>
    simp only [Bool.false_eq_true, if_false]
    refine wpAny_bind (wpAny_letGo ?_)
    rw [hname]
    refine wpAny_pure ⟨plainId_quiet F.plain_min_loop _, ml_end W S hSf _ vb c (hj ▸ hst') hS' fun h'' tk'' hk'' => ?_⟩
    exact hR h'' tk'' fun b o hbw hbS e => hk'' b o hbw hbS (hk' b o hbw e)
theorem ml_two (W : Walks prog w A.in1 I fp wr 2 P St) (S : Addr) (hSf : S ∉ fp) (s : Shared) (va vb : Value) (r : Bool) (c : Nat) (hst : St 0 s.heap) (hva : ∀ v, P 0 v → v = va) (hvb : ∀ v, P 1 v → v = vb)
    (hcmp : ∀ (h' : Heap) (tk : Nat) (Q : Value → Shared → Prop) (E : Value → Shared → Prop), (∀ b o, b ∉ wr → b ≠ S → s.heap.get? b = some o → h'.get? b = some o) → Q (.bool r) { s with heap := h', toks := tk } → wpAny (model prog w) A.in1 (richCompare .Lt vb va) Q E { s with heap := h', toks := tk })
    (hS : s.heap.get? S = some { cls := .type "list", dict := none, data := .seq #[] c, slots := #[] })
    (hR : ∀ h' tk, (∀ b o, b ∉ wr → b ≠ S → s.heap.get? b = some o → h'.get? b = some o) → R (.ok (.ret (if r then vb else va))) { s with heap := h', toks := tk }) :
    codeAny (model prog w) A (.builtin "min.loop" ⟨[.ref I, .none, .ref S], []⟩) R s := by
  have hSw : S ∉ wr := fun h => hSf (W.sub _ h)
  refine codeAny_builtin F.entry_min_loop ?_
  rw [Around.under_plainId F.plain_min_loop _]
  show wpAny _ A.in1 (seqItems? (.ref S) >>= _) _ _ s
  refine wpAny_bind (wpAny_seqItems hS rfl ?_)
  show wpAny _ A.in1 (tryCatch (pyNext (.ref I)) _ >>= _) _ _ s
  refine wpAny_bind (wpAny_tryCatch (W.item 0 s _ _ (by decide) hst fun v h' tk hP hst' hk' => ?_))
  obtain rfl := hva v hP
  have hS' := hk' S _ hSw hS
  show wpAny _ A.in1 (updateSeq S (fun _ => #[v, v]) >>= _) _ _ _
  refine wpAny_bind ?_
  refine wpAny_updateSeq hS' rfl ?_
  rw [hname]
  have up : ∀ (f : Obj → Obj) b o, b ∉ wr → b ≠ S → s.heap.get? b = some o → Heap.get? (h'.update S f) b = some o := fun f b o hbw hbS e => (Heap.get?_update_other _ _ (Ne.symm hbS)).trans (hk' b o hbw e)
  refine wpAny_pure ⟨plainId_quiet F.plain_min_loop _, ml_turn W S hSf _ v vb r _ 1 (by decide) rfl (W.frame _ _ _ hst' fun b hbf o e => ?_) hvb (fun h2 tk2 Q E hk2 hq => ?_) (Heap.get?_update_self _ hS' rfl) fun h'' tk'' hk'' => ?_⟩
  · exact (Heap.get?_update_other _ _ (fun h : S = b => hSf (by rw [h]; exact hbf))).trans e
  · exact hcmp h2 tk2 Q E (fun b o hbw hbS e => hk2 b o hbw (up _ b o hbw hbS e)) hq
  · exact hR h'' tk'' fun b o hbw hbS e => hk'' b o hbw hbS (up _ b o hbw hbS e)
end
section
variable {prog : Program} {w : World} {A : Around} {E : Value → Shared → Prop} {s : Shared}
theorem min_two_of {va vb : Value} {r : Bool} {Q : Value → Shared → Prop} (hh : A.handled = none)
    (hcmp : ∀ (h' : Heap) (tk : Nat) (Q : Value → Shared → Prop) (E : Value → Shared → Prop), (∀ b o, s.heap.get? b = some o → h'.get? b = some o) → Q (.bool r) { s with heap := h', toks := tk } → wpAny (model prog w) A.in1 (richCompare .Lt vb va) Q E { s with heap := h', toks := tk })
    (h : ∀ h' tk, (∀ c o, s.heap.get? c = some o → h'.get? c = some o) → Q (if r then vb else va) { s with heap := h', toks := tk }) :
    wpAny (model prog w) A (call (.builtin "min") [va, vb]) Q E s := by
  refine call_function_tree F.kind_min F.plain_min F.entry_min (F.args_min2 _ _) ?_
  show wpAny _ A.in1 (Builtin.Builtins.bindParams "min" ["key", "default"] 0 ⟨[], []⟩ >>= _) _ _ s
  refine wpAny_bind (wpAny_of_eq (show Builtin.Builtins.bindParams "min" ["key", "default"] 0 ⟨[], []⟩ = pure [none, none] from rfl) ?_)
  show wpAny _ A.in1 (newTuple [va, vb] >>= _) _ _ s
  refine wpAny_bind (wpAny_newObj_type ?_)
  have hT : (s.heap.push { cls := .type "tuple", data := .seq #[va, vb] }).IsTuple s.heap.objs.size #[va, vb] := ⟨_, Heap.get?_push_size _ rfl, rfl, 0, rfl⟩
  refine wpAny_bind (wpAny_pyIter_tuple (s := { s with heap := s.heap.push { cls := .type "tuple", data := .seq #[va, vb] } }) hT ?_)
  have hsz : (s.heap.push { cls := .type "tuple", data := .seq #[va, vb] }).objs.size = s.heap.objs.size + 1 := Heap.size_push ..
  refine wpAny_bind (wpAny_newObj_type ?_)
  rw [hname]
  have hsz2 : ((s.heap.push { cls := .type "tuple", data := .seq #[va, vb] }).push { cls := .type "tuple_iterator", data := .fields #[.ref s.heap.objs.size, .int 0 0] }).objs.size = s.heap.objs.size + 2 := by rw [Heap.size_push, hsz]
  have keep : ∀ c o, s.heap.get? c = some o → Heap.get? (((s.heap.push { cls := .type "tuple", data := .seq #[va, vb] }).push { cls := .type "tuple_iterator", data := .fields #[.ref s.heap.objs.size, .int 0 0] }).push { cls := .type "list", data := .seq #[] }) c = some o := fun c o e => Heap.get?_push_of_some _ (Heap.get?_push_of_some _ (Heap.get?_push_of_some _ e))
  have off : ∀ (c : Addr) (o : Obj), s.heap.get? c = some o → c ∉ [(s.heap.push { cls := .type "tuple", data := .seq #[va, vb] }).objs.size] ∧ c ≠ ((s.heap.push { cls := .type "tuple", data := .seq #[va, vb] }).push { cls := .type "tuple_iterator", data := .fields #[.ref s.heap.objs.size, .int 0 0] }).objs.size := fun c o e => by
    have h1 := Heap.lt_size e
    rw [hsz2, hsz]
    refine ⟨fun hm => ?_, Nat.ne_of_lt (Nat.lt_succ_of_lt (Nat.lt_succ_of_lt h1))⟩
    rw [List.mem_singleton.mp hm] at h1
    exact absurd h1 (Nat.not_lt.mpr (Nat.le_succ _))
  refine wpAny_pure ⟨plainId_quiet F.plain_min_loop _, ml_two (Walks.tuple (A := A.in1) hh _ s.heap.objs.size (by rw [hsz]; exact Nat.ne_of_lt (Nat.lt_succ_self _)) #[va, vb]) _ ?_ _ va vb r _ ?_ (fun v hP => by simpa using hP.symm) (fun v hP => by simpa using hP.symm) ?_ (Heap.get?_push_size _ rfl) ?_⟩
  · rw [hsz2, hsz]
    simp
  · exact ⟨⟨_, Heap.get?_push_of_some _ (Heap.get?_push_size _ rfl), rfl, rfl⟩, (hT.push _).push _⟩
  · intro h' tk Q E hk hq
    exact hcmp h' tk Q E (fun c o e => hk c o (off c o e).1 (off c o e).2 (keep c o e)) hq
  · intro h' tk hk
    exact h h' tk fun c o e => hk c o (off c o e).1 (off c o e).2 (keep c o e)
theorem min_pair {p q : Addr} {a b c d : Int} {t1 t2 t3 t4 : Tok} {Q : Value → Shared → Prop} (hh : A.handled = none) (hu : A.units + 64 < cLine) (hp : IsTup s.heap p #[.int a t1, .int b t2]) (hq : IsTup s.heap q #[.int c t3, .int d t4])
    (h : ∀ h' tk, (∀ c o, s.heap.get? c = some o → h'.get? c = some o) → Q (if ltP c d a b then .ref q else .ref p) { s with heap := h', toks := tk }) :
    wpAny (model prog w) A (call (.builtin "min") [.ref p, .ref q]) Q E s := by
  refine min_two_of hh (fun h' tk Q E hk hq' => ?_) h
  obtain ⟨⟨cp, dp, datp, slp⟩, ep, hcp, np, hdp⟩ := hp
  obtain ⟨⟨cq, dq, datq, slq⟩, eq, hcq, nq, hdq⟩ := hq
  dsimp only at hcp hdp hcq hdq
  subst hcp hdp hcq hdq
  refine richCompare_meets_room (T := "tuple") (s := { s with heap := h', toks := tk }) ⟨_, hk _ _ eq, rfl⟩ ⟨_, hk _ _ ep, rfl⟩ F.slot_tuple_lt F.entry_tuple_lt (F.args_tuple_lt_2 _ _) (lt_pair q p c d a b t3 t4 t1 t2 nq np dq dp slq slp) ⟨hk _ _ eq, hk _ _ ep, by simp, hq'⟩ ?_
  have : A.in1.units = A.units + 1 := rfl
  omega
end
section
variable {X : Cx}
theorem call_minP (hc : X.calm = true) (hu : X.A.units + 64 < cLine) : CallR X (.builtin "min") (fun xs H Q => ∃ p q a b c d, xs = [.ref p, .ref q] ∧ SqT X.K H p [.int a, .int b] ∧ SqT X.K H q [.int c, .int d] ∧ Q (.ref (if ltP c d a b then q else p)) H) := by
  intro pins s σ H xs us Q I r h
  obtain ⟨p, q, a, b, c, d, rfl, hp, hq, k⟩ := h
  obtain ⟨u, w', rfl, e1, e2⟩ := vals2 r
  cases e1
  cases e2
  obtain ⟨its, rv, pp, hz⟩ := I.tuple hp
  obtain ⟨its2, rv2, pp2, hz2⟩ := I.tuple hq
  obtain ⟨v1, v2, rfl, ⟨t1, rfl⟩, ⟨t2, rfl⟩⟩ := vals2 rv
  obtain ⟨v3, v4, rfl, ⟨t3, rfl⟩, ⟨t4, rfl⟩⟩ := vals2 rv2
  refine min_pair (I.ok.hd hc) hu pp pp2 fun h' tk kk => ⟨_, H, I.kept kk, ?_, k⟩
  cases ltP c d a b
  · exact rfl
  · exact rfl
theorem q_min (hc : X.calm = true) (hu : X.A.units + 64 < cLine) : RC X (.builtin "min") minR := by
  refine ⟨_, call_minP hc hu, fun xs vs H Q μ Q3 m r h k => ?_⟩
  unfold minR at h
  split at h
  · next a b c d =>
    cases r with
    | cons r1 r2 =>
      cases r2 with
      | cons r2 r3 =>
        cases r3
        cases r1 with
        | tup hq rs =>
          cases r2 with
          | tup hq2 rs2 =>
            cases rs with
            | cons x1 y1 =>
              cases y1 with
              | cons x2 y2 =>
                cases y2
                cases x1
                cases x2
                cases rs2 with
                | cons x3 y3 =>
                  cases y3 with
                  | cons x4 y4 =>
                    cases y4
                    cases x3
                    cases x4
                    rename_i p q
                    refine ⟨p, q, a, b, c, d, rfl, hq, hq2, k _ _ _ _ h (Kp.refl _) ?_ m⟩
                    cases ltP c d a b
                    · exact .tup hq (.cons (.int _) (.cons (.int _) .nil))
                    · exact .tup hq2 (.cons (.int _) (.cons (.int _) .nil))
  · exact h.elim
end
end Pv

namespace Pv
open PySem PySem.Spec PyProof.Rows L2
/-! ### a comprehension that uses names of the body -/
noncomputable def closL (cells : List (Str × Addr)) : List (Str × NameKind) → List (Str × Addr) → List (Str × Addr)
  | [], acc => acc
  | (n, k) :: r, acc => if k == .free then closL cells r ((n, (cells.lookup n).getD 0) :: acc) else closL cells r acc
theorem closureFor_eq {scope : Scope} {env : Env} (h : ∀ y ∈ scope.names, y.2 = .free → (env.cells.lookup y.1).isSome = true) : closureFor scope env = pure (closL env.cells scope.names []) := by
  unfold closureFor
  have key : ∀ (l : List (Str × NameKind)) (acc : List (Str × Addr)), (∀ y ∈ l, y.2 = .free → (env.cells.lookup y.1).isSome = true) →
      (forIn l acc (fun x r => if (x.2 == NameKind.free) = true then do let c ← cellOf env x.1; pure (ForInStep.yield ((x.1, c) :: r)) else pure (ForInStep.yield r)) : Sem (List (Str × Addr))) = pure (closL env.cells l acc) := by
    intro l
    induction l with
    | nil => intro acc _; rfl
    | cons y r ih =>
      intro acc hl
      obtain ⟨n, k⟩ := y
      rw [List.forIn_cons]
      have ih' := fun a => ih a fun z hz => hl z (List.mem_cons_of_mem _ hz)
      by_cases hk : k = .free
      · subst hk
        have hs := hl (n, .free) (List.mem_cons_self ..) rfl
        obtain ⟨c, hc⟩ := Option.isSome_iff_exists.mp hs
        have ec : cellOf env n = pure c := by unfold cellOf; rw [hc]
        simp only [closL, ec, pure_bind, beq_self_eq_true, if_true, hc, Option.getD_some]
        exact ih' _
      · have hk' : (k == NameKind.free) = false := by simpa using hk
        simp only [closL, hk', Bool.false_eq_true, if_false, pure_bind]
        exact ih' _
  have := key scope.names [] h
  refine Eq.trans ?_ this
  refine Eq.trans (bind_pure (forIn scope.names ([] : List (Str × Addr)) _ : Sem (List (Str × Addr)))) ?_
  congr 1
theorem closL_sub {cells : List (Str × Addr)} {x : Str} {c : Addr} : ∀ (l : List (Str × NameKind)) (acc : List (Str × Addr)), (∀ y ∈ l, y.2 = .free → (cells.lookup y.1).isSome = true) → (acc.lookup x = some c → cells.lookup x = some c) →
    (closL cells l acc).lookup x = some c → cells.lookup x = some c
  | [], acc, _, ha, h => ha h
  | (n, k) :: r, acc, hl, ha, h => by
    unfold closL at h
    split at h
    · next hk =>
      refine closL_sub r _ (fun z hz => hl z (List.mem_cons_of_mem _ hz)) (fun h2 => ?_) h
      rw [List.lookup_cons] at h2
      split at h2
      · next e =>
        have e' : x = n := eq_of_beq e
        subst e'
        obtain ⟨c', hc⟩ := Option.isSome_iff_exists.mp (hl (x, k) (List.mem_cons_self ..) (eq_of_beq hk))
        rw [hc] at h2
        simp only [Option.getD_some, Option.some.injEq] at h2
        rw [hc, h2]
      · exact ha h2
    · exact closL_sub r acc (fun z hz => hl z (List.mem_cons_of_mem _ hz)) ha h
theorem closL_has {cells : List (Str × Addr)} {x : Str} : ∀ (l : List (Str × NameKind)) (acc : List (Str × Addr)), ((∃ c, acc.lookup x = some c) ∨ (x, NameKind.free) ∈ l) → ∃ c, (closL cells l acc).lookup x = some c
  | [], acc, h => by
    rcases h with h | h
    · exact h
    · cases h
  | (n, k) :: r, acc, h => by
    unfold closL
    split
    · next hk =>
      refine closL_has r _ ?_
      by_cases e : x = n
      · subst e
        left
        exact ⟨(cells.lookup x).getD 0, by rw [List.lookup_cons]; simp⟩
      · rcases h with ⟨c, h⟩ | h
        · left
          refine ⟨c, ?_⟩
          rw [List.lookup_cons]
          have : (x == n) = false := by simpa using e
          rw [this]; exact h
        · right
          rcases List.mem_cons.mp h with h | h
          · exact absurd (congrArg Prod.fst h) e
          · exact h
    · next hk =>
      refine closL_has r acc ?_
      rcases h with h | h
      · exact .inl h
      · rcases List.mem_cons.mp h with h | h
        · cases h; exact absurd rfl hk
        · exact .inr h
/-- free names are cells of the body: js tells where they lie among the body's names -/
theorem CompSc.free {X : Cx} {NN : List Str} {scope : Scope} {js : List (Option Nat)} (hcell : ∀ y ∈ scope.names, y.2 ≠ .cell) (hk : scope.kind = .function) (hfn : X.env.scope.kind = .function)
    (hn : ∀ y ∈ scope.names, y.2 = .local → scope.names.lookup y.1 = some .local) (hfree : ∀ y ∈ scope.names, y.2 = .free → X.env.scope.names.lookup y.1 = some .cell) (hlook : ∀ y ∈ scope.names, y.2 = .free → scope.names.lookup y.1 = some .free)
    (hcl : ∀ x, X.env.scope.names.lookup x = some .cell → (X.env.cells.lookup x).isSome = true) (len : js.length = NN.length)
    (hout : ∀ i ∈ List.range js.length, ∀ j, js.getD i none = some j → ∃ x, NN[i]? = some x ∧ X.N[j]? = some x ∧ scope.names.lookup x = some .free) :
    CompSc X NN scope (closL X.env.cells scope.names []) js where
  clos := closureFor_eq fun y hy e => hcl _ (hfree y hy e)
  cell := hcell
  kind := hk
  names := hn
  sub := fun x c h => closL_sub scope.names [] (fun y hy e => hcl _ (hfree y hy e)) (fun h => by simp at h) h
  has := fun x h => by
    refine closL_has scope.names [] (.inr ?_)
    have hm : ∃ k, (x, k) ∈ scope.names ∧ (k = .free ∨ k = .cell) := by
      have key : ∀ kk, (relabel scope X.env).names.lookup x = some kk → (kk = .cell ∨ kk = .free) → ∃ k, (x, k) ∈ scope.names ∧ (k = .free ∨ k = .cell) := fun kk hkk hc => by
        have hmem := lookup_mem hkk
        obtain ⟨⟨n, k⟩, hy, e⟩ := List.mem_map.mp hmem
        dsimp only at e
        split at e
        · next hq =>
          cases e
          simp only [Bool.and_eq_true] at hq
          exact ⟨k, hy, .inl (by simpa using hq.1.1)⟩
        · cases e
          exact ⟨kk, hy, hc.symm⟩
      rcases h with h | h
      · exact key _ h (.inl rfl)
      · exact key _ h (.inr rfl)
    obtain ⟨k, hk1, hk2⟩ := hm
    rcases hk2 with rfl | rfl
    · exact hk1
    · exact absurd rfl (hcell _ hk1)
  len := len
  out := fun i j h => by
    have hi : i < js.length := by
      rcases Nat.lt_or_ge i js.length with z | z
      · exact z
      · rw [List.getElem?_eq_none z] at h; cases h
    obtain ⟨x, e1, e2, e3⟩ := hout i (List.mem_range.mpr hi) j (by rw [List.getD_eq_getElem?_getD, h]; rfl)
    have hf := hfree (x, .free) (lookup_mem e3) rfl
    refine ⟨x, e1, e2, .inr (.inl hf), by rw [hf]; simp, ?_⟩
    left
    have key : ∀ (l : List (Str × NameKind)), l.lookup x = some .free → (l.map fun (n, k) => if (k == NameKind.free && X.env.scope.kind == .function && X.env.kindOf n == some .cell) then (n, NameKind.cell) else (n, k)).lookup x = some .cell := fun l => by
      induction l with
      | nil => intro h; simp at h
      | cons y r ih =>
        obtain ⟨n, k⟩ := y
        intro h
        rw [List.lookup_cons] at h
        rw [List.map_cons, List.lookup_cons]
        by_cases e : x = n
        · subst e
          simp only [beq_self_eq_true, Option.some.injEq] at h
          subst h
          have hkind : (X.env.kindOf x == some NameKind.cell) = true := by
            show (X.env.scope.names.lookup x == some NameKind.cell) = true
            rw [hf]; rfl
          simp [hfn, hkind]
        · have e' : (x == n) = false := by simpa using e
          rw [e'] at h
          have ih' := ih h
          by_cases hq : (k == NameKind.free && X.env.scope.kind == ScopeKind.function && X.env.kindOf n == some NameKind.cell) = true
          · simp only [hq, if_true, e']; exact ih'
          · simp only [hq, Bool.false_eq_true, if_false, e']; exact ih'
    exact key _ e3
/-- for a comprehension in the body of a def -/
theorem comp_sc {CX : CXT} {P : Program} {w : World} {K : Fg} {mg : Str → Option Value} {base : Heap} {N : List Str} {qual : Str} {sc : Scope} {f : Addr} {cdv : Value} {A : Around} {outer : List Env} {s : Shared} {H : Hp} {E : XK} {NN : List Str} {scope : Scope} {js : List (Option Nat)}
    (hcell : ∀ y ∈ scope.names, y.2 ≠ .cell := by decide +kernel) (hk : scope.kind = .function := by rfl) (hfn : sc.kind = .function := by rfl)
    (hn : ∀ y ∈ scope.names, y.2 = .local → scope.names.lookup y.1 = some .local := by decide +kernel) (hfree : ∀ y ∈ scope.names, y.2 = .free → sc.names.lookup y.1 = some .cell := by decide +kernel)
    (hlook : ∀ y ∈ scope.names, y.2 = .free → scope.names.lookup y.1 = some .free := by decide +kernel) (len : js.length = NN.length := by rfl)
    (hout : ∀ i ∈ List.range js.length, ∀ j ∈ (js.getD i none).toList, ∃ x ∈ NN[i]?.toList, N[j]? = some x ∧ scope.names.lookup x = some .free := by decide +kernel) :
    CompSc (cxOf CX P w K mg base N qual sc f cdv A outer s H E).nox NN scope (closL (cxOf CX P w K mg base N qual sc f cdv A outer s H E).nox.env.cells scope.names []) js :=
  CompSc.free (X := (cxOf CX P w K mg base N qual sc f cdv A outer s H E).nox) hcell hk hfn hn hfree hlook (fun x h => by
    obtain ⟨c, hc⟩ := cell_has (n := _) h
    exact Option.isSome_iff_exists.mpr ⟨c, hc⟩) len fun i hi j hj => by
      obtain ⟨x, h1, h2, h3⟩ := hout i hi j (by rw [hj]; simp)
      exact ⟨x, by simpa using h1, h2, h3⟩
end Pv

namespace Pv
open PySem
/-- a < b < c -/
noncomputable def ch3 (r r' : R3) (ta tb tc : TE3) : TE3 := fun ρ μ Q => ta ρ μ fun x μ1 => tb ρ μ1 fun y μ2 => r x y μ2 fun d μ3 => match d with
  | .bl true => tc ρ μ3 fun z μ4 => r' y z μ4 Q
  | .bl false => Q (.bl false) μ3
  | _ => False
end Pv

namespace Pv
open PySem PySem.Spec PyProof.Rows L2
section
variable {X : Cx}
end
end Pv

namespace Pv
open PySem
/-! ### objects -/
noncomputable def putD (f : Str) (v : D) : List (Str × D) → List (Str × D)
  | [] => [(f, v)]
  | (g, x) :: r => if g = f then (g, v) :: r else (g, x) :: putD f v r
/-- o.f, o an object of the class c -/
noncomputable def fld3 (t : TE3) (c f : Str) : TE3 := fun ρ μ Q => t ρ μ fun d μ1 => match d with
  | .ref p => match μ1 p with
    | some (.ins c' fs) => c' = c ∧ (match fs.lookup f with
      | some v => Q v μ1
      | none => False)
    | _ => False
  | _ => False
/-- o.f = e -/
noncomputable def sfld3 (to tv : TE3) (c f : Str) : TS3 := fun D' ρ μ => tv ρ μ fun y μ1 => to ρ μ1 fun d μ2 => match d with
  | .ref p => match μ2 p with
    | some (.ins c' fs) => (c' = c ∧ fs.length < 1000) ∧ D'.nx ρ (updM μ2 p (.ins c (putD f y fs)))
    | _ => False
  | _ => False
/-- C(..) -/
noncomputable def make3 (c : Str) (sp : Sp3) (t : TA3) : TE3 := fun ρ μ Q => t ρ μ fun ds μ1 => ∀ p, μ1 p = none → sp (.ref p :: ds) (updM μ1 p (.ins c [])) (fun v μ2 => v = .non ∧ Q (.ref p) μ2)
/-- o.m(..) -/
noncomputable def meth3 (c m : Str) (sp : Sp3) (to : TE3) (t : TA3) : TE3 := fun ρ μ Q => to ρ μ fun d μ1 => match d with
  | .ref p => match μ1 p with
    | some (.ins c' fs) => (c' = c ∧ fs.lookup m = none) ∧ t ρ μ1 fun ds μ2 => sp (.ref p :: ds) μ2 Q
    | _ => False
  | _ => False
/-! ### exceptions -/
noncomputable abbrev XE3 := Str → Mu → Prop
noncomputable def raise3 (XE : XE3) (x : Str) (t : TA3) : TS3 := fun _ ρ μ => t ρ μ fun ds μ1 => ds.length ≤ sizeLine ∧ XE x μ1
/-- isinstance(e, C), e a caught exception -/
noncomputable def isx3 (t : TE3) (sub : Str → Option Bool) : TE3 := fun ρ μ Q => t ρ μ fun d μ1 => match d with
  | .exc c => match sub c with
    | some b => Q (.bl b) μ1
    | _ => False
  | _ => False
/-- try: y = f(..) (or f(..)) except C as n: suite -/
noncomputable def try3 (i : Nat) (spx : XE3 → Sp3) (st : D → St3 → St3) (ok : Str → Bool) (ta : TA3) (ts : TS3) : TS3 := fun D' ρ μ => ta ρ μ fun ds μ1 =>
  spx (fun c μ2 => ok c = true ∧ ts { nx := fun ρ' μ' => D'.nx (ρ'.set i none) μ', rt := fun _ _ => False } (ρ.set i (some (.exc c))) μ2) ds μ1 (fun d μ2 => D'.nx (st d ρ) μ2)
noncomputable def setSt (j : Nat) : D → St3 → St3 := fun d ρ => ρ.set j (some d)
end Pv

namespace Pv
open PySem PySem.Spec PyProof.Rows L2
section
variable {X : Cx}
theorem RC.or {f : Value} {R1 R2 : C3} (h1 : RC X f R1) (h2 : RC X f R2) : RC X f (fun ds μ Q => R1 ds μ Q ∨ R2 ds μ Q) := by
  obtain ⟨c1, p1, r1⟩ := h1
  obtain ⟨c2, p2, r2⟩ := h2
  exact ⟨fun xs H Q => c1 xs H Q ∨ c2 xs H Q, fun pins s σ H xs us Q I r h => h.elim (p1 pins s σ H xs us Q I r) (p2 pins s σ H xs us Q I r),
    fun xs vs H Q μ Q3 m r h k => h.elim (fun h => .inl (r1 xs vs H Q μ Q3 m r h k)) fun h => .inr (r2 xs vs H Q μ Q3 m r h k)⟩
end
section
variable {X : Cx} {e : Expr} {te : TE3} {p p2 pos pos2 : Pos}
end
end Pv

namespace Pv
open PySem PySem.Spec PyProof.Rows L2
section
variable {prog : Program} {w : World} {A : Around} {E : Value → Shared → Prop} {s : Shared} {R : Result → Shared → Prop} {I l : Addr} {items : Array Value}
end
section
variable {X : Cx} {e : Expr} {te : TE3} {p p2 pos pos2 : Pos}
theorem RelDs_rev {K : Fg} {H : Hp} : ∀ {xs : List D} {us : List V}, RelDs K H xs us → RelDs K H xs.reverse us.reverse
  | _, _, .nil => .nil
  | _, _, .cons r1 r2 => by
    rw [List.reverse_cons, List.reverse_cons]
    exact (RelDs_rev r2).append (.cons r1 .nil)
variable {o : Expr} {es : List Expr} {to : TE3} {t : TA3} {apos cpos : Pos}
theorem re_pop (ho : RE X o to) (hbase : attributeBase o "pop" X.env (eval o X.env) = eval o X.env := by rfl) (hline : (apos.endLine == cpos.line) = true := by rfl) :
    RE X (.Call (.Attribute o "pop" apos) [] [] cpos) (pop3 to) := by
  obtain ⟨va, pa, ra⟩ := ho
  refine ⟨_, pe_bm0 PySem.F.plainAttrs_list PySem.F.slot_list_pop PySem.F.type_list_pop mt_pop pa hbase hline, fun σ H Q ρ μ Q3 s m h k => ra σ H _ ρ μ _ s m h fun d μ1 v H1 h1 k1 r1 m1 => ?_⟩
  cases r1 with
  | ref p =>
    dsimp only at h1
    cases e0 : μ1 p with
    | none => rw [e0] at h1; exact h1.elim
    | some oo =>
      cases oo with
      | ins _ _ => rw [e0] at h1; exact h1.elim
      | dct _ => rw [e0] at h1; exact h1.elim
      | lst l =>
        rw [e0] at h1
        dsimp only at h1
        obtain ⟨vs, hv, rs⟩ := m1 p l e0
        have rr := RelDs_rev rs
        cases er : l.reverse with
        | nil => rw [er] at h1; exact h1.elim
        | cons d r =>
          rw [er] at h1 rr
          generalize ev : vs.reverse = vr at rr
          cases rr with
          | cons r1 r2 =>
            rename_i w ws
            have e1 : vs = ws.reverse ++ [w] := by rw [← List.reverse_reverse vs, ev, List.reverse_cons]
            subst e1
            refine ⟨.inl ⟨rfl, _, SqL.of hv⟩, p, _, w, rfl, rfl, hv, by simp, ?_⟩
            rw [List.dropLast_concat]
            exact k _ _ _ _ h1 (k1.trans (Kp.wr hv)) (r1.mono (Kp.wr hv)) (m1.wr hv (RelDs_rev r2))
  | _ => exact False.elim h1
end
end Pv

namespace Pv
open PySem PySem.Spec PyProof.Rows L2
/-- how an exception lies behind a call -/
noncomputable def CXn (P : Program) (w : World) : CXT := fun outer H s E e s' => ∃ (ea : Addr) (cls a0 : Value) (H' : Hp) (B : Heap), e = .ref ea ∧ s'.os = s.os ∧ AllBare s'.gens ∧ Un (frs outer) [] H H' s.heap s'.heap ∧ HOk P w H' s'.heap ∧
  Heap.FlyingW B outer ea cls a0 s'.heap ∧ H' ea = none ∧ (∀ b o, s'.heap.get? b = some o → b ∉ frs outer → (∃ o', s.heap.get? b = some o') → B.get? b = some o) ∧ (∀ b, H' b ≠ none → ∃ o, s'.heap.get? b = some o ∧ B.get? b = some o) ∧ E cls none H'
theorem objOk_there {P : Program} {w : World} {H : Hp} {h : Heap} {a : Addr} {o : HO} (x : ObjOk P w H h a o) : ∃ ob, h.get? a = some ob := by
  induction o with
  | lst xs => obtain ⟨z, its, n, r, e⟩ := x; exact ⟨_, e⟩
  | tup xs => obtain ⟨z, its, r, ob, e, c⟩ := x; exact ⟨_, e⟩
  | dK kvs => obtain ⟨z, y, vs, r, ob, es, ep, e, c⟩ := x; exact ⟨_, e⟩
  | dT kvs => obtain ⟨z, y, xs, r, ob, es, ep, e, c⟩ := x; exact ⟨_, e⟩
  | set S n => obtain ⟨ob, es, ep, t, e, c⟩ := x; exact ⟨_, e⟩
  | ins C dx fs => obtain ⟨d, z, ne, e, mA, _, r⟩ := x; exact ⟨_, e⟩
  | own y => obtain ⟨ob, e⟩ := x; exact ⟨_, e⟩
  | xd fs => obtain ⟨mA, ⟨od, es, ep, e, c⟩, r⟩ := x; exact ⟨_, e⟩
  | rng lo hi => obtain ⟨t, u, v, e⟩ := x; exact ⟨_, e⟩
  | frz ob u ih => obtain ⟨e, q⟩ := x; exact ⟨_, e⟩
  | tbl ps => exact ⟨_, x⟩
  | met f y => exact ⟨_, x⟩
  | ext φ => obtain ⟨p, ⟨o, e⟩, st⟩ := x; exact ⟨_, e⟩
section
variable {P : Program} {w : World} {K : Fg} {mg : Str → Option Value} {base : Heap} {N : List Str} {qual : Str} {scope : Scope} {f : Addr} {cd : Value} {A : Around} {outer : List Env} {s0 : Shared} {H0 : Hp} {E : XK}
theorem raised {pins : List (Addr × Obj)} {σ : L2.St} {H : Hp} {s : Shared} {h1 : Heap} {e : Addr} {cls : Value} {us : List Value} (I : L2.Inv (cxOf (CXn P w) P w K mg base N qual scope f cd A outer s0 H0 E) pins σ H s) (hx : Heap.MadeExcOf s.heap h1 e cls us) (hE : E cls none H) :
    (cxOf (CXn P w) P w K mg base N qual scope f cd A outer s0 H0 E).xe (.ref e) { s with heap := h1 } := by
  have u1 : Un (frs outer) [] H0 H s0.heap s.heap := I.base
  have e0 := I.env0
  have habove : s0.heap.objs.size ≤ (envOfC qual scope s0.heap.objs.size f cd).locals := I.ok.above
  have hfs : frs ((envOfC qual scope s0.heap.objs.size f cd) :: outer) = (envOfC qual scope s0.heap.objs.size f cd).locals :: frs outer := rfl
  have hfn : ∀ {b : Addr} {o : Obj}, s0.heap.get? b = some o → b ∉ frs outer → b ∉ frs ((envOfC qual scope s0.heap.objs.size f cd) :: outer) := fun {b o} q z hm => by
    rw [hfs] at hm
    rcases List.mem_cons.mp hm with hm | hm
    · have := Heap.lt_size q
      rw [hm] at this
      exact absurd this (Nat.not_lt.mpr habove)
    · exact z hm
  have hin : ∀ env ∈ ((envOfC qual scope s0.heap.objs.size f cd) :: outer), ∀ b, env.frame = some b → b ∈ frs ((envOfC qual scope s0.heap.objs.size f cd) :: outer) := fun env he b hb => List.mem_filterMap.mpr ⟨env, he, hb⟩
  have hfun : s.heap.FunFrames base ((envOfC qual scope s0.heap.objs.size f cd) :: outer) := e0.funs
  have hl := PySem.W.funFrames_hide hfun hin
  show wpAny (model P w) (A.deeper (envOfC qual scope s0.heap.objs.size f cd)) (leaving (envOfC qual scope s0.heap.objs.size f cd) (.ref e)) _ _ _
  refine wpAny_leaves_madeW (s := { s with heap := h1 }) (base := PySem.W.hideAll s.heap (frs ((envOfC qual scope s0.heap.objs.size f cd) :: outer))) I.ok.frames rfl (fun b o q => PySem.W.of_hideAll _ q) hl hx fun h' t fl htup ht up => ?_
  have inB : ∀ b o, s.heap.get? b = some o → b ∉ frs ((envOfC qual scope s0.heap.objs.size f cd) :: outer) → (PySem.W.hideAll s.heap (frs ((envOfC qual scope s0.heap.objs.size f cd) :: outer))).get? b = some o := fun b o q hb => PySem.W.hideAll_get _ q hb
  have trk : ∀ b, H b ≠ none → ∃ o, s.heap.get? b = some o ∧ b ∉ frs ((envOfC qual scope s0.heap.objs.size f cd) :: outer) := fun b hb => by
    cases q : H b with
    | none => exact absurd q hb
    | some ho =>
      obtain ⟨o, eo⟩ := objOk_there (I.hok b ho q)
      refine ⟨o, eo, fun hm => ?_⟩
      have := e0.frf b hm
      rw [q] at this; cases this
  have frm : ∀ b o, s.heap.get? b = some o → b ∈ frs outer → ∃ sl, h'.get? b = some { o with slots := sl } := fun b o q hb => by
    have hm : b ∈ ((envOfC qual scope s0.heap.objs.size f cd) :: outer).filterMap (·.frame) := by
      show b ∈ frs _
      rw [hfs]; exact List.mem_cons_of_mem _ hb
    obtain ⟨_, o', ho, hnf⟩ := hfun.mem hm
    rw [q] at ho; cases ho
    exact up b o (hx.keeps b o q) hnf
  refine ⟨e, cls, .ref t, H, _, rfl, I.os, I.bare, ?_, ?_, fl, ?_, ?_, ?_, hE⟩
  · refine ⟨fun b o q n hb _ => ?_, fun b o q n hb _ => ?_, fun b o q n _ => u1.free b o q n (by simp), fun b o q _ => ?_, fun b xs q => u1.tups b xs q, fun b o u q => u1.frzs b o u q, fun b ps q => u1.tbls b ps q⟩
    · exact fl.1 b o (inB b o (u1.keep b o q n hb (by simp)) (hfn q hb))
    · obtain ⟨sl, e1⟩ := u1.slot b o q n hb (by simp)
      obtain ⟨sl2, e2⟩ := frm b _ e1 hb
      exact ⟨sl2, e2⟩
    · obtain ⟨o1, e1⟩ := u1.there b o q (by simp)
      by_cases hb : b ∈ frs outer
      · obtain ⟨sl, e2⟩ := frm b o1 e1 hb
        exact ⟨_, e2⟩
      · exact ⟨o1, fl.1 b o1 (inB b o1 e1 (hfn q hb))⟩
  · refine fun a o ha => (I.hok a o ha).stay (fun b u hb q => ?_) (fun _ h => h) (fun _ _ h => h)
    have hne : H b ≠ none := by
      rcases hb with rfl | hb
      · rw [ha]; simp
      · rw [hb]; simp
    obtain ⟨o', e1, e2⟩ := trk b hne
    exact fl.1 b u (inB b u q e2)
  · cases q : H e with
    | none => rfl
    | some ho =>
      obtain ⟨o, eo⟩ := objOk_there (I.hok e ho q)
      rw [hx.new] at eo; cases eo
  · intro b o q hb ⟨o', q'⟩
    obtain ⟨o1, e1⟩ := u1.there b o' q' (by simp)
    have e2 := inB b o1 e1 (hfn q' hb)
    have e3 := fl.1 b o1 e2
    have q2 : h'.get? b = some o := q
    rw [e3] at q2; cases q2
    exact e2
  · intro b hb
    obtain ⟨o, e1, e2⟩ := trk b hb
    exact ⟨o, fl.1 b o (inB b o e1 e2), inB b o e1 e2⟩
/-- raise C(..), C a class of the module -/
noncomputable def tRaise (E : XK) (C : Addr) (ta : TA) : TS := fun _ σ H => ta σ H fun vs H1 => vs.length ≤ sizeLine ∧ E (.ref C) none H1
theorem ps_raise {x : Str} {C : Addr} {Bn B newId inN nid initId : String} {bm bmN : List Value} {e₀ : Expr} {rest : List Expr} {np cpos pos : Pos} {ta : TA}
    (O : OwnCls x C bm newId mg base) (Fn : ExcBaseFacts Bn newId inN bmN) (hBn : bm.contains (.type Bn) = true) (FB : ExcBaseFacts B nid initId bm)
    (hg : Gl (cxOf (CXn P w) P w K mg base N qual scope f cd A outer s0 H0 E) x) (ha : PA (cxOf (CXn P w) P w K mg base N qual scope f cd A outer s0 H0 E) (e₀ :: rest) ta)
    (he : starEach (e₀ :: rest) (envOfC qual scope s0.heap.objs.size f cd) = (false, eval e₀ (envOfC qual scope s0.heap.objs.size f cd)) :: starEach rest (envOfC qual scope s0.heap.objs.size f cd) := by rfl)
    (hplain : (backTo cpos (starEach rest (envOfC qual scope s0.heap.objs.size f cd))).any (·.1) = false := by rfl) (hd : (x == ("__debug__" : Str)) = false := by decide) :
    PS (cxOf (CXn P w) P w K mg base N qual scope f cd A outer s0 H0 E) (.Raise (some (.Call (.Name x np) (e₀ :: rest) [] cpos)) none pos) (tRaise E C ta) := by
  intro pins s σ H D I h
  obtain ⟨tl, NN, nm, q, bs, hdct, sn, sub, ab, col, dd, k0, k1, k2, k3, k5, mN, hC, hN, hni, T⟩ := O.obj
  refine wpAny_Raise_call_subU (C := C) (nm := nm) (q := q) (N := NN) (bs := bs) (bm := tl) (hdct := hdct) (sn := sn) (sub := sub) (ab := ab) (col := col) (dd := dd) (k0 := k0) (k1 := k1) (k2 := k2) (k3 := k3) (k5 := k5)
    Fn hBn FB (mN := mN) (T.hasType FB.hasBase) (I.ok.hd rfl) (by
      show (backTo cpos (starEach (e₀ :: rest) (envOfC qual scope s0.heap.objs.size f cd))).any (·.1) = false
      rw [he]; show (false || (backTo cpos (starEach rest (envOfC qual scope s0.heap.objs.size f cd))).any (·.1)) = false; rw [hplain]; rfl) hni (ld_glob I hg O.bound ⟨rfl, ?_⟩ hd)
  have hA := ha cpos pins s σ H _ I h
  have he' : starEach (e₀ :: rest) (cxOf (CXn P w) P w K mg base N qual scope f cd A outer s0 H0 E).env = _ := he
  rw [he'] at hA ⊢
  refine Calls.evalArgs_plain (thn hA fun us s2 ⟨vs, H2, I2, r2, q2⟩ => ⟨rfl, ?_, I2.bk _ _ hC, hN.keeps I2.bk, T.keeps I2.bk, fun h' e hx => raised I2 hx q2.2⟩)
  rw [← r2.length]; exact q2.1
/-! ### values: promises with a wish about exceptions -/
noncomputable def EXok (K : Fg) (mg : Str → Option Value) (XE : XE3) (E : XK) : Prop := ∀ x C μ' H', XE x μ' → mg x = some (.ref C) → RelM K μ' H' → E (.ref C) none H'
noncomputable def liftX (K : Fg) (mg : Str → Option Value) (spx : XE3 → Sp3) : Sp := fun vs H Q E => ∃ ds μ Q3 XE, RelDs K H ds vs ∧ RelM K μ H ∧ spx XE ds μ Q3 ∧ Ks K H Q3 Q ∧ EXok K mg XE E
noncomputable def CalX (P : Program) (w : World) (K : Fg) (mg : Str → Option Value) (base : Heap) (k : Nat) (x : Str) (ps : List Str) (spx : XE3 → Sp3) : Prop :=
  ∃ f fd, FnOk P w K mg base (CXn P w) k f fd ps (liftX K mg spx) ∧ mg x = some (.ref f) ∧ PySem.W.keepIn K (.ref f) = true ∧ Binds K fd ps []
theorem CalX.mono {j k : Nat} {x : Str} {ps : List Str} {spx : XE3 → Sp3} (c : CalX P w K mg base j x ps spx) (h : j ≤ k) : CalX P w K mg base k x ps spx := by
  obtain ⟨f, fd, F, r⟩ := c
  exact ⟨f, fd, F.mono h, r⟩
variable {XE : XE3}
theorem rs_raise {x : Str} {C : Addr} {Bn B newId inN nid initId : String} {bm bmN : List Value} {e₀ : Expr} {rest : List Expr} {np cpos pos : Pos} {ta : TA3} (EX : EXok K mg XE E)
    (O : OwnCls x C bm newId mg base) (Fn : ExcBaseFacts Bn newId inN bmN) (hBn : bm.contains (.type Bn) = true) (FB : ExcBaseFacts B nid initId bm)
    (ha : RA (cxOf (CXn P w) P w K mg base N qual scope f cd A outer s0 H0 E) (e₀ :: rest) ta) (hg : Gl (cxOf (CXn P w) P w K mg base N qual scope f cd A outer s0 H0 E) x := by rfl)
    (he : starEach (e₀ :: rest) (envOfC qual scope s0.heap.objs.size f cd) = (false, eval e₀ (envOfC qual scope s0.heap.objs.size f cd)) :: starEach rest (envOfC qual scope s0.heap.objs.size f cd) := by rfl)
    (hplain : (backTo cpos (starEach rest (envOfC qual scope s0.heap.objs.size f cd))).any (·.1) = false := by rfl) (hd : (x == ("__debug__" : Str)) = false := by decide) :
    RS (cxOf (CXn P w) P w K mg base N qual scope f cd A outer s0 H0 E) (.Raise (some (.Call (.Name x np) (e₀ :: rest) [] cpos)) none pos) (raise3 XE x ta) := by
  obtain ⟨va, pa, ra⟩ := ha
  exact ⟨_, ps_raise O Fn hBn FB hg pa he hplain hd, fun σ H D ρ μ D3 s m h k => ra σ H _ ρ μ _ s m h fun ds μ1 vs H1 h1 k1 r1 m1 => ⟨by rw [← r1.length]; exact h1.1, EX x C μ1 H1 h1.2 O.bound m1⟩⟩
theorem calX_of {x : Str} {st : Stmt} {g : Addr} {fd : FuncData} {NN ps : List Str} {k : Nat} {spx : XE3 → Sp3} {t : XE3 → TS3} (F : Fun K x x st g fd) (hm : mg x = some (.ref g)) (hb : Binds K fd ps []) (S : FnScope NN ps (defScope st))
    (len : ∀ XE ds μ Q, spx XE ds μ Q → ds.length = ps.length)
    (body : ∀ (cdv : Value) (A : Around) (outer : List Env) (s : Shared) (H : Hp) (E : XK) (XE : XE3), Room k (A.deeper (envOfC x (defScope st) s.heap.objs.size g cdv)) → EXok K mg XE E →
      RSs (cxOf (CXn P w) P w K mg base NN x (defScope st) g cdv A outer s H E) (defBody st) (t XE))
    (rd : ∀ XE ds μ Q, spx XE ds μ Q → t XE { nx := fun _ μ' => Q .non μ', rt := Q } (start3 NN ds) μ) : CalX P w K mg base (k + 1) x ps spx := by
  refine ⟨g, fd, ?_, hm, F.kp, hb⟩
  obtain ⟨oc, od, kV, doc, pm, an, cdv, ct, osl, rfl, lk, hcd⟩ := F.ex
  refine fn_of lk hcd S (fun vs H Q E h => ?_) fun A outer s H vs Q E hr h => ?_
  · obtain ⟨ds, μ, Q3, XE, r, m, q, ks, ex⟩ := h
    rw [← r.length]; exact len _ _ _ _ q
  · obtain ⟨ds, μ, Q3, XE, r, m, q, ks, ex⟩ := h
    obtain ⟨tv, p, rt⟩ := body cdv A outer s H E XE hr ex
    exact ⟨tv, p, rt _ H _ _ μ _ (RSt.start NN r) m (rd XE ds μ Q3 q) ⟨fun ρ μ' σ H' h' k' s' m' => ks _ _ _ _ h' k' .non m', fun ρ μ' σ H' h' => False.elim h', fun ρ μ' σ H' h' => False.elim h', ks⟩⟩
end
end Pv

namespace Pv
open PySem PySem.Spec PyProof.Rows L2 PySem.Calls
section
variable {prog : Program} {w : World} {A : Around} {E : Value → Shared → Prop} {s : Shared} {K : PySem.W.Frag} {x D : Addr} {ox : Obj}
/-- what isinstance asks of an exception's class D -/
structure ExcK (K : PySem.W.Frag) (D : Addr) : Prop where
  ga : PySem.W.findIn K (.ref D) "__getattribute__" = some (some (.builtin "BaseException.__getattribute__"))
  no : PySem.W.findIn K (.ref D) "__getattr__" = some none
  be : PySem.W.mroIn K D (.type "BaseException") = some true
  cd : (PySem.W.clsIn K D).isSome = true
  ca : PySem.W.findIn K (.ref D) "__class__" = some (some (.builtin "object.__class__"))
  gt : PySem.W.specialIn K (.builtin "object.__class__") "__get__" = some (some (.builtin "getset_descriptor.__get__"))
  tk : PySem.W.takesIn K (.builtin "object.__class__") = some true
  ob : PySem.W.mroIn K D (.type "object") = some true
noncomputable def ExcAt (x D : Addr) (h : Heap) : Prop := ∃ ob, h.get? x = some ob ∧ ob.cls = .ref D
theorem ExcAt.type {M : Model} {h : Heap} (I : ExcAt x D h) : PySem.W.Looks M h (typeOf (.ref x)) (.ref D) := by
  obtain ⟨ob, h1, h2⟩ := I
  exact h2 ▸ (PySem.W.Looks.ld h1).andThen .now
theorem exc_find {M : Model} {h : Heap} (Z : ExcK K D) (X : K.In h) : PySem.W.Looks M h (Builtin.ObjectAttr.find (.ref x) (.ref D) "__class__") (.bind (.builtin "getset_descriptor.__get__") (.builtin "object.__class__")) := by
  have L1 := PySem.W.looks_findIn (M := M) X Z.ca
  have L2 := PySem.W.looks_specialIn (M := M) X Z.gt
  have L3 := PySem.W.looks_takesIn (M := M) X Z.tk
  refine L1.andThen (PySem.W.Looks.andThen (show PySem.W.Looks M h (Builtin.ObjectAttr.getOf (some (.builtin "object.__class__"))) (some (.builtin "getset_descriptor.__get__")) from L2) ?_)
  exact (show PySem.W.Looks M h (Builtin.ObjectAttr.dataDescriptor? (some (.builtin "object.__class__")) (some (.builtin "getset_descriptor.__get__"))) (some (.builtin "getset_descriptor.__get__", .builtin "object.__class__")) from L3.andThen .now).andThen (PySem.W.Looks.tag .now)
theorem exc_get {R : Result → Shared → Prop} {tp : Value} (Z : ExcK K D) (X : K.In s.heap) (I : ExcAt x D s.heap)
    (h : R (.ok (.ret (.ref D))) s) : codeAny (model prog w) A (.call (.builtin "getset_descriptor.__get__") ⟨[.builtin "object.__class__", .ref x, tp], []⟩) R s := by
  obtain ⟨ob, h1, h2⟩ := I
  obtain ⟨hh, g, dr, t, os⟩ := s
  have L0 := ExcAt.type (M := model prog w) (x := x) (D := D) (h := hh) ⟨ob, h1, h2⟩
  have L1 := PySem.W.looks_mroIn (M := model prog w) X Z.ob
  refine codeAny_call_builtin PySem.W.KF.slot_gs.plain PySem.W.KF.entry_gs (PySem.W.KF.slot_gs.check _ _ _ _ _ _ _ _ PySem.W.KF.type_class (PySem.W.KF.args_gs _ _ _) ?_)
  unfold Builtin.«getset_descriptor.__get__» Builtin.Getset_descriptor.descrGet
  rw [PySem.W.dga_obj]
  refine wpAny_bind (wpAny_pure ?_)
  unfold Builtin.Getset_descriptor.descrGetter Builtin.Getset_descriptor.descrCheckInstance Builtin.Getset_descriptor.descrNameAndClass isInstance
  simp only [PySem.W.KF.owner_class]
  repeat lk
  refine ⟨Code.quiet_builtin _ (by decide +kernel), codeAny_builtin PySem.W.KF.entry_class ?_⟩
  unfold Builtin.«object.__class__» shownTypeOf
  repeat lk
  exact h
theorem exc_class {Q : Option Value → Shared → Prop} (Z : ExcK K D) (X : K.In s.heap) (I : ExcAt x D s.heap) (h : Q (some (.ref D)) { s with toks := s.toks + 1 }) : wpAny (model prog w) A (getAttr? (.ref x) "__class__") Q E s := by
  obtain ⟨hh, g, d, t, os⟩ := s
  have L0 := I.type (M := model prog w)
  have L1 := PySem.W.looks_findIn (M := model prog w) X Z.ga
  have L2 := PySem.W.looks_findIn (M := model prog w) X Z.no
  have L3 := exc_find (M := model prog w) (x := x) Z X
  have L4 := PySem.W.looks_mroIn (M := model prog w) X Z.be
  unfold getAttr? getAttrBy? getAttrBy
  refine wpAny_bind (wpAny_mkText (wpAny_bind (wpAny_attempt (wpAny_holding (wpAny_bind (L0.at (wpAny_bind (L1.at ?_))))))))
  have hx2 : (Value.builtin "BaseException.__getattribute__" == Value.builtin "object.__getattribute__") = false := by decide +kernel
  simp only [hx2, Bool.and_false, Bool.false_eq_true, if_false]
  unfold getAttrByItsOwn hookBefore
  have hh1 : onTheHeap (Value.ref D) = true := rfl
  simp only [hh1, if_true]
  refine wpAny_bind (L2.at (wpAny_bind (wpAny_attempt (wpAny_holding ?_))))
  unfold callGetattribute boundAndCalled
  simp only [Bool.false_and, Bool.false_eq_true, if_false]
  have hb : bindSpecial (.builtin "BaseException.__getattribute__") (.ref x) = pure (.builtin "BaseException.__getattribute__", [.ref x]) := PySem.F.attr_ValueError.ga.bind _
  rw [hb]
  refine wpAny_bind (wpAny_pure ?_)
  refine wpAny_call (codeAny_call_builtin PySem.F.attr_ValueError.ga.plain F.entry_bexc_ga ?_)
  have hk : builtinKind "BaseException.__getattribute__" = some .slot := by decide +kernel
  have hsplit : splitId "BaseException.__getattribute__" = some ("BaseException", "__getattribute__") := by decide +kernel
  have ha := F.args_bexc_ga (.ref x) (.str "__class__" t)
  simp only [checkBuiltinCall, hk, hsplit]
  refine wpAny_bind ?_
  · unfold isInstance
    refine wpAny_bind (L0.at (L4.at ?_))
    simp only [Bool.not_true, Bool.false_eq_true, if_false]
    obtain ⟨ob, I1, I2⟩ := id I
    dsimp only at I1
    repeat (any_goals (first | assumption | (with_reducible refine wpAny_loadPart_at I1 ?_; rw [I2]) | with_reducible refine L3.at ?_ | wp_step))
    refine exc_get (s := ⟨hh, g, d, t + 1, os⟩) Z X I (wpAny_pure ?_)
    exact PySem.W.handed_on rfl (wpAny_pure h)
theorem kitx_exc (Z : ExcK K D) : PySem.W.KitX K (.ref x) (.ref D) (ExcAt x D) where
  ty := fun _ _ _ I => I.type
  it := fun _ _ X _ => by
    obtain ⟨cdD, hcD⟩ := Option.isSome_iff_exists.mp Z.cd
    unfold PySem.W.clsIn at hcD
    split at hcD
    · rename_i c' d' cd' sl' ho
      intro A' Q' E' s' k q
      unfold isType loadHead
      exact wpAny_bind (wpAny_loadPart (k _ _ (X _ _ ho)) (wpAny_pure q))
    · cases hcD
  ne := fun h tp dd its n sl X htp => by
    obtain ⟨cdD, hcD⟩ := Option.isSome_iff_exists.mp Z.cd
    refine Bool.eq_false_iff.mpr fun q => ?_
    have e : D = tp := Value.ref.inj (beq_iff_eq.mp q)
    subst e
    unfold PySem.W.clsIn at hcD
    split at hcD
    · rename_i c' d' cd' sl' ho
      have z := (X _ _ ho).symm.trans htp
      cases z
    · cases hcD
  ca := fun X I k => exc_class Z X I k
end
section
variable {X : Cx} {e : Expr} {te : TE3} {p p2 pos : Pos}
theorem frz_get {P : Program} {w : World} {H : Hp} {h : Heap} (hok : HOk P w H h) {a : Addr} {ob : Obj} {u : HO} (e : H a = some (.frz ob u)) : h.get? a = some ob := (show ObjOk P w H h a (.frz ob u) from hok a _ e).1
theorem call_isx {cV : V} {cv : Value} (rc : ∀ u, RelV cV u → u = cv) : CallR X (.builtin "isinstance") (fun xs H Q => ∃ a C ob u b, xs = [.ref a, cV] ∧ H a = some (.frz ob u) ∧ ob.cls = .ref C ∧ ExcK X.K C ∧ PySem.W.kitOne X.K (.ref C) cv = some b ∧ Q (.bl b) H) := by
  intro pins s σ H xs us Q I r h
  obtain ⟨a, C, ob, u, b, rfl, ha, h1, Z, hk, q⟩ := h
  obtain ⟨u1, u2, rfl, r1, r2⟩ := vals2 r
  cases r1
  cases rc _ r2
  have hg := frz_get I.hok ha
  have hi : ExcAt a C s.heap := ⟨ob, hg, h1⟩
  exact PySem.W.kia_one (kitx_exc Z) I.kIn hi hk (fun z => nomatch z) fun tk => ⟨.bl b, H, I.tok tk, rfl, q⟩
theorem pe_cls {y : Str} {C : Addr} (hg : Gl X y) (hm : X.mg y = some (.ref C)) (hd : (y == ("__debug__" : Str)) = false := by decide) : PE X (.Name y p2) (fun _ H Q => Q (.ref C) H) := fun pins s σ H Q I h => ld_glob I hg hm ⟨.ref C, H, I, rfl, h⟩ hd
theorem re_isx {y : Str} {cV : V} {cv : Value} {sub : Str → Option Bool} (he : RE X e te) (hc : PE X (.Name y p2) (fun _ H Q => Q cV H)) (rc : ∀ u, RelV cV u → u = cv)
    (hsub : ∀ c C b, sub c = some b → PySem.W.nsIn X.K mainGlobals c = some (some (.ref C)) → ExcK X.K C ∧ PySem.W.kitOne X.K (.ref C) cv = some b)
    (hm : X.mg "isinstance" = none) (hg : Gl X "isinstance" := by rfl)
    (hs : starEach [e, .Name y p2] X.env = (false, eval e X.env) :: starEach [.Name y p2] X.env := by rfl) (hs2 : starEach [.Name y p2] X.env = (false, eval (.Name y p2) X.env) :: starEach [] X.env := by rfl)
    (hpl : (backTo pos (starEach [.Name y p2] X.env)).any (·.1) = false := by rfl) :
    RE X (.Call (.Name "isinstance" p) [e, .Name y p2] [] pos) (isx3 te sub) := by
  obtain ⟨va, pa, ra⟩ := he
  refine ⟨_, pe_callB (call_isx rc) hg hm bz_isinstance (pa_cons pa (pa_cons hc pa_nil hs2) hs) (by decide) (by decide) hs hpl, fun σ H Q ρ μ Q3 s m h k => ra σ H _ ρ μ _ s m h fun d μ1 v H1 h1 k1 r1 m1 => ?_⟩
  cases r1 with
  | exc a1 a2 a3 =>
    dsimp only at h1
    split at h1
    · next b eb =>
      obtain ⟨z1, z2⟩ := hsub _ _ b eb a3
      exact ⟨_, _, _, _, b, rfl, a1, a2, z1, z2, k _ _ _ _ h1 k1 (.bl _) m1⟩
    · exact h1.elim
  | _ => exact False.elim h1
end
end Pv

namespace Pv
open PySem PySem.Spec PyProof.Rows L2 PySem.Calls
section
variable {X : Cx} {pins : List (Addr × Obj)} {σ : L2.St} {H H' : Hp} {s s' : Shared}
/-- the context of an except suite -/
noncomputable abbrev mark (X : Cx) (e : Value) : Cx := { X with A := X.A.mark (some e), calm := false, xe := fun _ _ => False }
theorem inv_mark (I : Inv X pins σ H s) (e : Value) : Inv (mark X e) pins σ H s :=
  ⟨⟨I.ok.mod, I.ok.kind, I.ok.glob, I.ok.blt, I.ok.above, I.ok.inj, I.ok.has, I.ok.cab, (fun z => Bool.noConfusion z), I.ok.frames, I.ok.stk, I.ok.exf, I.ok.bs, I.ok.bsz, I.ok.noex, I.ok.exfs, I.ok.funs, I.ok.frf⟩, I.os, I.bare, I.base, I.loc, I.cell, I.free, I.freeC, I.pin, I.hok, I.len⟩
theorem inv_unmark {e : Value} (ok : X.Ok) (I : Inv (mark X e) pins σ H s) : Inv X pins σ H s :=
  ⟨ok, I.os, I.bare, I.base, I.loc, I.cell, I.free, I.freeC, I.pin, I.hok, I.len⟩
/-- behind a caught exception -/
theorem caught_un {B h5 : Heap} {ea : Addr} {cls a0 : Value} (u2 : Un (frs X.stack) [] H H' s.heap s'.heap)
    (cov1 : ∀ b o, s'.heap.get? b = some o → b ∉ frs X.stack → (∃ o', s.heap.get? b = some o') → B.get? b = some o)
    (fl : Heap.FlyingW B X.stack ea cls a0 s'.heap) (st : ∀ b o, B.get? b = some o → h5.get? b = some o) (up : s'.heap.UpToSlots h5) : Un (frs X.stack) [] H H' s.heap h5 := by
  have frm : ∀ b o, s'.heap.get? b = some o → b ∈ frs X.stack → ∃ sl, h5.get? b = some { o with slots := sl } := fun b o q hb => by
    obtain ⟨_, o', ho, hnf⟩ := fl.2.2.1.mem hb
    rw [q] at ho; cases ho
    exact up b o q hnf
  refine ⟨fun b o q n hb _ => ?_, fun b o q n hb _ => ?_, fun b o q n hx => u2.free b o q n hx, fun b o q hx => ?_, u2.tups, u2.frzs, u2.tbls⟩
  · exact st b o (cov1 b o (u2.keep b o q n hb (by simp)) hb ⟨o, q⟩)
  · obtain ⟨sl, e1⟩ := u2.slot b o q n hb (by simp)
    obtain ⟨sl2, e2⟩ := frm b _ e1 hb
    exact ⟨sl2, e2⟩
  · obtain ⟨o1, e1⟩ := u2.there b o q hx
    by_cases hb : b ∈ frs X.stack
    · obtain ⟨sl, e2⟩ := frm b o1 e1 hb
      exact ⟨_, e2⟩
    · exact ⟨o1, st b o1 (cov1 b o1 e1 hb ⟨o, q⟩)⟩
theorem caught_hok {B h5 : Heap} {P : Program} {w : World} (hok : HOk P w H' s'.heap) (cov2 : ∀ b, H' b ≠ none → ∃ o, s'.heap.get? b = some o ∧ B.get? b = some o) (st : ∀ b o, B.get? b = some o → h5.get? b = some o) : HOk P w H' h5 := by
  refine fun a o e => (hok a o e).stay (fun b u hb q => ?_) (fun _ h => h) (fun _ _ h => h)
  have hne : H' b ≠ none := by
    rcases hb with rfl | hb
    · rw [e]; simp
    · rw [hb]; simp
  obtain ⟨o', e1, e2⟩ := cov2 b hne
  rw [q] at e1; cases e1
  exact st b _ e2
theorem upd_un {fs : List Addr} {h h5 : Heap} {ea : Addr} {o : HO} (u : Un fs [] H H' h h5) (he : H' ea = none) (hn : h.get? ea = none) : Un fs [] H (upd H' ea o) h h5 := by
  have ne : ∀ {b ob}, h.get? b = some ob → b ≠ ea := fun {b ob} q z => by subst z; rw [hn] at q; cases q
  have ne2 : ∀ {b u}, H' b = some u → b ≠ ea := fun {b u} q z => by subst z; rw [he] at q; cases q
  refine ⟨u.keep, u.slot, fun b ob q n hx => ?_, u.there, fun b xs q => ?_, fun b ob v q => ?_, fun b ps q => ?_⟩
  · rw [upd_ne (ne q)]; exact u.free b ob q n hx
  · have := u.tups b xs q; rw [upd_ne (ne2 this)]; exact this
  · have := u.frzs b ob v q; rw [upd_ne (ne2 this)]; exact this
  · obtain ⟨m, e⟩ := u.tbls b ps q; exact ⟨m, by rw [upd_ne (ne2 e)]; exact e⟩
theorem upd_hok {P : Program} {w : World} {h5 : Heap} {ea : Addr} {oe : Obj} (hok : HOk P w H' h5) (he : H' ea = none) (hg : h5.get? ea = some oe) : HOk P w (upd H' ea (.frz oe (.own 0))) h5 := by
  have ne2 : ∀ {b u}, H' b = some u → b ≠ ea := fun {b u} q z => by subst z; rw [he] at q; cases q
  intro a o e
  by_cases ha : a = ea
  · subst ha
    rw [upd_same] at e
    cases e
    exact ⟨hg, ⟨_, hg⟩⟩
  · rw [upd_ne ha] at e
    exact (hok a o e).stay (fun b u hb q => q) (fun b q => by rw [upd_ne (ne2 q)]; exact q) (fun b xs q => by rw [upd_ne (ne2 q)]; exact q)
theorem exc_matches {M : Model} {A : Around} {E : Value → Shared → Prop} {K : PySem.W.Frag} {ea C Pc : Addr} {ob : Obj} {Q : Bool → Shared → Prop} (Z : K.In s.heap) (h1 : s.heap.get? ea = some ob) (h2 : ob.cls = .ref C)
    (k1 : PySem.W.kitCls K (.ref C) (.ref Pc) = some true) (k2 : PySem.W.kitCls K (.ref Pc) (.type "BaseException") = some true) (k3 : PySem.W.kitCls K (.type "type") (.type "tuple") = some false) (hq : Q true s) : wpAny M A (excMatches (.ref ea) (.ref Pc)) Q E s := by
  obtain ⟨a1, a2, a3⟩ := PySem.W.kit_cls (M := M) Z k1
  obtain ⟨b1, b2, b3⟩ := PySem.W.kit_cls (M := M) Z k2
  obtain ⟨c1, c2, c3⟩ := PySem.W.kit_cls (M := M) Z k3
  have L0 := ExcAt.type (M := M) (x := ea) (D := C) (h := s.heap) ⟨ob, h1, h2⟩
  obtain ⟨hh, g, d, t, os⟩ := s
  unfold excMatches isInstance
  refine wpAny_bind (wpAny_bind (a1.at (c3.at ?_)))
  dsimp only
  simp only [Bool.false_eq_true, if_false, pure_bind, List.forIn_cons, List.forIn_nil]
  unfold isExcClass
  repeat (any_goals (first | assumption | with_reducible refine L0.at ?_ | with_reducible refine a3.at ?_ | with_reducible refine b3.at ?_ | with_reducible refine a2.at ?_ | with_reducible refine a1.at ?_ | wp_step))
theorem catch_as {e : Value} {E' : XK} {n x : Str} {i : Nat} {Pc : Addr} {b₀ : Stmt} {suite : List Stmt} {np pos : Pos} {Q : Flow → Shared → Prop} {EE : Value → Shared → Prop}
    (I : Inv X pins σ H s) (hst : X.stack = X.env :: X.outer) (hfr : X.env.frame = some X.env.locals) (h : CXn X.prog X.w X.stack H s E' e s')
    (hN : X.N.Nodup) (hi : X.N[i]? = some n) (hloc : X.env.scope.names.lookup n = some .local) (hg : Gl X x) (hm : X.mg x = some (.ref Pc)) (hd : (x == ("__debug__" : Str)) = false)
    (hcls : ∀ cls H', E' cls none H' → ∃ C, cls = .ref C ∧ PySem.W.kitCls X.K (.ref C) (.ref Pc) = some true) (k2 : PySem.W.kitCls X.K (.ref Pc) (.type "BaseException") = some true) (k3 : PySem.W.kitCls X.K (.type "type") (.type "tuple") = some false)
    (k : ∀ ea C H' ob s6, Kp H H' → E' (.ref C) none H' → H' ea = none → ob.cls = .ref C → Inv (mark X (.ref ea)) pins (σ.set i (some (.ref ea))) (upd H' ea (.frz ob (.own 0))) s6 →
      wpAny (model X.prog X.w) (X.A.mark (some (.ref ea))) (execs (b₀ :: suite) X.env) (fun f s₄ => wpAny (model X.prog X.w) X.A (do bindName X.env n .none; unbindBehindTheSuite X.env n pos) (fun _ s₅ => Q f s₅) EE s₄) (fun _ _ => False) s6) :
    wpAny (model X.prog X.w) X.A (noteFrame e X.env) (fun _ s₂ => wpAny (model X.prog X.w) X.A (setFlight e none) (fun _ s₃ =>
      wpAny (model X.prog X.w) X.A (handleBy e X.env [.ExceptHandler (some (.Name x np)) (some n) (b₀ :: suite) pos]) Q EE s₃) EE s₂) EE s' := by
  obtain ⟨ea, cls, a0, H', B, rfl, os, bare, u2, hok, fl, hea, cov1, cov2, hE⟩ := h
  obtain ⟨C, rfl, k1⟩ := hcls _ _ hE
  have fl0 := fl
  rw [hst] at fl
  refine wpAny_looks_onW (by rw [← hst]; exact I.ok.frames) hfr fl fun h4 held4 sm4 => ?_
  refine wpAny_landsW held4 fun h5 fl5 sm5 => ?_
  have I5 : Inv X pins σ H' { s' with heap := h5 } := I.call' (s' := { s' with heap := h5 }) (ch := []) os (caught_un u2 cov1 fl0 fl5.1 (sm4.trans sm5)) (caught_hok hok cov2 fl5.1) bare (fun b z => absurd z (by simp))
  obtain ⟨ob5, hob5, hc5⟩ := fl5.there
  refine wpAny_handleBy_cons (codeAny_handlers_test (ld_glob (inv_mark I5 (.ref ea)) hg hm ?_ hd)) (by intro q; cases q)
  refine exc_matches I5.kIn hob5 hc5 k1 k2 k3 ?_
  refine codeAny_handlers_suite_as ?_
  refine lands_againW (s := { s' with heap := h5 }) fl5 fun h6 fl6 sm6 => ?_
  obtain ⟨oe, ws, hoe, hoec, hoed, hoe0⟩ := fl6.first
  have hsn : s.heap.get? ea = none := by
    cases q : s.heap.get? ea with
    | none => rfl
    | some o =>
      exfalso
      obtain ⟨o1, e1⟩ := u2.there ea o q (by simp)
      by_cases hb : ea ∈ frs X.stack
      · obtain ⟨_, o', ho, hnf⟩ := fl0.2.2.1.mem hb
        obtain ⟨oe0, vs0, he0, _, hd0, _⟩ := fl0.first
        rw [he0] at ho; cases ho
        exact hnf _ hd0
      · have := cov1 ea o1 e1 hb ⟨o, q⟩
        rw [fl0.2.1] at this; cases this
  have I7 : Inv X pins σ (upd H' ea (.frz oe (.own 0))) { s' with heap := h6 } := I.call' (s' := { s' with heap := h6 }) (ch := []) os (upd_un (caught_un u2 cov1 fl0 fl6.1 ((sm4.trans sm5).trans sm6)) hea hsn) (upd_hok (caught_hok hok cov2 fl6.1) hea hoe) bare (fun b z => absurd z (by simp))
  refine store_ok I7 hN hi (.inl hloc) (v := .ref ea) (u := .ref ea) rfl (fun s8 I8 => ?_) (.inr hloc)
  exact wpAny_mono (k ea C H' oe s8 ⟨u2.tups, u2.frzs⟩ hE hea hoec (inv_mark I8 (.ref ea))) (fun f s4 z => z) (fun _ _ z => z.elim)
/-- the name of a caught exception goes -/
theorem goes_ok {M : Model} {A : Around} {E : Value → Shared → Prop} {i : Nat} {n : Str} {pos : Pos} {Q : Unit → Shared → Prop} (I : Inv X pins σ H s) (hN : X.N.Nodup) (hi : X.N[i]? = some n) (hk : X.env.scope.names.lookup n = some .local)
    (h : ∀ s', Inv X pins (σ.set i none) H s' → Q () s') : wpAny M A (do bindName X.env n .none; unbindBehindTheSuite X.env n pos) Q E s := by
  obtain ⟨m, hn, hl⟩ := id I.loc
  have hcls : (X.env.scope.kind == .class || (X.env.scope.kind == .module && X.env.locals != X.env.globals)) = false := by rw [I.ok.kind]; rfl
  have hiσ : i < σ.length := by rw [I.len]; exact (List.getElem?_eq_some_iff.mp hi).1
  have cne := I.cne
  have tracked : ∀ {a : Addr} {h' : Heap}, (∃ o, s.heap.get? a = some o ∧ H a = none) → Heap.SameBut a s.heap h' → HOk X.prog X.w H h' := fun {a h'} ha hs b ob e => by
    obtain ⟨_, _, hfree⟩ := ha
    refine (I.hok b ob e).stay (fun c w' hc q => (hs.2 c ?_).trans q) (fun _ q => q) fun _ _ q => q
    rintro rfl
    rcases hc with rfl | hc
    · rw [hfree] at e; cases e
    · rw [hfree] at hc; cases hc
  refine wpAny_nameGoes_keeps hk hn hcls fun h' v hn' hs => ?_
  obtain ⟨oL, _, _, hoL, _⟩ := id hn
  refine h _ ⟨I.ok, I.os, I.bare, ⟨fun b o e n hb hx => ?_, fun b o e n hb hx => ?_, I.base.free, fun b o e hx => ?_, I.base.tups, I.base.frzs, I.base.tbls⟩, ⟨_, hn', fun j y v' e1 e2 e3 => ?_⟩, fun y c e => ?_, I.free, I.freeC, fun p hp => ?_, tracked ⟨oL, hoL, I.free⟩ hs, by simpa using I.len⟩
  · exact (hs.2 b (Nat.ne_of_lt (Nat.lt_of_lt_of_le (Heap.lt_size e) I.ok.above))).trans (I.base.keep b o e n hb hx)
  · obtain ⟨sl, e1⟩ := I.base.slot b o e n hb hx
    exact ⟨sl, (hs.2 b (Nat.ne_of_lt (Nat.lt_of_lt_of_le (Heap.lt_size e) I.ok.above))).trans e1⟩
  · obtain ⟨o', e1⟩ := I.base.there b o e hx
    exact ⟨o', (hs.2 b (Nat.ne_of_lt (Nat.lt_of_lt_of_le (Heap.lt_size e) I.ok.above))).trans e1⟩
  · by_cases hj : j = i
    · subst hj
      rw [List.getElem?_set_self hiσ] at e2
      cases e2
    · rw [List.getElem?_set_ne (Ne.symm hj)] at e2
      obtain ⟨u', r', q⟩ := hl j y v' e1 e2 e3
      refine ⟨u', r', ?_⟩
      rcases q with ⟨k, e⟩ | ⟨k, c, e, z⟩
      · refine .inl ⟨k, ?_⟩
        have : y ≠ n := fun e => hj (nodup_ix hN e1 (e ▸ hi))
        simp [this, e]
      · exact .inr ⟨k, c, e, z.sameBut hs (cne y c e)⟩
  · obtain ⟨w', z⟩ := I.cell y c e
    exact ⟨w', z.sameBut hs (cne y c e)⟩
  · obtain ⟨e, n, ne, nf, d⟩ := I.pin p hp
    exact ⟨(hs.2 p.1 ne).trans e, n, ne, nf, d⟩
/-- a call in a try, and the suite behind it; st: what becomes of the call's value -/
noncomputable def tTry (K : Fg) (Pc : Addr) (i : Nat) (sp : Sp) (st : V → L2.St → L2.St) (ta : TA) (ts : Addr → TS) : TS := fun D σ H => ta σ H fun vs H1 => sp vs H1 (fun v H2 => D.nx (st v σ) H2)
  (fun cls _ H2 => ∃ C, cls = .ref C ∧ PySem.W.kitCls K (.ref C) (.ref Pc) = some true ∧ (Kp H1 H2 → ∀ ea ob, H2 ea = none → ob.cls = .ref C →
    ts ea { nx := fun σ' H' => D.nx (σ'.set i none) H', rt := fun _ _ => False, bk := fun _ _ => False, ct := fun _ _ => False } (σ.set i (some (.ref ea))) (upd H2 ea (.frz ob (.own 0)))))
variable {k : Nat} {f : Addr} {fd : FuncData} {ps : List Str} {sp : Sp} {fx n x : Str} {i : Nat} {Pc : Addr} {e : Expr} {es : List Expr} {b₀ : Stmt} {suite : List Stmt} {p cpos np hpos pos epos : Pos} {ta : TA} {ts : Addr → TS}
theorem try_call {st : V → L2.St → L2.St} {QV : Value → Shared → Prop} {D : Ends} (F : FnOk X.prog X.w X.K X.mg X.base (CXn X.prog X.w) k f fd ps sp) (hr : Room k X.A) (hgf : Gl X fx) (hmf : X.mg fx = some (.ref f)) (hkf : PySem.W.keepIn X.K (.ref f) = true) (hb : Binds X.K fd ps []) (ha : PA X (e :: es) ta)
    (hsu : ∀ ea, PSs (mark X (.ref ea)) (b₀ :: suite) (ts ea))
    (hN : X.N.Nodup) (hi : X.N[i]? = some n) (hloc : X.env.scope.names.lookup n = some .local) (hg : Gl X x) (hm : X.mg x = some (.ref Pc)) (hd : (x == ("__debug__" : Str)) = false)
    (k2 : PySem.W.kitCls X.K (.ref Pc) (.type "BaseException") = some true) (k3 : PySem.W.kitCls X.K (.type "type") (.type "tuple") = some false) (hst : X.stack = X.env :: X.outer) (hfr : X.env.frame = some X.env.locals)
    (hxe : ∀ v s, X.xe v s → False)
    (hdb : (fx == ("__debug__" : Str)) = false) (he : starEach (e :: es) X.env = (false, eval e X.env) :: starEach es X.env) (hpl : (backTo cpos (starEach es X.env)).any (·.1) = false)
    (I : Inv X pins σ H s) (h : tTry X.K Pc i sp st ta ts D σ H) (kv : ∀ v u H2 s2, RelV v u → Inv X pins σ H2 s2 → D.nx (st v σ) H2 → QV u s2) :
    wpAny (model X.prog X.w) X.A (eval (.Call (.Name fx p) (e :: es) [] cpos) X.env) QV
      (fun ex s₁ => wpAny (model X.prog X.w) X.A (noteFrame ex X.env) (fun _ s₂ => wpAny (model X.prog X.w) X.A (setFlight ex none) (fun _ s₃ => wpAny (model X.prog X.w) X.A (handleBy ex X.env [.ExceptHandler (some (.Name x np)) (some n) (b₀ :: suite) hpos]) (SP X pins D) X.xe s₃) X.xe s₂) X.xe s₁) s := by
  refine wpAny_Call_Name_kw (ld_glob I hgf hmf ?_ hdb)
  refine PySem.W.callWith_K (h₀ := X.base) I.ok.mod.kin hkf (wpAny_mono (ha cpos pins s σ H _ I h) (fun us s1 ⟨vs, H1, I1, r, q⟩ => ⟨I1.kIn, ?_⟩) fun _ _ z => (hxe _ _ z).elim) he hpl
  have hl : (us ++ []).length = ps.length := by rw [List.append_nil, ← r.length]; exact F.len _ _ _ _ q
  have hbb := hb s1 us I1.kIn hl
  rw [List.append_nil] at hbb
  refine wpAny_call (codeAny_mono (F.run X.A X.stack s1 H1 ⟨us, []⟩ us vs _ _ hr I1.env0 hbb r q) fun rr s' hq => ?_)
  cases rr with
  | error ex =>
    dsimp only [CR] at hq
    refine catch_as I1 hst hfr hq hN hi hloc hg hm hd (fun cls H' hE => ?_) k2 k3 fun ea C H' ob s6 hkp hE hea hob I6 => ?_
    · obtain ⟨C, e1, e2, _⟩ := hE
      exact ⟨C, e1, e2⟩
    · obtain ⟨C', e1, e2, e3⟩ := hE
      cases e1
      refine wpAny_mono (hsu ea pins s6 _ _ _ I6 (e3 hkp ea ob hea hob)) (fun fl s4 z => ?_) fun _ _ z => z
      cases fl with
      | next =>
        obtain ⟨σ', H4, I4, q4⟩ := z
        exact goes_ok (inv_unmark I1.ok I4) hN hi hloc fun s5 I5 => ⟨_, H4, I5, q4⟩
      | brk => obtain ⟨_, _, _, z⟩ := z; exact z.elim
      | cont => obtain ⟨_, _, _, z⟩ := z; exact z.elim
      | ret _ => obtain ⟨_, _, _, _, _, z⟩ := z; exact z.elim
  | ok fl =>
    cases fl with
    | ret u =>
      obtain ⟨v, H2, I2, rv, q2⟩ := I1.after hq
      exact kv v u H2 _ rv I2 q2
    | next => exact False.elim hq
    | brk => exact False.elim hq
    | cont => exact False.elim hq
/-- try: y = f(..) except C as n: suite -/
theorem ps_tryA {j : Nat} {y : Str} {py : Pos} (F : FnOk X.prog X.w X.K X.mg X.base (CXn X.prog X.w) k f fd ps sp) (hr : Room k X.A) (hgf : Gl X fx) (hmf : X.mg fx = some (.ref f)) (hkf : PySem.W.keepIn X.K (.ref f) = true) (hb : Binds X.K fd ps []) (ha : PA X (e :: es) ta)
    (hsu : ∀ ea, PSs (mark X (.ref ea)) (b₀ :: suite) (ts ea))
    (hN : X.N.Nodup) (hi : X.N[i]? = some n) (hloc : X.env.scope.names.lookup n = some .local) (hj : X.N[j]? = some y) (hlocy : X.env.scope.names.lookup y = some .local) (hg : Gl X x) (hm : X.mg x = some (.ref Pc)) (hd : (x == ("__debug__" : Str)) = false)
    (k2 : PySem.W.kitCls X.K (.ref Pc) (.type "BaseException") = some true) (k3 : PySem.W.kitCls X.K (.type "type") (.type "tuple") = some false) (hst : X.stack = X.env :: X.outer) (hfr : X.env.frame = some X.env.locals)
    (hxe : ∀ v s, X.xe v s → False)
    (hdb : (fx == ("__debug__" : Str)) = false) (he : starEach (e :: es) X.env = (false, eval e X.env) :: starEach es X.env) (hpl : (backTo cpos (starEach es X.env)).any (·.1) = false)
    (hs : swapsWith (.Call (.Name fx p) (e :: es) [] cpos) (some (.Name y py)) epos.line X.env = pure false) :
    PS X (.Try [.Assign [.Name y py] (.Call (.Name fx p) (e :: es) [] cpos) epos] [.ExceptHandler (some (.Name x np)) (some n) (b₀ :: suite) hpos] [] [] pos) (tTry X.K Pc i sp (fun v σ => σ.set j (some v)) ta ts) := by
  intro pins s σ H D I h
  refine wpAny_Try_except (wpAny_execs_cons (wpAny_Assign_Name ?_ hs))
  exact try_call F hr hgf hmf hkf hb ha hsu hN hi hloc hg hm hd k2 k3 hst hfr hxe hdb he hpl I h (fun v u H2 s2 rv I2 q => store_ok I2 hN hj (.inl hlocy) rv (fun s3 I3 => wpAny_execs_nil (wpAny_execs_nil ⟨_, H2, I3, q⟩)) (.inr hlocy))
end
end Pv

namespace Pv
open PySem PySem.Spec PyProof.Rows L2 PySem.Calls
theorem RSt.unset {K : Fg} {H : Hp} {ρ : St3} {σ : L2.St} (i : Nat) (s : RSt K H ρ σ) : RSt K H (ρ.set i none) (σ.set i none) := by
  refine ⟨by simp [s.len], fun j e h => ?_⟩
  rw [getI_set] at h
  split at h
  · cases h
  · next c =>
    obtain ⟨v, h1, r⟩ := s.at' j e h
    by_cases hj : i = j
    · exfalso
      apply c
      refine ⟨hj, ?_⟩
      rw [s.len, hj]
      exact (List.getElem?_eq_some_iff.mp h1).1
    · exact ⟨v, by rw [List.getElem?_set_ne hj]; exact h1, r⟩
theorem RelM.newF {K : Fg} {μ : Mu} {H : Hp} (m : RelM K μ H) {p : Addr} {o : HO} (h : H p = none) : RelM K μ (upd H p o) := m.newT h
section
variable {X : Cx} {k : Nat} {ps : List Str} {spx : XE3 → Sp3} {fx n x : Str} {i : Nat} {Pc : Addr} {e : Expr} {es : List Expr} {b₀ : Stmt} {suite : List Stmt} {p cpos np hpos pos epos : Pos} {ta : TA3} {ts : TS3} {ok : Str → Bool}
theorem rd_try {f : Addr} {va : TA} {tv : Addr → TS} {st : V → L2.St → L2.St} {st3 : D → St3 → St3} (hstp : ∀ {H : Hp} {ρ : St3} {σ : L2.St} {d : D} {v : V}, RSt X.K H ρ σ → RelD X.K H d v → RSt X.K H (st3 d ρ) (st v σ))
    (ra : RdA X.K va ta) (rt : ∀ ea, RdS X.K (tv ea) ts) (hok : ∀ c, ok c = true → ∃ C, PySem.W.nsIn X.K mainGlobals c = some (some (.ref C)) ∧ X.mg c = some (.ref C) ∧ PySem.W.kitCls X.K (.ref C) (.ref Pc) = some true) :
    RdS X.K (tTry X.K Pc i (liftX X.K X.mg spx) st va tv) (try3 i spx st3 ok ta ts) := by
  intro σ H D ρ μ D3 s m h kd
  refine ra σ H _ ρ μ _ s m h fun ds μ1 vs H1 h1 k1 r1 m1 => ?_
  refine ⟨ds, μ1, _, _, r1, m1, h1, fun d μ2 v H2 h2 k2 r2 m2 => ?_, fun c C μ2 H2 hX hmc m2 => ?_⟩
  · exact kd.nx _ _ _ _ h2 (k1.trans k2) (hstp (s.mono (k1.trans k2)) r2) m2
  · obtain ⟨o1, o2⟩ := hX
    obtain ⟨C', z1, z2, z3⟩ := hok c o1
    rw [hmc] at z2
    cases z2
    refine ⟨C, rfl, z3, fun kp ea ob hea hob => ?_⟩
    have kn : Kp H2 (upd H2 ea (.frz ob (.own 0))) := Kp.new hea
    refine rt ea _ _ _ _ _ _ ((((s.mono (k1.trans kp)).mono kn)).set i (.exc upd_same hob z1)) (m2.newF hea) o2 ⟨fun ρ' μ' σ' H' q k' s' m' => ?_, fun _ _ _ _ q => False.elim q, fun _ _ _ _ q => False.elim q, fun _ _ _ _ q => False.elim q⟩
    exact kd.nx _ _ _ _ q (k1.trans (kp.trans (kn.trans k'))) (s'.unset i) m'
theorem rs_tryA {j : Nat} {y : Str} {py : Pos} (c : CalX X.prog X.w X.K X.mg X.base k fx ps spx) (hr : Room k X.A) (ha : RA X (e :: es) ta) (hsu : ∀ ea, RSs (mark X (.ref ea)) (b₀ :: suite) ts) (hN : X.N.Nodup)
    (hm : X.mg x = some (.ref Pc)) (k2 : PySem.W.kitCls X.K (.ref Pc) (.type "BaseException") = some true) (k3 : PySem.W.kitCls X.K (.type "type") (.type "tuple") = some false)
    (hok : ∀ c, ok c = true → ∃ C, PySem.W.nsIn X.K mainGlobals c = some (some (.ref C)) ∧ X.mg c = some (.ref C) ∧ PySem.W.kitCls X.K (.ref C) (.ref Pc) = some true)
    (hi : X.N[i]? = some n := by rfl) (hloc : X.env.scope.names.lookup n = some .local := by rfl) (hj : X.N[j]? = some y := by rfl) (hlocy : X.env.scope.names.lookup y = some .local := by rfl) (hg : Gl X x := by rfl) (hgf : Gl X fx := by rfl) (hd : (x == ("__debug__" : Str)) = false := by decide)
    (hst : X.stack = X.env :: X.outer := by rfl) (hfr : X.env.frame = some X.env.locals := by rfl) (hxe : ∀ v s, X.xe v s → False := by intro _ _ h; exact h)
    (hdb : (fx == ("__debug__" : Str)) = false := by decide) (he : starEach (e :: es) X.env = (false, eval e X.env) :: starEach es X.env := by rfl) (hpl : (backTo cpos (starEach es X.env)).any (·.1) = false := by rfl)
    (hs : swapsWith (.Call (.Name fx p) (e :: es) [] cpos) (some (.Name y py)) epos.line X.env = pure false := by rfl) :
    RS X (.Try [.Assign [.Name y py] (.Call (.Name fx p) (e :: es) [] cpos) epos] [.ExceptHandler (some (.Name x np)) (some n) (b₀ :: suite) hpos] [] [] pos) (try3 i spx (setSt j) ok ta ts) := by
  obtain ⟨f, fd, F, hmf, hkf, hb⟩ := c
  obtain ⟨va, pa, ra⟩ := ha
  exact ⟨_, ps_tryA F hr hgf hmf hkf hb pa (ts := fun ea => (hsu ea).choose) (fun ea => (hsu ea).choose_spec.1) hN hi hloc hj hlocy hg hm hd k2 k3 hst hfr hxe hdb he hpl hs, rd_try (f := f) (fun s r => s.set j r) ra (fun ea => (hsu ea).choose_spec.2) hok⟩
end
end Pv

namespace Pv
open PySem PySem.Spec PyProof.Rows L2 PySem.Calls
/-- room for a call while an exception is handled -/
structure RoomM (k : Nat) (A : Around) : Prop where
  dp : A.depth + 3 * k + 5 < recursionLimit
  un : A.units + 16 * k + 200 < cLine
theorem RoomM.mono {j k : Nat} {A : Around} (r : RoomM k A) (h : j ≤ k) : RoomM j A := ⟨by have := r.dp; omega, by have := r.un; omega⟩
theorem RoomM.deeper {k : Nat} {A : Around} (r : RoomM (k + 1) A) (env : Env) : RoomM k (A.deeper env) :=
  ⟨by have := r.dp; show A.depth + 1 + 3 * k + 5 < _; omega, by have := r.un; show A.units + 3 + 16 * k + 200 < _; omega⟩
theorem RoomM.of {k : Nat} {A : Around} (r : Room k A) (e : Option Value) : RoomM k (A.mark e) := ⟨r.dp, r.un⟩
structure FnOkM (P : Program) (w : World) (K : PySem.W.Frag) (mg : Str → Option Value) (base : Heap) (CX : CXT) (k : Nat) (f : Addr) (fd : FuncData) (ps : List Str) (sp : Sp) : Prop where
  len : ∀ vs H Q E, sp vs H Q E → vs.length = ps.length
  run : ∀ (A : Around) (outer : List Env) (s : Shared) (H : Hp) (args : Args) (us : List Value) (vs : List V) (Q : VK) (E : XK), RoomM k A → Env0 P w K mg base A outer s H → BindsTo s fd args (ps.zip us) → Vals vs us → sp vs H Q E →
    codeAny (model P w) A (.call (.ref f) args) (CR CX outer P w H s Q E) s
noncomputable abbrev cxM (CX : CXT) (P : Program) (w : World) (K : PySem.W.Frag) (mg : Str → Option Value) (base : Heap) (N : List Str) (qual : Str) (scope : Scope) (f : Addr) (cd : Value) (A : Around) (outer : List Env) (s : Shared) (H : Hp) (E : XK) : Cx :=
  { cxOf CX P w K mg base N qual scope f cd A outer s H E with calm := false }
theorem inv_startM {CX : CXT} {P : Program} {w : World} {K : PySem.W.Frag} {mg : Str → Option Value} {base : Heap} {N ps : List Str} {qual : Str} {scope : Scope} {f : Addr} {cd : Value} {A : Around} {outer : List Env} {s s1 : Shared} {H : Hp} {E : XK} {us : List Value} {vs : List V}
    (S : FnScope N ps scope) (e0 : Env0 P w K mg base A outer s H) (hl : vs.length = ps.length) (r : Vals vs us)
    (x : InCallC s s.heap.objs.size (bindL (envOfC qual scope s.heap.objs.size f cd).kindOf (ps.zip us) fun _ => none) (cellsFrom (s.heap.objs.size + 1) scope.names []) (bindC (envOfC qual scope s.heap.objs.size f cd).kindOf (ps.zip us) fun _ => none) s1) :
    Inv (cxM CX P w K mg base N qual scope f cd A outer s H E) [] (start N vs) H s1 := by
  have I := inv_start (CX := CX) (P := P) (w := w) (K := K) (mg := mg) (base := base) (E := E) (A := { A with handled := none }) (outer := outer) S rfl ⟨e0.frames, e0.mod, e0.bs, e0.bsz, e0.funs, e0.frf, e0.hok, e0.bare⟩ hl r x
  exact ⟨⟨I.ok.mod, I.ok.kind, I.ok.glob, I.ok.blt, I.ok.above, I.ok.inj, I.ok.has, I.ok.cab, (fun z => Bool.noConfusion z), Around.frames_deeper e0.frames, I.ok.stk, I.ok.exf, I.ok.bs, I.ok.bsz, I.ok.noex, I.ok.exfs, I.ok.funs, I.ok.frf⟩, I.os, I.bare, I.base, I.loc, I.cell, I.free, I.freeC, I.pin, I.hok, I.len⟩
theorem fn_ofM {CX : CXT} {P : Program} {w : World} {K : PySem.W.Frag} {mg : Str → Option Value} {base : Heap} {k : Nat} {f : Addr} {name qual : Str} {params : Arguments} {body : List Stmt} {scope : Scope} {dV kV doc pm cdv ct oc : Value} {an od : Option Addr}
    {osl : Array (Option Value)} {N ps : List Str} {sp : Sp} (lk : K.lookup f = some ⟨oc, od, .func (PySem.W.fnOf name qual params body scope dV kV doc pm an cdv ct), osl⟩) (hcd : PySem.W.codeIn K cdv qual = true) (S : FnScope N ps scope)
    (len : ∀ vs H Q E, sp vs H Q E → vs.length = ps.length)
    (hbody : ∀ (A : Around) (outer : List Env) (s : Shared) (H : Hp) (vs : List V) (Q : VK) (E : XK), RoomM k (A.deeper (envOfC qual scope s.heap.objs.size f cdv)) → sp vs H Q E →
      ∃ t, PSs (cxM CX P w K mg base N qual scope f cdv A outer s H E) body t ∧ t { nx := fun _ H' => Q .non H', rt := Q } (start N vs) H) :
    FnOkM P w K mg base CX (k + 1) f (PySem.W.fnOf name qual params body scope dV kV doc pm an cdv ct) ps sp := by
  refine ⟨len, fun A outer s H args us vs Q E hr e0 hb r hsp => ?_⟩
  have hl := len _ _ _ _ hsp
  have KX : K.In s.heap := e0.mod.kin.keeps fun b o e => (e0.bs b o e).1
  have lim : s.heap.NoLimit := e0.mod.nolimit.keeps fun b o e => (e0.bs b o e).1
  have hkind : ∀ y ∈ ps.zip us, scope.names.lookup y.1 = some .local ∨ (scope.names.lookup y.1 = some .cell ∧ ((cellsFrom (s.heap.objs.size + 1) scope.names []).lookup y.1).isSome = true) := fun ⟨n, v⟩ hy => by
    rcases S.par n (List.of_mem_zip hy).1 with q | q
    · exact .inl q
    · exact .inr ⟨q, PySem.W.cellsFrom_some _ _ _ (.inl q)⟩
  have hdep : A.depth < recursionLimit := by have := hr.dp; omega
  refine codeAny_call_function hdep (KX _ _ lk) rfl S.co S.gen rfl (PySem.W.codeRec_of KX hcd) (hb _ _ _ _ ?_)
  refine wpAny_newFunctionEnv_cells S.kind hkind fun env he s1 x => ?_
  subst he
  refine ⟨lim.keeps x.toInCall.keep, codeAny_func ?_⟩
  obtain ⟨t, ht, hq⟩ := hbody A outer s H vs Q E (hr.deeper _) hsp
  have I : Inv (cxM CX P w K mg base N qual scope f cdv A outer s H E) [] (start N vs) H s1 := inv_startM S e0 hl r x
  refine wpAny_mono (ht [] s1 (start N vs) H _ I hq) (fun fl s' hs => ?_) fun e s' hs => hs
  have fin : ∀ {σ' : L2.St} {H' : Hp} {v : V} {u : Value}, Inv (cxM CX P w K mg base N qual scope f cdv A outer s H E) [] σ' H' s' → RelV v u → Q v H' → CE outer P w H s Q u s' :=
    fun {σ' H' v u} J rv q => ⟨v, H', J.os, J.bare, J.base, J.hok, rv, q⟩
  cases fl with
  | ret u =>
    obtain ⟨v, σ', H', J, rv, q⟩ := hs
    exact fin J rv q
  | next =>
    obtain ⟨σ', H', J, q⟩ := hs
    exact fin (v := V.non) (u := Value.none) J rfl q
  | brk =>
    obtain ⟨_, _, _, q⟩ := hs
    exact False.elim q
  | cont =>
    obtain ⟨_, _, _, q⟩ := hs
    exact False.elim q
noncomputable def CalM (P : Program) (w : World) (K : Fg) (mg : Str → Option Value) (base : Heap) (k : Nat) (x : Str) (ps : List Str) (sp : Sp3) : Prop :=
  ∃ f fd, FnOkM P w K mg base CX0 k f fd ps (lift K sp) ∧ mg x = some (.ref f) ∧ PySem.W.keepIn K (.ref f) = true ∧ Binds K fd ps []
theorem CalM.mono {P : Program} {w : World} {K : Fg} {mg : Str → Option Value} {base : Heap} {j k : Nat} {x : Str} {ps : List Str} {sp : Sp3} (c : CalM P w K mg base j x ps sp) (h : j ≤ k) : CalM P w K mg base k x ps sp := by
  obtain ⟨f, fd, F, r⟩ := c
  exact ⟨f, fd, ⟨F.len, fun A outer s H args us vs Q E hr => F.run A outer s H args us vs Q E (hr.mono h)⟩, r⟩
section
variable {X : Cx} {x : Str} {e : Expr} {es : List Expr} {p pos : Pos} {t : TA3}
theorem re_callM {k : Nat} {ps : List Str} {sp : Sp3} (c : CalM X.prog X.w X.K X.mg X.base k x ps sp) (hr : RoomM k X.A) (ha : RA X (e :: es) t) (hg : Gl X x := by rfl) (hdb : (x == ("__debug__" : Str)) = false := by decide)
    (he : starEach (e :: es) X.env = (false, eval e X.env) :: starEach es X.env := by rfl) (hpl : (backTo pos (starEach es X.env)).any (·.1) = false := by rfl) : RE X (.Call (.Name x p) (e :: es) [] pos) (call3 sp t) := by
  obtain ⟨f, fd, F, hm, hk, hb⟩ := c
  obtain ⟨va, pa, ra⟩ := ha
  refine ⟨tCall (lift X.K sp) [] E0 va, fun pins s σ H Q I h => ?_, fun σ H Q ρ μ Q3 s m h k => ra σ H _ ρ μ _ s m h fun ds μ1 vs H1 h1 k1 r1 m1 => ?_⟩
  · refine wpAny_Call_Name_kw (ld_glob I hg hm ?_ hdb)
    refine PySem.W.callWith_K (h₀ := X.base) I.ok.mod.kin hk (thn (pa pos pins s σ H _ I h) fun us s1 ⟨vs, H1, I1, r, q⟩ => ⟨I1.kIn, ?_⟩) he hpl
    dsimp only at q
    rw [List.append_nil] at q
    have hl : (us ++ []).length = ps.length := by rw [List.append_nil, ← r.length]; exact F.len _ _ _ _ q
    have hbb := hb s1 us I1.kIn hl
    rw [List.append_nil] at hbb
    refine wpAny_call (codeAny_mono (F.run X.A X.stack s1 H1 ⟨us, []⟩ us vs Q E0 hr I1.env0 hbb r q) fun rr s' hq => ?_)
    cases rr with
    | error ex => exact False.elim hq
    | ok fl =>
      cases fl with
      | ret u => exact I1.after hq
      | next => exact False.elim hq
      | brk => exact False.elim hq
      | cont => exact False.elim hq
  · rw [List.append_nil]
    exact ⟨ds, μ1, Q3, r1, m1, h1, k.after k1⟩
end
section
variable {P : Program} {w : World} {K : Fg} {mg : Str → Option Value} {base : Heap}
theorem calM_of {x : Str} {st : Stmt} {f : Addr} {fd : FuncData} {N ps : List Str} {k : Nat} {sp : Sp3} {t : TS3} (F : Fun K x x st f fd) (hm : mg x = some (.ref f)) (hb : Binds K fd ps []) (S : FnScope N ps (defScope st))
    (len : ∀ ds μ Q, sp ds μ Q → ds.length = ps.length)
    (body : ∀ (cdv : Value) (A : Around) (outer : List Env) (s : Shared) (H : Hp) (E : XK), RoomM k (A.deeper (envOfC x (defScope st) s.heap.objs.size f cdv)) → RSs (cxM CX0 P w K mg base N x (defScope st) f cdv A outer s H E).nox (defBody st) t)
    (rd : ∀ ds μ Q, sp ds μ Q → t { nx := fun _ μ' => Q .non μ', rt := Q } (start3 N ds) μ) : CalM P w K mg base (k + 1) x ps sp := by
  refine ⟨f, fd, ?_, hm, F.kp, hb⟩
  obtain ⟨oc, od, kV, doc, pm, an, cdv, ct, osl, rfl, lk, hcd⟩ := F.ex
  refine fn_ofM lk hcd S (fun vs H Q E h => ?_) fun A outer s H vs Q E hr h => ?_
  · obtain ⟨ds, μ, Q3, r, m, q, ks⟩ := h
    rw [← r.length]; exact len _ _ _ q
  · obtain ⟨ds, μ, Q3, r, m, q, ks⟩ := h
    obtain ⟨tv, p, rt⟩ := body cdv A outer s H E hr
    exact ⟨tv, p.nox, rt _ H _ _ μ _ (RSt.start N r) m (rd ds μ Q3 q) ⟨fun ρ μ' σ H' h' k' s' m' => ks _ _ _ _ h' k' .non m', fun ρ μ' σ H' h' => False.elim h', fun ρ μ' σ H' h' => False.elim h', ks⟩⟩
end
end Pv

namespace Pv
open PySem PySem.Spec PyProof.Rows L2 PySem.Calls
theorem own_mk {K : Fg} {h : Heap} {mg : Str → Option Value} {x : Str} {C : Addr} {bs : List Value} {ni : String} (Z : K.In h) (G : h.Ns mainGlobals mg) (e : PySem.W.nsIn K mainGlobals x = some (some (.ref C))) (w : PySem.W.excIn K C bs ni = true) : OwnCls x C bs ni mg h := by
  refine ⟨PySem.W.mg_of Z G e, ?_⟩
  unfold PySem.W.excIn at w
  split at w
  case h_2 => cases w
  case h_1 d1 c1 s1 ho =>
    split at w
    case h_2 => cases w
    case h_1 C2 b1 z0 z1 z2 z3 id z5 hm hs =>
      simp only [Bool.and_eq_true, beq_iff_eq, Bool.not_eq_true'] at w
      obtain ⟨⟨⟨⟨⟨w1, w2⟩, w3⟩, w4⟩, w5⟩, w6⟩ := w
      subst w1 w2
      cases c1
      dsimp only at hm w3 w5 w6
      subst hm w3
      have es : s1 = #[z0, z1, z2, z3, some (.builtin id), z5] := by cases s1; simp only at hs; rw [hs]
      rw [es] at ho
      exact ⟨b1, _, _, _, _, _, _, _, _, _, d1, z0, z1, z2, z3, z5, _, Z _ _ ho, .of_isNs (PySem.W.isNs_of_in Z w5), PySem.W.nsMap_none_of_in Z w5 w6, PySem.W.tail_of_in Z w4⟩
section
variable {K : Fg} {C : Addr} {cd : ClassData} {t c : Value} {b : Bool} {T : String}
theorem kitC_ref (cl : PySem.W.clsIn K C = some cd) (tc : PySem.W.typeIn K (.ref C) = some (.type "type")) (sb : PySem.W.subIn K t (.ref C) = some b) : PySem.W.kitCls K t (.ref C) = some b := by
  unfold PySem.W.kitCls
  dsimp only
  rw [cl, tc, if_pos (by simp), sb]
theorem kitC_ty (hm : PySem.W.kitMeta T = true) (sb : PySem.W.subIn K t (.type T) = some b) : PySem.W.kitCls K t (.type T) = some b := by
  unfold PySem.W.kitCls
  dsimp only
  rw [if_pos hm, sb]
theorem kitO_of (ne : (t == c) = false) (h : PySem.W.kitCls K t c = some b) : PySem.W.kitOne K t c = some b := by
  unfold PySem.W.kitOne
  rw [if_neg (by rw [ne]; decide), h]
theorem kitO_same : PySem.W.kitOne K t t = some true := by
  unfold PySem.W.kitOne
  rw [if_pos (by simp)]
end
theorem bz_ValueError : bootBuiltins "ValueError" = some (.type "ValueError") := by decide +kernel
end Pv

namespace Pv
open PySem PySem.Spec PyProof.Rows L2 PySem.Calls
theorem Kp.wrI {H : Hp} {p : Addr} {o : HO} {C dx : Addr} {fs : List (Str × V)} (h : H p = some (.ins C dx fs)) : Kp H (upd H p o) :=
  ⟨fun b ys q => by rw [upd_ne (ne_of q h (by intro z; cases z))]; exact q, fun b o u q => by rw [upd_ne (ne_of q h (by intro z; cases z))]; exact q⟩
theorem RelFs.put {K : Fg} {H : Hp} {f : Str} {d : D} {v : V} (r : RelD K H d v) {l : List (Str × D)} {vs : List (Str × V)} (h : RelFs K H l vs) : RelFs K H (putD f d l) (putF f v vs) := by
  induction h with
  | nil => exact .cons r .nil
  | @cons g d' v' l' vs' h1 h2 ih =>
    simp only [putD, putF]
    split
    · exact .cons r h2
    · exact .cons h1 ih
theorem RelFs.get {K : Fg} {H : Hp} {f : Str} {l : List (Str × D)} {vs : List (Str × V)} (h : RelFs K H l vs) {d : D} (e : l.lookup f = some d) : ∃ v, vs.lookup f = some v ∧ RelD K H d v := by
  induction h with
  | nil => cases e
  | @cons g d' v' l' vs' h1 h2 ih =>
    simp only [List.lookup] at e ⊢
    split at e
    · next q => cases e; exact ⟨v', rfl, h1⟩
    · next q => exact ih e
theorem RelFs.no {K : Fg} {H : Hp} {f : Str} {l : List (Str × D)} {vs : List (Str × V)} (h : RelFs K H l vs) (e : l.lookup f = none) : vs.lookup f = none := by
  induction h with
  | nil => rfl
  | @cons g d' v' l' vs' h1 h2 ih =>
    simp only [List.lookup] at e ⊢
    split at e
    · cases e
    · next q => exact ih e
theorem RelFs.len {K : Fg} {H : Hp} {l : List (Str × D)} {vs : List (Str × V)} (h : RelFs K H l vs) : l.length = vs.length := by
  induction h with
  | nil => rfl
  | cons _ _ ih => simp only [List.length_cons, ih]
theorem RelM.wrI {K : Fg} {μ : Mu} {H : Hp} {p : Addr} {c : Str} {C dx : Addr} {fs : List (Str × D)} {vs ws : List (Str × V)} (n : PySem.W.nsIn K mainGlobals c = some (some (.ref C))) (h : H p = some (.ins C dx ws)) (hx : H dx = some (.own p)) (r : RelFs K H fs vs) (m : RelM K μ H) :
    RelM K (updM μ p (.ins c fs)) (upd H p (.ins C dx vs)) := by
  refine ⟨fun q ys e => ?_, fun q c' gs e => ?_, fun q kvs e => ?_⟩
  · by_cases z : q = p
    · subst z; rw [updM_same] at e; cases e
    · rw [updM_ne z] at e
      rw [upd_ne z]
      obtain ⟨us, q1, r1⟩ := m.lst q ys e
      exact ⟨us, q1, r1.mono (Kp.wrI h)⟩
  · by_cases z : q = p
    · subst z
      rw [updM_same] at e; cases e
      refine ⟨C, dx, vs, n, upd_same, ?_, r.mono (Kp.wrI h)⟩
      rw [upd_ne]
      · exact hx
      · intro y; subst y; rw [h] at hx; cases hx
    · rw [updM_ne z] at e
      obtain ⟨C', dx', us, n', q1, q2, r1⟩ := m.ins q c' gs e
      refine ⟨C', dx', us, n', by rw [upd_ne z]; exact q1, ?_, r1.mono (Kp.wrI h)⟩
      rw [upd_ne]
      · exact q2
      · intro y; subst y; rw [h] at q2; cases q2
  · by_cases z : q = p
    · subst z; rw [updM_same] at e; cases e
    · rw [updM_ne z] at e
      rw [upd_ne z]
      obtain ⟨us, q1, r1⟩ := m.dct q kvs e
      exact ⟨us, q1, r1.mono (Kp.wrI h)⟩
theorem RelM.newI {K : Fg} {μ : Mu} {H : Hp} {x dx : Addr} {c : Str} {C : Addr} (n : PySem.W.nsIn K mainGlobals c = some (some (.ref C))) (h : H x = none) (hd : H dx = none) (hne : dx ≠ x) (m : RelM K μ H) :
    RelM K (updM μ x (.ins c [])) (upd (upd H dx (.own x)) x (.ins C dx [])) := by
  have m1 := m.newT (o := .own x) hd
  have h1 : upd H dx (.own x) x = none := by rw [upd_ne (Ne.symm hne)]; exact h
  have m2 := m1.newT (o := .ins C dx []) h1
  refine ⟨fun q ys e => ?_, fun q c' gs e => ?_, fun q kvs e => ?_⟩
  · by_cases z : q = x
    · subst z; rw [updM_same] at e; cases e
    · rw [updM_ne z] at e; exact m2.lst q ys e
  · by_cases z : q = x
    · subst z
      rw [updM_same] at e; cases e
      exact ⟨C, dx, [], n, upd_same, by rw [upd_ne hne, upd_same], .nil⟩
    · rw [updM_ne z] at e; exact m2.ins q c' gs e
  · by_cases z : q = x
    · subst z; rw [updM_same] at e; cases e
    · rw [updM_ne z] at e; exact m2.dct q kvs e
/-- a class of the module whose objects are made and read here -/
structure ObjC (K : Fg) (c : Str) (C : Addr) : Prop where
  ns : PySem.W.nsIn K mainGlobals c = some (some (.ref C))
  cl : Cls K C
section
variable {X : Cx} {e o value : Expr} {te to tv : TE3} {c f m : Str} {C : Addr} {pos pos' p apos : Pos} {es : List Expr} {t : TA3} {x : Str}
theorem re_fld (he : RE X e te) (oc : ObjC X.K c C) (na : NoAttr X.K C f) (hb : attributeBase e f X.env (eval e X.env) = eval e X.env := by rfl) : RE X (.Attribute e f pos) (fld3 te c f) := by
  obtain ⟨va, pa, ra⟩ := he
  refine ⟨_, pe_fld pa hb, fun σ H Q ρ μ Q3 s mm h k => ra σ H _ ρ μ _ s mm h fun d μ1 v H1 h1 k1 r1 m1 => ?_⟩
  cases r1 with
  | ref q =>
    dsimp only at h1
    cases e0 : μ1 q with
    | none => rw [e0] at h1; exact h1.elim
    | some oo =>
      cases oo with
      | lst _ => rw [e0] at h1; exact h1.elim
      | dct _ => rw [e0] at h1; exact h1.elim
      | ins c' fs =>
        rw [e0] at h1
        obtain ⟨rfl, h2⟩ := h1
        obtain ⟨C', dx, vs, n, q1, q2, r⟩ := m1.ins q _ fs e0
        rw [oc.ns] at n
        cases n
        cases e1 : fs.lookup f with
        | none => rw [e1] at h2; exact h2.elim
        | some d =>
          rw [e1] at h2
          obtain ⟨v, l, rv⟩ := r.get e1
          exact ⟨q, C, dx, vs, v, rfl, q1, oc.cl, na, l, k _ _ _ _ h2 k1 rv m1⟩
  | _ => exact False.elim h1
theorem rs_fld (ho : RE X o to) (hv : RE X value tv) (oc : ObjC X.K c C) (na : NoAttr X.K C f) (hs : swapsWith value (some (.Attribute o f pos')) pos.line X.env = pure false := by rfl) : RS X (.Assign [.Attribute o f pos'] value pos) (sfld3 to tv c f) := by
  obtain ⟨va, pa, ra⟩ := ho
  obtain ⟨vb, pb, rb⟩ := hv
  refine ⟨_, ps_fld pa pb hs, fun σ H D ρ μ D3 s mm h kd => rb σ H _ ρ μ _ s mm h fun y μ1 u H1 h1 k1 r1 m1 => ra σ H1 _ ρ μ1 _ (s.mono k1) m1 h1 fun d μ2 v H2 h2 k2 r2 m2 => ?_⟩
  cases r2 with
  | ref q =>
    dsimp only at h2
    cases e0 : μ2 q with
    | none => rw [e0] at h2; exact h2.elim
    | some oo =>
      cases oo with
      | lst _ => rw [e0] at h2; exact h2.elim
      | dct _ => rw [e0] at h2; exact h2.elim
      | ins c' fs =>
        rw [e0] at h2
        obtain ⟨⟨rfl, hl⟩, h3⟩ := h2
        obtain ⟨C', dx, vs, n, q1, q2, r⟩ := m2.ins q _ fs e0
        have n0 := n
        rw [oc.ns] at n
        cases n
        refine ⟨q, C, dx, vs, rfl, q1, oc.cl, na, by rw [← r.len]; exact hl, ?_⟩
        have kw : Kp H2 (upd H2 q (.ins C dx (putF f u vs))) := Kp.wrI q1
        exact kd.nx _ _ _ _ h3 (k1.trans (k2.trans kw)) (((s.mono k1).mono k2).mono kw) (m2.wrI n0 q1 q2 (r.put (r1.mono k2)))
  | _ => exact False.elim h2
/-- a method's promise -/
noncomputable def CalT (P : Program) (w : World) (K : Fg) (mg : Str → Option Value) (base : Heap) (k : Nat) (C : Addr) (m : Str) (ps : List Str) (sp : Sp3) : Prop :=
  ∃ f fd, FnOk P w K mg base CX0 k f fd ps (lift K sp) ∧ PySem.W.findIn K (.ref C) m = some (some (.ref f)) ∧ PySem.W.isFn K (.ref f) = true ∧ PySem.W.keepIn K (.ref f) = true ∧ Binds K fd ps []
theorem re_meth {k : Nat} {ps : List Str} {sp : Sp3} {pl : Sem Bool} (ho : RE X o to) (oc : ObjC X.K c C) (cf : CalT X.prog X.w X.K X.mg X.base k C m ps sp) (hr : Room k X.A) (ha : RA X (e :: es) t)
    (hst : starEach (e :: es) X.env = (false, eval e X.env) :: starEach es X.env := by rfl) (hpl : (backTo pos (starEach es X.env)).any (·.1) = false := by rfl)
    (ht : eval (.Call (.Attribute o m apos) (e :: es) [] pos) X.env = (do
      let ov ← eval o X.env
      standAt apos.atName
      let (f, first) ← holding [ov] (getMethod ov m pl)
      callWith pos f first (backTo pos (starEach (e :: es) X.env)) (backToKw pos (keywordEach [] X.env))) := by rfl) :
    RE X (.Call (.Attribute o m apos) (e :: es) [] pos) (meth3 c m sp to t) := by
  obtain ⟨f, fd, F, h1, h2, h3, hb⟩ := cf
  obtain ⟨va, pa, ra⟩ := ho
  obtain ⟨vb, pb, rb⟩ := ha
  refine ⟨_, pe_meth (pl := pl) pa oc.cl ⟨h1, h2, h3⟩ F hr hb .nil pass0 pb hst hpl ht, fun σ H Q ρ μ Q3 s mm h kk => ra σ H _ ρ μ _ s mm h fun d μ1 v H1 g1 k1 r1 m1 => ?_⟩
  cases r1 with
  | ref q =>
    dsimp only at g1
    cases e0 : μ1 q with
    | none => rw [e0] at g1; exact g1.elim
    | some oo =>
      cases oo with
      | lst _ => rw [e0] at g1; exact g1.elim
      | dct _ => rw [e0] at g1; exact g1.elim
      | ins c' fs =>
        rw [e0] at g1
        obtain ⟨⟨rfl, hl⟩, g2⟩ := g1
        obtain ⟨C', dx, vs, n, q1, q2, r⟩ := m1.ins q _ fs e0
        rw [oc.ns] at n
        cases n
        refine ⟨q, dx, vs, rfl, q1, r.no hl, rb σ H1 _ ρ μ1 _ (s.mono k1) m1 g2 fun ds μ2 us H2 g3 k2 r2 m2 => ?_⟩
        rw [List.append_nil]
        exact ⟨_, _, _, .cons (.ref q) r2, m2, g3, kk.after (k1.trans k2)⟩
  | _ => exact False.elim g1
end
section
variable {P : Program} {w : World} {K : Fg} {mg : Str → Option Value} {base : Heap}
theorem CalT.mono {j k : Nat} {C : Addr} {m : Str} {ps : List Str} {sp : Sp3} (c : CalT P w K mg base j C m ps sp) (h : j ≤ k) : CalT P w K mg base k C m ps sp := by
  obtain ⟨f, fd, F, r⟩ := c
  exact ⟨f, fd, F.mono h, r⟩
theorem calT_of {x qual : Str} {st : Stmt} {f C : Addr} {fd : FuncData} {N ps : List Str} {k : Nat} {sp : Sp3} {t : TS3} (F : Fun K x qual st f fd) (hf : PySem.W.findIn K (.ref C) x = some (some (.ref f))) (hi : PySem.W.isFn K (.ref f) = true) (hb : Binds K fd ps []) (S : FnScope N ps (defScope st))
    (len : ∀ ds μ Q, sp ds μ Q → ds.length = ps.length)
    (body : ∀ (cdv : Value) (A : Around) (outer : List Env) (s : Shared) (H : Hp) (E : XK), Room k (A.deeper (envOfC qual (defScope st) s.heap.objs.size f cdv)) → RSs (cxOf CX0 P w K mg base N qual (defScope st) f cdv A outer s H E).nox (defBody st) t)
    (rd : ∀ ds μ Q, sp ds μ Q → t { nx := fun _ μ' => Q .non μ', rt := Q } (start3 N ds) μ) : CalT P w K mg base (k + 1) C x ps sp := by
  refine ⟨f, fd, Fun.ok F S (fun vs H Q E h => ?_) fun cdv A outer s H vs Q E hr h => ?_, hf, hi, F.kp, hb⟩
  · obtain ⟨ds, μ, Q3, r, m, q, ks⟩ := h
    rw [← r.length]; exact len _ _ _ q
  · obtain ⟨ds, μ, Q3, r, m, q, ks⟩ := h
    obtain ⟨tv, p, rt⟩ := body cdv A outer s H E hr
    exact ⟨tv, p, rt _ H _ _ μ _ (RSt.start N r) m (rd ds μ Q3 q) ⟨fun ρ μ' σ H' h' k' s' m' => ks _ _ _ _ h' k' .non m', fun ρ μ' σ H' h' => False.elim h', fun ρ μ' σ H' h' => False.elim h', ks⟩⟩
end
end Pv

/-! list.sort of fewer than 64 items, by an order: it is rightly ordered behind it -/
namespace Ms
open PySem.W PyProof.Rows
noncomputable def run (lt : Nat → Nat → Bool) {α : Type} : KasT α → α
  | .ret a => a
  | .ask i j k => run lt (k (lt i j))
theorem run_bind (lt : Nat → Nat → Bool) {α β : Type} (f : α → KasT β) : ∀ t : KasT α, run lt (t.bind f) = run lt (f (run lt t))
  | .ret _ => rfl
  | .ask i j k => run_bind lt f (k (lt i j))
/-- a strict order of numbers, where unlike ones may be alike -/
structure Ord (lt : Nat → Nat → Bool) : Prop where
  ir : ∀ a, lt a a = false
  tr : ∀ a b c, lt a b = true → lt b c = true → lt a c = true
  ng : ∀ a b c, lt a c = true → lt a b = true ∨ lt b c = true
section
variable {lt : Nat → Nat → Bool} (O : Ord lt)
noncomputable abbrev at' (p : Array Nat) (i : Nat) : Nat := p.getD i 0
noncomputable def le (lt : Nat → Nat → Bool) (a b : Nat) : Prop := lt b a = false
include O
theorem le_rf (a : Nat) : le lt a a := O.ir a
theorem le_tr {a b c : Nat} (h : le lt a b) (k : le lt b c) : le lt a c := by
  unfold le at *
  cases e : lt c a with
  | false => rfl
  | true =>
    rcases O.ng c b a e with h1 | h1
    · rw [k] at h1; cases h1
    · rw [h] at h1; cases h1
theorem le_lt {a b : Nat} (h : lt a b = true) : le lt a b := by
  unfold le
  cases e : lt b a with
  | false => rfl
  | true => have := O.tr a b a h e; rw [O.ir] at this; cases this
omit O
/-- rising, falling up to n -/
noncomputable def Up (lt : Nat → Nat → Bool) (p : Array Nat) (n : Nat) : Prop := ∀ a b, a ≤ b → b < n → le lt (at' p a) (at' p b)
noncomputable def Dn (lt : Nat → Nat → Bool) (p : Array Nat) (n : Nat) : Prop := ∀ a b, a ≤ b → b < n → le lt (at' p b) (at' p a)
theorem at_eq {p q : Array Nat} {i j : Nat} (h : p[i]? = q[j]?) : at' p i = at' q j := by
  show p.getD i 0 = q.getD j 0
  rw [Array.getD_eq_getD_getElem?, Array.getD_eq_getD_getElem?, h]
theorem at_rev {p : Array Nat} {i j : Nat} (hj : j ≤ p.size) (k : Nat) : at' (kas_rev p i j) k = if i ≤ k ∧ k < j then at' p (i + j - 1 - k) else at' p k := by
  have h := getElem?_mirror_all (xs := p) (i := i) hj k
  split
  · next c => rw [if_pos c] at h; exact at_eq h
  · next c => rw [if_neg c] at h; exact at_eq h
theorem at_bub {p : Array Nat} {k l : Nat} (hk : k < p.size) (hl : l ≤ k) (i : Nat) : at' (bubble p k (k - l)) i = if i = l then at' p k else if l < i ∧ i ≤ k then at' p (i - 1) else at' p i := by
  have h := getElem?_bubble (xs := p) hk (k - l) (by omega) i
  rw [show k - (k - l) = l by omega] at h
  by_cases c : i = l
  · rw [if_pos c] at h ⊢; exact at_eq h
  · rw [if_neg c] at h ⊢
    by_cases c2 : l < i ∧ i ≤ k
    · rw [if_pos c2] at h ⊢; exact at_eq h
    · rw [if_neg c2] at h ⊢; exact at_eq h
include O
theorem up_one (p : Array Nat) : Up lt p 1 := fun a b h1 h2 => by
  have e1 : a = 0 := by omega
  have e2 : b = 0 := by omega
  subst e1 e2
  exact le_rf O _
theorem up_snoc {p : Array Nat} {n : Nat} (h : Up lt p n) (h1 : 1 ≤ n) (k : le lt (at' p (n - 1)) (at' p n)) : Up lt p (n + 1) := fun a b hab hb => by
  by_cases e : b = n
  · subst e
    by_cases e2 : a = b
    · subst e2; exact le_rf O _
    · exact le_tr O (h a (b - 1) (by omega) (by omega)) k
  · exact h a b hab (by omega)
theorem dn_snoc {p : Array Nat} {n : Nat} (h : Dn lt p n) (h1 : 1 ≤ n) (k : le lt (at' p n) (at' p (n - 1))) : Dn lt p (n + 1) := fun a b hab hb => by
  by_cases e : b = n
  · subst e
    by_cases e2 : a = b
    · subst e2; exact le_rf O _
    · exact le_tr O k (h a (b - 1) (by omega) (by omega))
  · exact h a b hab (by omega)
theorem asc_ok (p : Array Nat) : ∀ (f n : Nat), 1 ≤ n → Up lt p n → n ≤ run lt (kas_asc p f n) ∧ run lt (kas_asc p f n) ≤ n + f ∧ Up lt p (run lt (kas_asc p f n)) ∧ (run lt (kas_asc p f n) < n + f → lt (at' p (run lt (kas_asc p f n))) (at' p (run lt (kas_asc p f n) - 1)) = true)
  | 0, n, h1, h => ⟨Nat.le_refl _, Nat.le_refl _, h, fun z => absurd z (Nat.lt_irrefl _)⟩
  | f + 1, n, h1, h => by
    cases e : lt (at' p n) (at' p (n - 1)) with
    | true =>
      have r : run lt (kas_asc p (f + 1) n) = n := by
        show run lt (if lt (at' p n) (at' p (n - 1)) = true then .ret n else kas_asc p f (n + 1)) = n
        rw [e]; rfl
      rw [r]
      exact ⟨Nat.le_refl _, by omega, h, fun _ => e⟩
    | false =>
      have r : run lt (kas_asc p (f + 1) n) = run lt (kas_asc p f (n + 1)) := by
        show run lt (if lt (at' p n) (at' p (n - 1)) = true then .ret n else kas_asc p f (n + 1)) = _
        rw [e]; rfl
      rw [r]
      obtain ⟨a1, a2, a3, a4⟩ := asc_ok p f (n + 1) (by omega) (up_snoc O h h1 e)
      exact ⟨by omega, by omega, a3, fun z => a4 (by omega)⟩
omit O
/-- the last q + 1 ahead of n are alike -/
noncomputable def Eqs (lt : Nat → Nat → Bool) (p : Array Nat) (n q : Nat) : Prop := ∀ a b, n - (q + 1) ≤ a → a < n → n - (q + 1) ≤ b → b < n → le lt (at' p a) (at' p b)
include O
theorem rev_eqs {p : Array Nat} {n q m : Nat} (hn : n ≤ p.size) (hq : q + 1 ≤ n) (h : Eqs lt p n q) (k : Nat) : le lt (at' (kas_rev p (n - (q + 1)) n) k) (at' p k) ∧ le lt (at' p k) (at' (kas_rev p (n - (q + 1)) n) k) := by
  rw [at_rev hn]
  split
  · next c => exact ⟨h _ _ (by omega) (by omega) c.1 c.2, h _ _ c.1 c.2 (by omega) (by omega)⟩
  · exact ⟨le_rf O _, le_rf O _⟩
theorem dn_like {p p' : Array Nat} {n : Nat} (h : Dn lt p n) (e : ∀ k, le lt (at' p' k) (at' p k) ∧ le lt (at' p k) (at' p' k)) : Dn lt p' n := fun a b hab hb =>
  le_tr O (e b).1 (le_tr O (h a b hab hb) (e a).2)
omit O
structure DOk (lt : Nat → Nat → Bool) (p0 : Array Nat) (N : Nat) (r : Array Nat × Nat × Nat) (n : Nat) : Prop where
  perm : r.1.Perm p0
  lo : n ≤ r.2.1
  hi : r.2.1 ≤ N
  dn : Dn lt r.1 r.2.1
  q : r.2.2 + 1 ≤ r.2.1
  eqs : Eqs lt r.1 r.2.1 r.2.2
include O
theorem desc_ok (p0 : Array Nat) : ∀ (f : Nat) (p : Array Nat) (n q : Nat), p.Perm p0 → n + f ≤ p0.size → Dn lt p n → q + 1 ≤ n → Eqs lt p n q → DOk lt p0 (n + f) (run lt (kas_desc f p n q)) n
  | 0, p, n, q, hp, hs, h, hq, he => ⟨hp, Nat.le_refl _, Nat.le_refl _, h, hq, he⟩
  | f + 1, p, n, q, hp, hs, h, hq, he => by
    have hsz : p.size = p0.size := hp.size_eq
    cases e : lt (at' p n) (at' p (n - 1)) with
    | true =>
      have one : ∀ p' : Array Nat, Eqs lt p' (n + 1) 0 := fun p' a b a1 a2 b1 b2 => by
        have e1 : a = n := by omega
        have e2 : b = n := by omega
        subst e1 e2; exact le_rf O _
      by_cases c : q > 0
      · have r : run lt (kas_desc (f + 1) p n q) = run lt (kas_desc f (kas_rev p (n - (q + 1)) n) (n + 1) 0) := by
          show run lt (if lt (at' p n) (at' p (n - 1)) = true then (if q > 0 then kas_desc f (kas_rev p (n - (q + 1)) n) (n + 1) 0 else kas_desc f p (n + 1) 0) else _) = _
          rw [e, if_pos rfl, if_pos c]
        rw [r]
        have lk := rev_eqs O (m := 0) (by omega) hq he
        have d := desc_ok p0 f (kas_rev p (n - (q + 1)) n) (n + 1) 0 ((mirror_perm _ _ _ _).trans hp) (by omega) (dn_like O (dn_snoc O h (by omega) (le_lt O e)) lk) (by omega) (one _)
        exact ⟨d.perm, by have := d.lo; omega, by have := d.hi; omega, d.dn, d.q, d.eqs⟩
      · have r : run lt (kas_desc (f + 1) p n q) = run lt (kas_desc f p (n + 1) 0) := by
          show run lt (if lt (at' p n) (at' p (n - 1)) = true then (if q > 0 then kas_desc f (kas_rev p (n - (q + 1)) n) (n + 1) 0 else kas_desc f p (n + 1) 0) else _) = _
          rw [e, if_pos rfl, if_neg c]
        rw [r]
        have d := desc_ok p0 f p (n + 1) 0 hp (by omega) (dn_snoc O h (by omega) (le_lt O e)) (by omega) (one _)
        exact ⟨d.perm, by have := d.lo; omega, by have := d.hi; omega, d.dn, d.q, d.eqs⟩
    | false =>
      cases e2 : lt (at' p (n - 1)) (at' p n) with
      | true =>
        have r : run lt (kas_desc (f + 1) p n q) = (p, n, q) := by
          show run lt (if lt (at' p n) (at' p (n - 1)) = true then _ else (KasT.ask (at' p (n - 1)) (at' p n) fun d => if d = true then .ret (p, n, q) else kas_desc f p (n + 1) (q + 1))) = _
          rw [e, if_neg (by decide)]
          show run lt (if lt (at' p (n - 1)) (at' p n) = true then .ret (p, n, q) else kas_desc f p (n + 1) (q + 1)) = _
          rw [e2]; rfl
        rw [r]
        exact ⟨hp, Nat.le_refl _, by show n ≤ n + (f + 1); omega, h, hq, he⟩
      | false =>
        have r : run lt (kas_desc (f + 1) p n q) = run lt (kas_desc f p (n + 1) (q + 1)) := by
          show run lt (if lt (at' p n) (at' p (n - 1)) = true then _ else (KasT.ask (at' p (n - 1)) (at' p n) fun d => if d = true then .ret (p, n, q) else kas_desc f p (n + 1) (q + 1))) = _
          rw [e, if_neg (by decide)]
          show run lt (if lt (at' p (n - 1)) (at' p n) = true then .ret (p, n, q) else kas_desc f p (n + 1) (q + 1)) = _
          rw [e2, if_neg (by decide)]
        rw [r]
        have he' : Eqs lt p (n + 1) (q + 1) := fun a b a1 a2 b1 b2 => by
          by_cases ca : a = n
          · subst ca
            by_cases cb : b = a
            · subst cb; exact le_rf O _
            · exact le_tr O e2 (he (a - 1) b (by omega) (by omega) (by omega) (by omega))
          · by_cases cb : b = n
            · subst cb; exact le_tr O (he a (b - 1) (by omega) (by omega) (by omega) (by omega)) e
            · exact he a b (by omega) (by omega) (by omega) (by omega)
        have d := desc_ok p0 f p (n + 1) (q + 1) hp (by omega) (dn_snoc O h (by omega) e2) (by omega) he'
        exact ⟨d.perm, by have := d.lo; omega, by have := d.hi; omega, d.dn, d.q, d.eqs⟩
omit O
/-- a run at the front: so many, rising -/
structure ROk (lt : Nat → Nat → Bool) (p0 : Array Nat) (N : Nat) (r : Nat × Array Nat) : Prop where
  perm : r.2.Perm p0
  lo : 1 ≤ r.1
  hi : r.1 ≤ N
  up : Up lt r.2 r.1
theorem dn_rev {p : Array Nat} {n : Nat} (hn : n ≤ p.size) (h : Dn lt p n) : Up lt (kas_rev p 0 n) n := fun a b hab hb => by
  rw [at_rev hn, at_rev hn, if_pos ⟨by omega, by omega⟩, if_pos ⟨by omega, by omega⟩]
  exact h _ _ (by omega) (by omega)
include O
theorem tail3_ok {p0 p : Array Nat} {n N : Nat} (hp : p.Perm p0) (hN : N ≤ p0.size) (h1 : 1 ≤ n) (hn : n ≤ N) (h : Dn lt p n) : ROk lt p0 N (run lt (kas_tail3 n N p)) := by
  have hsz : p.size = p0.size := hp.size_eq
  have u := dn_rev (by omega) h
  unfold kas_tail3
  rw [run_bind]
  obtain ⟨a1, a2, a3, _⟩ := asc_ok O (kas_rev p 0 n) (N - n) n h1 u
  exact ⟨(mirror_perm _ _ _ _).trans hp, by show 1 ≤ run lt _; omega, by show run lt _ ≤ N; omega, a3⟩
theorem descPart_ok {p0 p : Array Nat} {n N : Nat} (hp : p.Perm p0) (hN : N ≤ p0.size) (hn : n + 1 ≤ N) (h : Dn lt p (n + 1)) : ROk lt p0 N (run lt (kas_descPart n N p)) := by
  have hsz : p.size = p0.size := hp.size_eq
  unfold kas_descPart
  rw [run_bind]
  have one : Eqs lt p (n + 1) 0 := fun a b a1 a2 b1 b2 => by
    have e1 : a = n := by omega
    have e2 : b = n := by omega
    subst e1 e2; exact le_rf O _
  have d := desc_ok O p0 (N - (n + 1)) p (n + 1) 0 hp (by omega) h (by omega) one
  generalize run lt (kas_desc (N - (n + 1)) p (n + 1) 0) = r at d
  obtain ⟨p', n', q'⟩ := r
  have d1 := d.lo
  have d2 := d.hi
  have d3 := d.q
  dsimp only at d1 d2 d3
  have hs' : p'.size = p0.size := d.perm.size_eq
  show ROk lt p0 N (run lt (if q' > 0 then kas_tail3 n' N (kas_rev p' (n' - (q' + 1)) n') else kas_tail3 n' N p'))
  split
  · have lk := rev_eqs O (p := p') (n := n') (q := q') (m := 0) (by omega) d3 d.eqs
    exact tail3_ok O ((mirror_perm _ _ _ _).trans d.perm) hN (by omega) (by omega) (dn_like O d.dn lk)
  · exact tail3_ok O d.perm hN (by omega) (by omega) d.dn
theorem count_ok {p : Array Nat} {N : Nat} (hN : N ≤ p.size) (h1 : 1 ≤ N) : ROk lt p N (run lt (kas_count N p)) := by
  unfold kas_count
  rw [run_bind]
  obtain ⟨a1, a2, a3, a4⟩ := asc_ok O p (N - 1) 1 (Nat.le_refl _) (up_one O p)
  generalize run lt (kas_asc p (N - 1) 1) = n at a1 a2 a3 a4
  by_cases c : n = N
  · rw [if_pos (by rw [c]; exact beq_self_eq_true _)]
    exact ⟨Array.Perm.refl _, by show 1 ≤ n; omega, by show n ≤ N; omega, a3⟩
  · rw [if_neg (by simpa using c)]
    have lt1 := a4 (by omega)
    by_cases c2 : n > 1
    · rw [if_pos c2]
      show ROk lt p N (run lt (if lt (at' p 0) (at' p (n - 1)) = true then .ret (n, p) else kas_descPart n N (kas_rev p 0 n)))
      cases e : lt (at' p 0) (at' p (n - 1)) with
      | true =>
        rw [if_pos rfl]
        exact ⟨Array.Perm.refl _, by show 1 ≤ n; omega, by show n ≤ N; omega, a3⟩
      | false =>
        rw [if_neg (by decide)]
        have eq : ∀ a b, a < n → b < n → le lt (at' p a) (at' p b) := fun a b ha hb => le_tr O (a3 a (n - 1) (by omega) (by omega)) (le_tr O e (a3 0 b (by omega) hb))
        refine descPart_ok O (mirror_perm _ _ _ _) hN (by omega) ?_
        have d0 : Dn lt (kas_rev p 0 n) n := fun a b hab hb => by
          rw [at_rev (by omega), at_rev (by omega), if_pos ⟨by omega, by omega⟩, if_pos ⟨by omega, by omega⟩]
          exact eq _ _ (by omega) (by omega)
        refine dn_snoc O d0 (by omega) ?_
        rw [at_rev (by omega), at_rev (by omega), if_neg (by omega), if_pos ⟨by omega, by omega⟩]
        exact le_tr O (le_lt O lt1) (eq _ _ (by omega) (by omega))
    · rw [if_neg c2]
      have e1 : n = 1 := by omega
      subst e1
      refine descPart_ok O (Array.Perm.refl _) hN (by omega) ?_
      have d0 : Dn lt p 1 := fun a b h1 h2 => by
        have e1 : a = 0 := by omega
        have e2 : b = 0 := by omega
        subst e1 e2; exact le_rf O _
      exact dn_snoc O d0 (Nat.le_refl _) (le_lt O lt1)
theorem place_ok {p : Array Nat} {k : Nat} (h : Up lt p k) : ∀ (f l r : Nat), l ≤ r → r ≤ k → r - l ≤ f → (∀ a, a < l → le lt (at' p a) (at' p k)) → (∀ b, r ≤ b → b < k → lt (at' p k) (at' p b) = true) →
    run lt (kas_place p k f l r) ≤ k ∧ (∀ a, a < run lt (kas_place p k f l r) → le lt (at' p a) (at' p k)) ∧ ∀ b, run lt (kas_place p k f l r) ≤ b → b < k → lt (at' p k) (at' p b) = true
  | 0, l, r, hlr, hrk, hf, h1, h2 => ⟨by show l ≤ k; omega, h1, fun b hb1 hb2 => h2 b (by have : l ≤ b := hb1; omega) hb2⟩
  | f + 1, l, r, hlr, hrk, hf, h1, h2 => by
    by_cases c : l ≥ r
    · have e : run lt (kas_place p k (f + 1) l r) = l := by
        show run lt (if l ≥ r then .ret l else _) = l
        rw [if_pos c]; rfl
      rw [e]
      exact ⟨by omega, h1, fun b hb1 hb2 => h2 b (by omega) hb2⟩
    · cases e : lt (at' p k) (at' p ((l + r) / 2)) with
      | true =>
        have e2 : run lt (kas_place p k (f + 1) l r) = run lt (kas_place p k f l ((l + r) / 2)) := by
          show run lt (if l ≥ r then .ret l else .ask (at' p k) (at' p ((l + r) / 2)) fun c => if c = true then kas_place p k f l ((l + r) / 2) else kas_place p k f ((l + r) / 2 + 1) r) = _
          rw [if_neg c]
          show run lt (if lt (at' p k) (at' p ((l + r) / 2)) = true then _ else _) = _
          rw [e, if_pos rfl]
        rw [e2]
        refine place_ok h f l ((l + r) / 2) (by omega) (by omega) (by omega) h1 fun b hb1 hb2 => ?_
        have z := h ((l + r) / 2) b hb1 hb2
        rcases O.ng (at' p k) (at' p b) (at' p ((l + r) / 2)) e with y | y
        · exact y
        · unfold le at z; rw [z] at y; cases y
      | false =>
        have e2 : run lt (kas_place p k (f + 1) l r) = run lt (kas_place p k f ((l + r) / 2 + 1) r) := by
          show run lt (if l ≥ r then .ret l else .ask (at' p k) (at' p ((l + r) / 2)) fun c => if c = true then kas_place p k f l ((l + r) / 2) else kas_place p k f ((l + r) / 2 + 1) r) = _
          rw [if_neg c]
          show run lt (if lt (at' p k) (at' p ((l + r) / 2)) = true then _ else _) = _
          rw [e, if_neg (by decide)]
        rw [e2]
        exact place_ok h f ((l + r) / 2 + 1) r (by omega) hrk (by omega) (fun a ha => le_tr O (h a ((l + r) / 2) (by omega) (by omega)) e) h2
theorem bin_ok {p0 : Array Nat} : ∀ (f : Nat) (p : Array Nat) (k : Nat), p.Perm p0 → 1 ≤ k → k + f ≤ p0.size → Up lt p k → (run lt (kas_bin f p k)).Perm p0 ∧ Up lt (run lt (kas_bin f p k)) (k + f)
  | 0, p, k, hp, h1, hs, h => ⟨hp, h⟩
  | f + 1, p, k, hp, h1, hs, h => by
    have hsz : p.size = p0.size := hp.size_eq
    have e : run lt (kas_bin (f + 1) p k) = run lt (kas_bin f (bubble p k (k - run lt (kas_place p k k 0 k))) (k + 1)) := by
      show run lt ((kas_place p k k 0 k).bind fun l => kas_bin f (bubble p k (k - l)) (k + 1)) = _
      rw [run_bind]
    rw [e]
    obtain ⟨b1, b2, b3⟩ := place_ok O h k 0 k (by omega) (Nat.le_refl _) (by omega) (fun a ha => absurd ha (Nat.not_lt_zero _)) (fun b hb1 hb2 => by omega)
    generalize run lt (kas_place p k k 0 k) = l at b1 b2 b3
    have u : Up lt (bubble p k (k - l)) (k + 1) := fun a b hab hb => by
      rw [at_bub (by omega) b1, at_bub (by omega) b1]
      by_cases ca : a = l
      · rw [if_pos ca]
        by_cases cb : b = l
        · rw [if_pos cb]; exact le_rf O _
        · rw [if_neg cb, if_pos ⟨by omega, by omega⟩]; exact le_lt O (b3 _ (by omega) (by omega))
      · rw [if_neg ca]
        by_cases cb : b = l
        · rw [if_pos cb, if_neg (by omega)]; exact b2 _ (by omega)
        · rw [if_neg cb]
          by_cases ca2 : l < a ∧ a ≤ k
          · rw [if_pos ca2, if_pos ⟨by omega, by omega⟩]; exact h _ _ (by omega) (by omega)
          · rw [if_neg ca2]
            by_cases cb2 : l < b ∧ b ≤ k
            · rw [if_pos cb2]; exact h _ _ (by omega) (by omega)
            · rw [if_neg cb2]; exact h _ _ (by omega) (by omega)
    have z := bin_ok f (bubble p k (k - l)) (k + 1) ((bubble_perm _ _ _).trans hp) (by omega) (by omega) u
    rw [show k + 1 + f = k + (f + 1) by omega] at z
    exact z
/-- list.sort's tree: a permutation, rising -/
theorem sort_ok {n : Nat} (hn : 1 ≤ n) : (run lt (kas_sort n)).Perm (List.toArray (List.range n)) ∧ Up lt (run lt (kas_sort n)) n := by
  have hs : (List.toArray (List.range n)).size = n := by simp
  unfold kas_sort
  rw [run_bind]
  have c := count_ok O (p := List.toArray (List.range n)) (N := n) (by omega) hn
  generalize run lt (kas_count n (List.toArray (List.range n))) = r at c
  obtain ⟨m, p⟩ := r
  have c1 := c.lo
  have c2 := c.hi
  dsimp only at c1 c2
  show (run lt (if m < n then kas_bin (n - max m 1) p (max m 1) else .ret p)).Perm _ ∧ Up lt (run lt (if m < n then kas_bin (n - max m 1) p (max m 1) else .ret p)) n
  rw [show max m 1 = m by omega]
  by_cases e : m < n
  · rw [if_pos e]
    have z := bin_ok O (n - m) p m c.perm c1 (by omega) c.up
    rw [show m + (n - m) = n by omega] at z
    exact z
  · rw [if_neg e]
    have e2 : m = n := by omega
    subst e2
    exact ⟨c.perm, c.up⟩
end
/-! which numbers are asked -/
noncomputable def Bd (N : Nat) {α : Type} (P : α → Prop) : KasT α → Prop
  | .ret a => P a
  | .ask i j k => i < N ∧ j < N ∧ ∀ b, Bd N P (k b)
theorem Bd.bind {N : Nat} {α β : Type} {P : α → Prop} {R : β → Prop} {f : α → KasT β} (hf : ∀ a, P a → Bd N R (f a)) : ∀ t : KasT α, Bd N P t → Bd N R (t.bind f)
  | .ret a, h => hf a h
  | .ask i j k, h => ⟨h.1, h.2.1, fun b => Bd.bind hf (k b) (h.2.2 b)⟩
theorem Bd.wp {N : Nat} {lt : Nat → Nat → Bool} {cmp : Nat → Nat → (Bool → PySem.Shared → Prop) → PySem.Shared → Prop} {s : PySem.Shared} (hc : ∀ i j C, i < N → j < N → C (lt i j) s → cmp i j C s) {α : Type} {P : α → Prop} {Q : α → PySem.Shared → Prop} :
    ∀ t : KasT α, Bd N P t → Q (run lt t) s → t.kasWp cmp Q s
  | .ret _, _, q => q
  | .ask i j k, h, q => hc i j _ h.1 h.2.1 (Bd.wp hc (k (lt i j)) (h.2.2 _) q)
section
variable {N : Nat}
theorem in_rng {p : Array Nat} (hN : 1 ≤ N) (hp : p.Perm (List.toArray (List.range N))) (k : Nat) : at' p k < N := by
  show p.getD k 0 < N
  rw [Array.getD_eq_getD_getElem?]
  cases e : p[k]? with
  | none => exact hN
  | some x =>
    have h1 : x ∈ p := Array.mem_of_getElem? e
    have h2 : x ∈ List.toArray (List.range N) := hp.mem_iff.mp h1
    simpa using h2
theorem bd_asc (hN : 1 ≤ N) {p : Array Nat} (hp : p.Perm (List.toArray (List.range N))) : ∀ f n, Bd N (fun _ => True) (kas_asc p f n)
  | 0, _ => trivial
  | f + 1, n => ⟨in_rng hN hp _, in_rng hN hp _, fun b => by
    show Bd N _ (if b = true then .ret n else kas_asc p f (n + 1))
    split
    · trivial
    · exact bd_asc hN hp f (n + 1)⟩
theorem bd_desc (hN : 1 ≤ N) : ∀ f (p : Array Nat) n q, p.Perm (List.toArray (List.range N)) → Bd N (fun r => r.1.Perm (List.toArray (List.range N))) (kas_desc f p n q)
  | 0, _, _, _, hp => hp
  | f + 1, p, n, q, hp => ⟨in_rng hN hp _, in_rng hN hp _, fun b => by
    show Bd N _ (if b = true then (if q > 0 then kas_desc f (kas_rev p (n - (q + 1)) n) (n + 1) 0 else kas_desc f p (n + 1) 0) else _)
    split
    · split
      · exact bd_desc hN f _ _ _ ((mirror_perm _ _ _ _).trans hp)
      · exact bd_desc hN f _ _ _ hp
    · refine ⟨in_rng hN hp _, in_rng hN hp _, fun d => ?_⟩
      show Bd N _ (if d = true then .ret (p, n, q) else kas_desc f p (n + 1) (q + 1))
      split
      · exact hp
      · exact bd_desc hN f _ _ _ hp⟩
theorem bd_tail3 (hN : 1 ≤ N) {p : Array Nat} {n m : Nat} (hp : p.Perm (List.toArray (List.range N))) : Bd N (fun r => r.2.Perm (List.toArray (List.range N))) (kas_tail3 n m p) := by
  have hr : (kas_rev p 0 n).Perm (List.toArray (List.range N)) := (mirror_perm _ _ _ _).trans hp
  unfold kas_tail3
  refine Bd.bind (P := fun _ => True) (f := fun m => .ret (m, kas_rev p 0 n)) (fun a _ => ?_) _ (bd_asc hN hr _ _)
  exact hr
theorem bd_descPart (hN : 1 ≤ N) {p : Array Nat} {n m : Nat} (hp : p.Perm (List.toArray (List.range N))) : Bd N (fun r => r.2.Perm (List.toArray (List.range N))) (kas_descPart n m p) := by
  refine Bd.bind (fun r hr => ?_) _ (bd_desc hN _ _ _ _ hp)
  show Bd N _ (if r.2.2 > 0 then kas_tail3 r.2.1 m (kas_rev r.1 (r.2.1 - (r.2.2 + 1)) r.2.1) else kas_tail3 r.2.1 m r.1)
  split
  · exact bd_tail3 hN ((mirror_perm _ _ _ _).trans hr)
  · exact bd_tail3 hN hr
theorem bd_count (hN : 1 ≤ N) {p : Array Nat} {m : Nat} (hp : p.Perm (List.toArray (List.range N))) : Bd N (fun r => r.2.Perm (List.toArray (List.range N))) (kas_count m p) := by
  refine Bd.bind (fun n _ => ?_) _ (bd_asc hN hp _ _)
  split
  · exact hp
  · split
    · refine ⟨in_rng hN hp _, in_rng hN hp _, fun b => ?_⟩
      show Bd N _ (if b = true then .ret (n, p) else kas_descPart n m (kas_rev p 0 n))
      split
      · exact hp
      · exact bd_descPart hN ((mirror_perm _ _ _ _).trans hp)
    · exact bd_descPart hN hp
theorem bd_place (hN : 1 ≤ N) {p : Array Nat} {k : Nat} (hp : p.Perm (List.toArray (List.range N))) : ∀ f l r, Bd N (fun _ => True) (kas_place p k f l r)
  | 0, _, _ => trivial
  | f + 1, l, r => by
    show Bd N _ (if l ≥ r then .ret l else .ask (at' p k) (at' p ((l + r) / 2)) fun c => if c = true then kas_place p k f l ((l + r) / 2) else kas_place p k f ((l + r) / 2 + 1) r)
    split
    · trivial
    · refine ⟨in_rng hN hp _, in_rng hN hp _, fun b => ?_⟩
      show Bd N _ (if b = true then kas_place p k f l ((l + r) / 2) else kas_place p k f ((l + r) / 2 + 1) r)
      split
      · exact bd_place hN hp f _ _
      · exact bd_place hN hp f _ _
theorem bd_bin (hN : 1 ≤ N) : ∀ f (p : Array Nat) k, p.Perm (List.toArray (List.range N)) → Bd N (fun _ => True) (kas_bin f p k)
  | 0, _, _, _ => trivial
  | f + 1, p, k, hp => Bd.bind (fun l _ => bd_bin hN f _ _ ((bubble_perm _ _ _).trans hp)) _ (bd_place hN hp _ _ _)
theorem bd_sort (hN : 1 ≤ N) : Bd N (fun _ => True) (kas_sort N) := by
  refine Bd.bind (fun r hr => ?_) _ (bd_count hN (Array.Perm.refl _))
  split
  · exact bd_bin hN _ _ _ hr
  · trivial
end
end Ms

/-! sorted: of fewer than 64 tuples of three ints -/
namespace Pv
open PySem PySem.Spec PySem.W PyProof.Rows L2
noncomputable abbrev T3 := Int × Int × Int
noncomputable def lt3 (a b : T3) : Bool := decide (a.1 < b.1) || (a.1 == b.1 && (decide (a.2.1 < b.2.1) || (a.2.1 == b.2.1 && decide (a.2.2 < b.2.2))))
noncomputable def IsT3 (h : Heap) (v : Value) (t : T3) : Prop := ∃ a o t1 t2 t3 n, v = .ref a ∧ h.get? a = some o ∧ o.cls = .type "tuple" ∧ o.data = .seq #[.int t.1 t1, .int t.2.1 t2, .int t.2.2 t3] n
theorem lt3_ord (ts : List T3) : Ms.Ord fun i j => lt3 (ts.getD i (0, 0, 0)) (ts.getD j (0, 0, 0)) where
  ir := fun a => by simp [lt3]
  tr := fun a b c h k => by
    simp only [lt3, Bool.or_eq_true, Bool.and_eq_true, decide_eq_true_eq, beq_iff_eq] at h k ⊢
    omega
  ng := fun a b c h => by
    simp only [lt3, Bool.or_eq_true, Bool.and_eq_true, decide_eq_true_eq, beq_iff_eq] at h ⊢
    omega
section
variable {prog : Program} {w : World} {A : Around} {E : Value → Shared → Prop} {s : Shared}
theorem t3_lt {x y : Value} {a b : T3} {Q : Bool → Shared → Prop} (hx : IsT3 s.heap x a) (hy : IsT3 s.heap y b) (h : Q (lt3 a b) s) : wpAny (model prog w) A (keyLt' (tuples' true) x y) Q E s := by
  obtain ⟨x, ox, t1, t2, t3, n, rfl, ex, _, dx⟩ := hx
  obtain ⟨y, oy, u1, u2, u3, m, rfl, ey, _, dy⟩ := hy
  obtain ⟨a1, a2, a3⟩ := a
  obtain ⟨b1, b2, b3⟩ := b
  refine kat_lt ex dx ey dy ?_
  refine kat_cons (wpAny_eqBool_int ?_)
  by_cases c1 : a1 = b1
  · rw [show (a1 == b1) = true from beq_iff_eq.mpr c1]
    refine kat_yes (kat_cons (wpAny_eqBool_int ?_))
    by_cases c2 : a2 = b2
    · rw [show (a2 == b2) = true from beq_iff_eq.mpr c2]
      refine kat_yes (kat_cons (wpAny_eqBool_int ?_))
      by_cases c3 : a3 = b3
      · rw [show (a3 == b3) = true from beq_iff_eq.mpr c3]
        refine kat_yes (kat_nil ?_)
        have e : lt3 (a1, a2, a3) (b1, b2, b3) = false := by subst c1 c2 c3; simp [lt3]
        rw [e] at h
        exact h
      · rw [show (a3 == b3) = false from by simpa using c3]
        have e : lt3 (a1, a2, a3) (b1, b2, b3) = decide (a3 < b3) := by subst c1 c2; simp [lt3]
        rw [e] at h
        exact kat_no (kat_one _ _ (lt_int h))
    · rw [show (a2 == b2) = false from by simpa using c2]
      have e : lt3 (a1, a2, a3) (b1, b2, b3) = decide (a2 < b2) := by subst c1; simp [lt3, c2]
      rw [e] at h
      exact kat_no (kat_one _ _ (lt_int h))
  · rw [show (a1 == b1) = false from by simpa using c1]
    have e : lt3 (a1, a2, a3) (b1, b2, b3) = decide (a1 < b1) := by simp [lt3, c1]
    rw [e] at h
    exact kat_no (oneLt_int h)
/-- values that are such tuples, one by one -/
noncomputable def T3s (h : Heap) : List Value → List T3 → Prop
  | [], [] => True
  | v :: vs, t :: ts => IsT3 h v t ∧ T3s h vs ts
  | _, _ => False
theorem T3s.kept {h h' : Heap} (k : ∀ b o, h.get? b = some o → o.cls = .type "tuple" → h'.get? b = some o) : ∀ {vs : List Value} {ts : List T3}, T3s h vs ts → T3s h' vs ts
  | [], [], _ => trivial
  | [], _ :: _, i => i.elim
  | _ :: _, [], i => i.elim
  | v :: vs, t :: ts, i => by
    obtain ⟨⟨a, o, t1, t2, t3, n, e1, e2, e3, e4⟩, r⟩ := i
    exact ⟨⟨a, o, t1, t2, t3, n, e1, k _ _ e2 e3, e3, e4⟩, T3s.kept k r⟩
theorem T3s.get {h : Heap} : ∀ {vs : List Value} {ts : List T3}, T3s h vs ts → ∀ i, i < vs.length → IsT3 h (vs.getD i .none) (ts.getD i (0, 0, 0))
  | [], [], _, i, hi => absurd hi (Nat.not_lt_zero _)
  | [], _ :: _, z, _, _ => z.elim
  | _ :: _, [], z, _, _ => z.elim
  | v :: vs, t :: ts, z, 0, _ => z.1
  | v :: vs, t :: ts, z, i + 1, hi => T3s.get z.2 i (Nat.lt_of_succ_lt_succ hi)
theorem T3s.firsts {h : Heap} : ∀ {vs : List Value} {ts : List T3}, T3s h vs ts → ∃ fs, KatTups h vs fs ∧ fs.length = vs.length ∧ ∀ v ∈ fs, ∃ i t, v = Value.int i t
  | [], [], _ => ⟨[], trivial, rfl, fun _ hv => nomatch hv⟩
  | [], _ :: _, z => z.elim
  | _ :: _, [], z => z.elim
  | v :: vs, t :: ts, z => by
    obtain ⟨fs, f1, f2, f3⟩ := T3s.firsts z.2
    obtain ⟨a, o, t1, t2, t3, n, rfl, e2, e3, e4⟩ := z.1
    refine ⟨.int t.1 t1 :: fs, KatTups.cons e2 e3 e4 rfl f1, by rw [List.length_cons, List.length_cons, f2], fun x hx => ?_⟩
    rcases List.mem_cons.mp hx with rfl | hx
    · exact ⟨_, _, rfl⟩
    · exact f3 x hx
noncomputable abbrev ltI (ts : List T3) : Nat → Nat → Bool := fun i j => lt3 (ts.getD i (0, 0, 0)) (ts.getD j (0, 0, 0))
noncomputable abbrev outV (vs : List Value) (p : Array Nat) : List Value := p.toList.map fun i => vs.getD i Value.none
theorem outV_range (vs : List Value) : outV vs (List.toArray (List.range vs.length)) = vs := by
  apply List.ext_getElem
  · simp
  · intro i h1 h2
    simp [List.getD_eq_getElem?_getD, List.getElem?_eq_getElem h2]
theorem no_lt {vs : Array Value} {n : Nat} {C : Prop} (h : (seqObj "list" vs n).cls = Value.type "tuple") : C := by
  have h' : Value.type "list" = Value.type "tuple" := h
  injection h' with e
  exact absurd e (by decide)
theorem lsort_t3 {a : Addr} {vs : List Value} {ts : List T3} {n : Nat} {P : PySem.Fin → Shared → Prop} (ho : s.heap.get? a = some (seqObj "list" vs.toArray n)) (ht : T3s s.heap vs ts) (h64 : vs.length < 64)
    (h : ∀ (p : Array Nat) (h' : Heap) (c : Nat), p.Perm (List.toArray (List.range vs.length)) → Ms.Up (ltI ts) p vs.length → (∀ b o, b ≠ a → s.heap.get? b = some o → h'.get? b = some o) →
      h'.get? a = some (seqObj "list" (outV vs p).toArray c) → P (.done (.ret .none)) { s with heap := h' }) :
    wpAny (model prog w) A (Builtin.«list.sort» ⟨[.ref a], []⟩) P E s := by
  have hz : vs.length ≤ sizeLine := by rw [sizeLine_eq]; omega
  have ha : a < s.heap.objs.size := Heap.lt_size ho
  obtain ⟨e1, ho1⟩ : ∃ e1, (s.heap.update a (Obj.mapSeq fun _ => (#[] : Array Value))).get? a = some (seqObj "list" #[] e1) := ⟨_, get?_update_seq ho fun _ => #[]⟩
  have kp : ∀ b o, b ≠ a → s.heap.get? b = some o → (((s.heap.update a (Obj.mapSeq fun _ => (#[] : Array Value))).push (seqObj "tuple" vs.toArray 0)).push (seqObj "list" #[] 0)).get? b = some o := fun b o hb e =>
    Heap.get?_push_of_some _ (Heap.get?_push_of_some _ (by rw [Heap.get?_update_ne _ _ _ _ hb]; exact e))
  have ht3 := T3s.kept (h' := ((s.heap.update a (Obj.mapSeq fun _ => (#[] : Array Value))).push (seqObj "tuple" vs.toArray 0)).push (seqObj "list" #[] 0)) (fun b o e ec => kp b o (by intro z; subst z; rw [ho] at e; cases e; exact no_lt ec) e) ht
  have hoN := Heap.get?_push_of_some (seqObj "list" #[] 0) (Heap.get?_push_of_some (seqObj "tuple" vs.toArray 0) ho1)
  generalize hN : ((s.heap.update a (Obj.mapSeq fun _ => (#[] : Array Value))).push (seqObj "tuple" vs.toArray 0)).push (seqObj "list" #[] 0) = hp3 at kp ht3 hoN
  have fin : ∀ (p : Array Nat), p.Perm (List.toArray (List.range vs.length)) → Ms.Up (ltI ts) p vs.length → P (.done (.ret .none)) { s with heap := hp3.update a (Obj.mapSeq fun _ => (outV vs p).toArray) } := fun p hp hu => by
    refine h p _ _ hp hu (fun b o hb e => by rw [Heap.get?_update_ne _ _ _ _ hb]; exact kp b o hb e) (get?_update_seq hoN fun _ => (outV vs p).toArray)
  have szO : ∀ p : Array Nat, p.Perm (List.toArray (List.range vs.length)) → (outV vs p).toArray.size ≤ sizeLine + 1 := fun p hp => by
    have := hp.size_eq
    simp at this
    simp
    omega
  rw [list_sort_plain]
  refine wpAny_bind (listItems_at ho rfl (wpAny_bind (listUpdate_at ho rfl ?_ (by simpa using hz) (Nat.zero_le _))))
  refine wpAny_bind (seqEpoch_at ho1 rfl (wpAny_bind (wpAny_newTuple ?_ (by simpa using hz))))
  refine wpAny_bind (wpAny_newList (wpAny_holding ?_) (Nat.zero_le _))
  show wpAny (model prog w) A _ P E { s with heap := ((s.heap.update a (Obj.mapSeq fun _ => (#[] : Array Value))).push (seqObj "tuple" vs.toArray 0)).push (seqObj "list" #[] 0) }
  rw [hN]
  dsimp only
  by_cases c : vs.toArray.size < 2
  · rw [if_pos c, if_pos c]
    refine wpAny_bind (wpAny_pure ?_)
    rw [StateT.run_pure]
    refine wpAny_bind (wpAny_pure ?_)
    have id1 : (arrOf (SortSt.mk' general' (vs.toArray.zip vs.toArray) #[] 7 none)).map (·.2) = (outV vs (List.toArray (List.range vs.length))).toArray := by
      rw [outV_range]
      show (vs.toArray.zip vs.toArray).map (·.2) = vs.toArray
      apply Array.toList_inj.mp
      simp [List.map_snd_zip]
    dsimp only
    rw [id1]
    have pr := Array.Perm.refl (List.toArray (List.range vs.length))
    refine wpAny_bind (seqEpoch_at hoN rfl (wpAny_bind (listUpdate_at hoN rfl ?_ (Nat.zero_le _) (szO _ pr))))
    simp only [bne_self_eq_false, Bool.false_eq_true, if_false]
    refine wpAny_pure (fin _ pr ?_)
    intro x y hxy hy
    have : x = y := by simp at c; omega
    subst this
    exact Ms.le_rf (lt3_ord ts) _
  · rw [if_neg c, if_neg c]
    have c2 : 2 ≤ vs.length := by simp at c; omega
    obtain ⟨fs, f1, f2, f3⟩ := ht3.firsts
    refine wpAny_bind (kat_kind f1 (by omega) (T := .type "int") (fun v hv => ?_) (by decide) ?_)
    · obtain ⟨i, t, rfl⟩ := f3 v hv
      exact Looks.of_pure rfl
    show wpAny _ _ _ _ _ _
    rw [show (Value.type "int" != Value.type "tuple") = true by decide]
    have srt := Ms.sort_ok (lt3_ord ts) (n := vs.length) (by omega)
    refine wpAny_bind (wpAny_mono (kat_run (ks := vs) (Q := fun st' s' => s' = { s with heap := hp3 } ∧ ∃ p : Array Nat, arrOf st' = p.map (kas_item (vs.toArray.zip vs.toArray)) ∧ failedOf st' = none ∧ p = Ms.run (ltI ts) (kas_sort vs.length)) (G := fun p s' => s' = { s with heap := hp3 } ∧ p = Ms.run (ltI ts) (kas_sort vs.length)) rfl c2 h64
      (fun p st' s' _ b2 b3 b4 => ⟨b4.1, p, b2, b3, b4.2⟩) ?_) ?_ fun _ _ z => z)
    · refine Ms.Bd.wp (N := vs.length) (lt := ltI ts) (fun i j C hi hj hc => ?_) _ (Ms.bd_sort (by omega)) ⟨rfl, rfl⟩
      exact t3_lt (ht3.get i hi) (ht3.get j hj) hc
    · rintro ⟨⟨⟩, st'⟩ s' ⟨rfl, p, hp1, hp2, rfl⟩
      dsimp only
      rw [kat_snds rfl hp1]
      refine wpAny_bind (seqEpoch_at hoN rfl (wpAny_bind (listUpdate_at hoN rfl ?_ (Nat.zero_le _) (szO _ srt.1))))
      rw [hp2]
      simp only [bne_self_eq_false, Bool.false_eq_true, if_false]
      exact wpAny_pure (fin _ srt.1 srt.2)
end
end Pv

namespace Pv
open PySem PySem.Spec PySem.W PyProof.Rows L2
section
variable {prog : Program} {w : World} {A : Around} {E : Value → Shared → Prop} {s : Shared}
/-- sorted(l): a new list, two behind the last object -/
theorem sorted_t3 {l : Addr} {vs : List Value} {ts : List T3} {Q : Value → Shared → Prop} (hl : s.heap.IsList l vs.toArray) (ht : T3s s.heap vs ts) (h64 : vs.length < 64)
    (h : ∀ (p : Array Nat) (h' : Heap) (c : Nat), p.Perm (List.toArray (List.range vs.length)) → Ms.Up (ltI ts) p vs.length → (∀ b o, s.heap.get? b = some o → h'.get? b = some o) →
      h'.get? (s.heap.objs.size + 1) = some (seqObj "list" (outV vs p).toArray c) → Q (.ref (s.heap.objs.size + 1)) { s with heap := h' }) :
    wpAny (model prog w) A (call (.builtin "sorted") [.ref l]) Q E s := by
  have hz : vs.length ≤ sizeLine := by rw [sizeLine_eq]; omega
  refine Calls.call_function_entry kind_sorted plain_sorted entry_sorted (args_sorted1 _) ?_
  unfold Builtin.«sorted»
  refine wpAny_bind (m := checkCount "sorted" 1 1 _) (wpAny_pure (wpAny_bind (collect_list hl ?_ hz)))
  refine wpAny_bind (wpAny_newList ?_ hz)
  have z1 : ((s.heap.push (seqObj "list" #[] 0)).update s.heap.objs.size (Obj.mapSeq (· ++ vs.toArray))).objs.size = s.heap.objs.size + 1 := by
    rw [Heap.size_update, size_push']
  have kp : ∀ b o, s.heap.get? b = some o → (((s.heap.push (seqObj "list" #[] 0)).update s.heap.objs.size (Obj.mapSeq (· ++ vs.toArray))).push (seqObj "list" vs.toArray 0)).get? b = some o := fun b o q => by
    have hb : b < s.heap.objs.size := Heap.lt_size q
    exact Heap.get?_push_of_some _ (by rw [Heap.get?_update_ne _ _ _ _ (Nat.ne_of_lt hb)]; exact Heap.get?_push_of_some _ q)
  have zo : (((s.heap.push (seqObj "list" #[] 0)).update s.heap.objs.size (Obj.mapSeq (· ++ vs.toArray))).push (seqObj "list" vs.toArray 0)).get? (s.heap.objs.size + 1) = some (seqObj "list" vs.toArray 0) := by
    have q := Heap.get?_push_size ((s.heap.push (seqObj "list" #[] 0)).update s.heap.objs.size (Obj.mapSeq (· ++ vs.toArray))) (o := seqObj "list" vs.toArray 0) rfl
    rw [z1] at q
    exact q
  show wpAny _ _ _ _ _ { s with heap := ((s.heap.push (seqObj "list" #[] 0)).update s.heap.objs.size (Obj.mapSeq (· ++ vs.toArray))).push (seqObj "list" vs.toArray 0) }
  rw [z1]
  have tt := T3s.kept (fun b o e _ => kp b o e) ht
  generalize ((s.heap.push (seqObj "list" #[] 0)).update s.heap.objs.size (Obj.mapSeq (· ++ vs.toArray))).push (seqObj "list" vs.toArray 0) = hp at kp zo tt
  refine wpAny_bind (wpAny_holding (wpAny_call_entry slot_list_sort ⟨_, zo, rfl⟩ entry_list_sort (lsort_t3 (s := { s with heap := hp }) zo tt h64 fun p h' c a1 a2 a3 a4 => ⟨_, rfl, ?_⟩) (args_list_sort _)))
  refine wpAny_pure ⟨_, rfl, h p h' c a1 a2 (fun b o q => a3 b o (Nat.ne_of_lt (Nat.lt_succ_of_lt (Heap.lt_size q))) (kp b o q)) a4⟩
end
/-! the layer's values -/
noncomputable def V3s (K : Fg) (H : Hp) : List V → List T3 → Prop
  | [], [] => True
  | v :: vs, t :: ts => (∃ a, v = .ref a ∧ SqT K H a [.int t.1, .int t.2.1, .int t.2.2]) ∧ V3s K H vs ts
  | _, _ => False
section
variable {X : Cx}
theorem v3s_heap {pins : List (Addr × Obj)} {σ : L2.St} {H : Hp} {s : Shared} (I : Inv X pins σ H s) : ∀ {vs : List V} {ts : List T3} {us : List Value}, V3s X.K H vs ts → Vals vs us → T3s s.heap us ts
  | [], [], _, _, .nil => trivial
  | [], _ :: _, _, z, _ => z.elim
  | _ :: _, [], _, z, _ => z.elim
  | v :: vs, t :: ts, _, z, .cons r rs => by
    obtain ⟨⟨a, rfl, hq⟩, z⟩ := z
    refine ⟨?_, v3s_heap I z rs⟩
    cases r
    obtain ⟨its, rv, ⟨o, p1, p2, n, p3⟩, _⟩ := I.tuple hq
    cases rv with
    | cons r1 rv =>
      cases rv with
      | cons r2 rv =>
        cases rv with
        | cons r3 rv =>
          cases rv
          obtain ⟨t1, rfl⟩ := r1
          obtain ⟨t2, rfl⟩ := r2
          obtain ⟨t3, rfl⟩ := r3
          exact ⟨a, o, t1, t2, t3, n, rfl, p1, p2, p3⟩
theorem vals_getD {vs : List V} {us : List Value} (r : Vals vs us) : ∀ (l : List Nat), (∀ i ∈ l, i < vs.length) → Vals (l.map fun i => vs.getD i .non) (l.map fun i => us.getD i Value.none)
  | [], _ => .nil
  | i :: l, h => by
    refine .cons ?_ (vals_getD r l fun j hj => h j (List.mem_cons_of_mem _ hj))
    have hi := h i (List.mem_cons_self ..)
    obtain ⟨u, e, z⟩ := Vals.get r (i := i) (x := vs.getD i .non) (by rw [List.getD_eq_getElem?_getD, List.getElem?_eq_getElem hi]; rfl)
    dsimp only
    rw [show us.getD i Value.none = u by rw [List.getD_eq_getElem?_getD, e]; rfl]
    exact z
/-- sorted, of the layer -/
noncomputable def rSort (K : Fg) : List V → Hp → VK → Prop := fun xs H Q => ∃ p vs ts, xs = [.ref p] ∧ SqL K H p vs ∧ V3s K H vs ts ∧ vs.length < 64 ∧
  ∀ q : Array Nat, q.Perm (List.toArray (List.range vs.length)) → Ms.Up (ltI ts) q vs.length → ∀ r, H r = none → Q (.ref r) (upd H r (.lst (q.toList.map fun i => vs.getD i .non)))
theorem call_sort : CallR X (.builtin "sorted") (rSort X.K) := by
  intro pins s σ H xs us Q I r h
  obtain ⟨p, vs, ts, rfl, hq, h3, h64, k⟩ := h
  cases r with
  | cons r rr =>
    cases rr
    cases r
    obtain ⟨its, rv, pl, hz⟩ := I.list hq
    have hl := rv.length
    refine sorted_t3 pl.isList (v3s_heap I h3 rv) (by omega) fun q h' c a1 a2 a3 a4 => ?_
    have a1' : q.Perm (List.toArray (List.range vs.length)) := by rw [hl]; exact a1
    have lt' : ∀ i ∈ q.toList, i < vs.length := fun i hi => by
      have e : i ∈ List.toArray (List.range vs.length) := a1'.mem_iff.mp (by simpa using hi)
      simpa using e
    have sz : q.toList.length = vs.length := by have := a1'.size_eq; simpa using this
    have nw : s.heap.objs.size ≤ s.heap.objs.size + 1 := Nat.le_succ _
    refine ⟨.ref _, _, I.laid (t' := s.toks) a3 nw (show ObjOk X.prog X.w _ h' _ (.lst (q.toList.map fun i => vs.getD i .non)) from ⟨by rw [List.length_map, sz]; exact hz, _, c, vals_getD rv _ lt', a4⟩), rfl, k q a1' (by rw [hl]; exact a2) _ (I.hok.fresh nw)⟩
end
/-! .. and of this layer -/
noncomputable def encT (t : T3) : D := .tup [.int t.1, .int t.2.1, .int t.2.2]
noncomputable def t3? : D → Option T3
  | .tup [.int a, .int b, .int c] => some (a, b, c)
  | _ => none
noncomputable def t3s? : List D → Option (List T3)
  | [] => some []
  | d :: r => match t3? d with
    | some t => match t3s? r with
      | some ts => some (t :: ts)
      | none => none
    | none => none
theorem t3s_enc : ∀ ts : List T3, t3s? (ts.map encT) = some ts
  | [] => rfl
  | t :: ts => by simp only [List.map_cons, t3s?, encT, t3?, t3s_enc ts]
theorem t3_of {d : D} {t : T3} (h : t3? d = some t) : d = encT t := by
  unfold t3? at h
  split at h
  · cases h; rfl
  · cases h
theorem t3s_of : ∀ {l : List D} {ts : List T3}, t3s? l = some ts → l = ts.map encT
  | [], ts, h => by cases h; rfl
  | d :: r, ts, h => by
    unfold t3s? at h
    split at h
    · next t e =>
      split at h
      · next us e2 => cases h; rw [t3_of e, t3s_of e2]; rfl
      · cases h
    · cases h
theorem v3s_of {K : Fg} {H : Hp} : ∀ {ts : List T3} {vs : List V}, RelDs K H (ts.map encT) vs → V3s K H vs ts
  | [], _, .nil => trivial
  | t :: ts, _, .cons r rs => by
    refine ⟨?_, v3s_of rs⟩
    cases r with
    | tup hq r2 =>
      cases r2 with
      | cons x r2 =>
        cases r2 with
        | cons y r2 =>
          cases r2 with
          | cons z r2 =>
            cases r2
            cases x
            cases y
            cases z
            exact ⟨_, rfl, hq⟩
theorem relDs_getD {K : Fg} {H : Hp} {ts : List T3} {vs : List V} (r : RelDs K H (ts.map encT) vs) : ∀ (l : List Nat), (∀ i ∈ l, i < vs.length) → RelDs K H ((l.map fun i => ts.getD i (0, 0, 0)).map encT) (l.map fun i => vs.getD i .non)
  | [], _ => .nil
  | i :: l, h => by
    refine .cons ?_ (relDs_getD r l fun j hj => h j (List.mem_cons_of_mem _ hj))
    have hi := h i (List.mem_cons_self ..)
    have hl := r.length
    rw [List.length_map] at hl
    obtain ⟨v, e, z⟩ := r.get (i := i) (d := encT (ts.getD i (0, 0, 0))) (by rw [List.getElem?_map, List.getD_eq_getElem?_getD, List.getElem?_eq_getElem (by omega)]; rfl)
    dsimp only
    rw [show vs.getD i .non = v by rw [List.getD_eq_getElem?_getD, e]; rfl]
    exact z
noncomputable def le3 (a b : T3) : Prop := lt3 b a = false
theorem sort_perm {ts : List T3} {q : Array Nat} (h : q.Perm (List.toArray (List.range ts.length))) : (q.toList.map fun i => ts.getD i (0, 0, 0)).Perm ts := by
  have h1 : q.toList.Perm (List.range ts.length) := h.toList
  refine (h1.map _).trans (List.Perm.of_eq ?_)
  apply List.ext_getElem
  · simp
  · intro i h1 h2
    simp [List.getD_eq_getElem?_getD, List.getElem?_eq_getElem h2]
theorem sort_up {ts : List T3} {q : Array Nat} (h : q.Perm (List.toArray (List.range ts.length))) (u : Ms.Up (ltI ts) q ts.length) : (q.toList.map fun i => ts.getD i (0, 0, 0)).Pairwise le3 := by
  have sz : q.size = ts.length := by have := h.size_eq; simpa using this
  rw [List.pairwise_iff_getElem]
  intro i j hi hj hij
  simp only [List.length_map, Array.length_toList] at hi hj
  have z := u i j (Nat.le_of_lt hij) (by omega)
  simp only [List.getElem_map, Array.getElem_toList]
  have e1 : Ms.at' q i = q[i] := by show q.getD i 0 = _; simp [Array.getD, hi]
  have e2 : Ms.at' q j = q[j] := by show q.getD j 0 = _; simp [Array.getD, hj]
  rw [e1, e2] at z
  exact z
noncomputable def srtR : C3 := fun ds μ Q => match ds with
  | [.ref p] => match μ p with
    | some (.lst l) => match t3s? l with
      | some ts => ts.length < 64 ∧ ∀ us : List T3, us.Perm ts → us.Pairwise le3 → ∀ r, μ r = none → Q (.ref r) (updM μ r (.lst (us.map encT)))
      | none => False
    | _ => False
  | _ => False
section
variable {X : Cx}
theorem q_sorted : RC X (.builtin "sorted") srtR := by
  refine ⟨_, call_sort, fun xs vs H Q μ Q3 m r h k => ?_⟩
  unfold srtR at h
  split at h
  · next p =>
    split at h
    · next l e =>
      split at h
      · next ts e2 =>
        cases r with
        | cons r1 r2 =>
          cases r2
          cases r1
          have el := t3s_of e2
          subst el
          obtain ⟨us, hv, rv⟩ := m p _ e
          have hl := rv.length
          rw [List.length_map] at hl
          refine ⟨p, us, ts, rfl, SqL.of hv, v3s_of rv, by omega, fun q a1 a2 r hr => ?_⟩
          rw [← hl] at a1 a2
          have lt' : ∀ i ∈ q.toList, i < us.length := fun i hi => by
            have e : i ∈ List.toArray (List.range ts.length) := a1.mem_iff.mp (by simpa using hi)
            have e' : i < ts.length := by simpa using e
            omega
          exact k _ _ _ _ (h.2 _ (sort_perm a1) (sort_up a1 a2) r (m.free hr)) (Kp.new hr) (.ref r) (m.newL hr (relDs_getD rv _ lt'))
      · exact h.elim
    · exact h.elim
  · exact h.elim
end
end Pv

/-! a dict walked by its keys, whatever they are -/
namespace Pv
open PySem PySem.Spec PySem.W PyProof.Rows L2
/-- a dict with these entries -/
noncomputable def DG (h : Heap) (d : Addr) (es : Array DictEntry) (ep : Nat) : Prop := ∃ o, h.get? d = some o ∧ o.ExactDict ∧ o.data = .dict es ep
theorem DG.keep {h h' : Heap} {d : Addr} {es : Array DictEntry} {ep : Nat} (x : DG h d es ep) (k : ∀ o, h.get? d = some o → h'.get? d = some o) : DG h' d es ep := by
  obtain ⟨o, a, b⟩ := x
  exact ⟨o, k o a, b⟩
theorem DG.ty {s : Shared} {d : Addr} {es : Array DictEntry} {ep : Nat} (x : DG s.heap d es ep) : s.TypeIs (.ref d) "dict" := by
  obtain ⟨o, a, b, _⟩ := x
  exact ⟨o, a, b.1⟩
section
variable {prog : Program} {w : World} {A : Around} {E : Value → Shared → Prop} {s : Shared} {d it : Addr} {es : Array DictEntry} {ep i : Nat}
end
end Pv

namespace Pv
open PySem PySem.Spec PySem.W PyProof.Rows L2
section
variable {prog : Program} {w : World} {A : Around} {E : Value → Shared → Prop} {s : Shared} {d : Addr} {es : Array DictEntry} {ep : Nat}
end
section
variable {X : Cx}
theorem V3s.len {K : Fg} {H : Hp} : ∀ {vs : List V} {ts : List T3}, V3s K H vs ts → vs.length = ts.length
  | [], [], _ => rfl
  | [], _ :: _, z => z.elim
  | _ :: _, [], z => z.elim
  | _ :: vs, _ :: ts, z => by rw [List.length_cons, List.length_cons, V3s.len z.2]
theorem RelKs.keys {K : Fg} {H : Hp} {l : List (T3 × D)} {vs : List (List Key × V)} (r : RelKs K H l vs) : vs.map (·.1) = (l.map (·.1)).map kT ∧ l.length = vs.length := by
  induction r with
  | nil => exact ⟨rfl, rfl⟩
  | cons _ _ ih => exact ⟨by rw [List.map_cons, ih.1]; rfl, by rw [List.length_cons, List.length_cons, ih.2]⟩
end
end Pv

namespace Pv
open PySem PySem.Spec PySem.W PyProof.Rows L2
open PySem.AutoSeq1 (wpAny_loadPart')
section
variable {X : Cx} {pos pos' : Pos}
end
end Pv

namespace Pv
open PySem PySem.Spec PyProof.Rows L2
open PySem.AutoSeq1 (wpAny_loadPart')
/-! ### max of two pairs of ints -/
theorem gt_pair (p q : Addr) (a b c d : Int) (t1 t2 t3 t4 : Tok) (n m : Nat) (dd dd2 : Option Addr) (sl sl2 : Array (Option Value)) :
    Meets (Builtin.«tuple.__gt__» ⟨[.ref p, .ref q], []⟩) (fun A R s => s.heap.get? p = some { cls := .type "tuple", dict := dd, data := .seq #[.int a t1, .int b t2] n, slots := sl } ∧ s.heap.get? q = some { cls := .type "tuple", dict := dd2, data := .seq #[.int c t3, .int d t4] m, slots := sl2 } ∧
      R (.ok (.ret (.bool (ltP c d a b)))) s) :=
  .of_wp fun prog w A R s h => by
    obtain ⟨hp, g, dr, tk, os⟩ := s; obtain ⟨hl, hb, h⟩ := h
    have f2 := AutoSeq1.sub_tuple_tuple
    have gt : ∀ (x y : Int) (tx ty : Tok) {Q : Value → Shared → Prop} {E : Value → Shared → Prop} {A : Around} {s : Shared}, Q (.bool (decide (y < x))) s → wpAny (model prog w) A (richCompare .Gt (.int x tx) (.int y ty)) Q E s := fun x y tx ty Q E A s hq => gt_int hq
    have eqb : ∀ (x y : Int) (tx ty : Tok) {Q : Bool → Shared → Prop} {E : Value → Shared → Prop} {A : Around} {s : Shared}, Q (x == y) s → wpAny (model prog w) A (eqBool (.int x tx) (.int y ty)) Q E s := fun x y tx ty Q E A s hq => wpAny_eqBool_int hq
    wp_walk using wpAny_loadPart' hl, wpAny_loadPart' hb, eqb a c t1 t3
    by_cases h1 : a = c
    · rw [show (a == c) = true by simpa using h1]
      wp_walk using eqb b d t2 t4
      by_cases h2 : b = d
      · rw [show (b == d) = true by simpa using h2]
        wp_walk
        have h' : R (.ok (.ret (.bool false))) ⟨hp, g, dr, tk, os⟩ := by simpa [ltP, h1, h2] using h
        exact ⟨_, rfl, h'⟩
      · rw [show (b == d) = false by simpa using h2]
        wp_walk using gt b d t2 t4
        exact ⟨_, rfl, by simpa [ltP, h1] using h⟩
    · rw [show (a == c) = false by simpa using h1]
      wp_walk using gt a c t1 t3
      exact ⟨_, rfl, by simpa [ltP, Ne.symm h1] using h⟩
section
variable {prog : Program} {w : World} {A : Around} {R : Result → Shared → Prop} {I : Addr} {fp wr : List Addr} {n : Nat} {P : Nat → Value → Prop} {St : Nat → Heap → Prop}
theorem xname : (toString "max" ++ toString ".loop" : String) = "max.loop" := by decide
theorem xl_end (W : Walks prog w A.in1 I fp wr n P St) (S : Addr) (hSf : S ∉ fp) (s : Shared) (vb : Value) (c : Nat) (hst : St n s.heap)
    (hS : s.heap.get? S = some { cls := .type "list", dict := none, data := .seq #[vb, vb] c, slots := #[] })
    (hR : ∀ h' tk, (∀ b o, b ∉ wr → b ≠ S → s.heap.get? b = some o → h'.get? b = some o) → R (.ok (.ret vb)) { s with heap := h', toks := tk }) :
    codeAny (model prog w) A (.builtin "max.loop" ⟨[.ref I, .none, .ref S], []⟩) R s := by
  have hSw : S ∉ wr := fun h => hSf (W.sub _ h)
  refine codeAny_builtin F.entry_max_loop ?_
  rw [Around.under_plainId F.plain_max_loop _]
  show wpAny _ A.in1 (seqItems? (.ref S) >>= _) _ _ s
  refine wpAny_bind (wpAny_seqItems hS rfl ?_)
  show wpAny _ A.in1 (tryCatch (pyNext (.ref I)) _ >>= _) _ _ s
  refine wpAny_bind (wpAny_tryCatch (W.done s _ _ hst fun h' tk hk' => ?_))
  have hS' := hk' S _ hSw hS
  show wpAny _ A.in1 (updateSeq S (fun _ => #[]) >>= _) _ _ _
  refine wpAny_bind ?_
  refine wpAny_updateSeq hS' rfl (wpAny_bind (wpAny_letGo (wpAny_pure ?_)))
  exact hR _ tk fun b o hbw hbS e => (Heap.get?_update_other _ _ (Ne.symm hbS)).trans (hk' b o hbw e)
theorem xl_turn (W : Walks prog w A.in1 I fp wr n P St) (S : Addr) (hSf : S ∉ fp) (s : Shared) (vb v0 : Value) (r : Bool) (c j : Nat) (hlt : j < n) (hj : j + 1 = n) (hst : St j s.heap) (hv : ∀ v, P j v → v = v0)
    (hcmp : ∀ (h' : Heap) (tk : Nat) (Q : Value → Shared → Prop) (E : Value → Shared → Prop), (∀ b o, b ∉ wr → s.heap.get? b = some o → h'.get? b = some o) → Q (.bool r) { s with heap := h', toks := tk } → wpAny (model prog w) A.in1 (richCompare .Gt v0 vb) Q E { s with heap := h', toks := tk })
    (hS : s.heap.get? S = some { cls := .type "list", dict := none, data := .seq #[vb, vb] c, slots := #[] })
    (hR : ∀ h' tk, (∀ b o, b ∉ wr → b ≠ S → s.heap.get? b = some o → h'.get? b = some o) → R (.ok (.ret (if r then v0 else vb))) { s with heap := h', toks := tk }) :
    codeAny (model prog w) A (.builtin "max.loop" ⟨[.ref I, .none, .ref S], []⟩) R s := by
  have hSw : S ∉ wr := fun h => hSf (W.sub _ h)
  refine codeAny_builtin F.entry_max_loop ?_
  rw [Around.under_plainId F.plain_max_loop _]
  show wpAny _ A.in1 (seqItems? (.ref S) >>= _) _ _ s
  refine wpAny_bind (wpAny_seqItems hS rfl ?_)
  show wpAny _ A.in1 (tryCatch (pyNext (.ref I)) _ >>= _) _ _ s
  refine wpAny_bind (wpAny_tryCatch (W.item j s _ _ hlt hst fun v h' tk hP hst' hk' => ?_))
  obtain rfl := hv v hP
  have hS' := hk' S _ hSw hS
  show wpAny _ A.in1 (tryCatch (holding [v, v] (richCompare .Gt v vb >>= _)) _ >>= _) _ _ _
  refine wpAny_bind (wpAny_tryCatch (wpAny_holding (wpAny_bind (hcmp h' tk _ _ hk' ?_))))
  refine wpAny_bind (wpAny_holding (wpAny_truthy_bool ?_))
  refine wpAny_bind (wpAny_letGo (wpAny_pure ?_))
  cases r with
  | true =>
    simp only [if_true]
    refine wpAny_bind ?_
    refine wpAny_updateSeq hS' rfl (wpAny_bind (wpAny_letGo ?_))
    rw [xname]
    refine wpAny_pure ⟨plainId_quiet F.plain_max_loop _, xl_end W S hSf _ v _ (hj ▸ W.frame _ _ _ hst' fun b hbf o e => ?_) (Heap.get?_update_self _ hS' rfl) fun h'' tk'' hk'' => ?_⟩
    · exact (Heap.get?_update_other _ _ (fun h : S = b => hSf (by rw [h]; exact hbf))).trans e
    · exact hR h'' tk'' fun b o hbw hbS e => hk'' b o hbw hbS ((Heap.get?_update_other _ _ (Ne.symm hbS)).trans (hk' b o hbw e))
  | false =>
    simp only [Bool.false_eq_true, if_false]
    refine wpAny_bind (wpAny_letGo ?_)
    rw [xname]
    refine wpAny_pure ⟨plainId_quiet F.plain_max_loop _, xl_end W S hSf _ vb c (hj ▸ hst') hS' fun h'' tk'' hk'' => ?_⟩
    exact hR h'' tk'' fun b o hbw hbS e => hk'' b o hbw hbS (hk' b o hbw e)
theorem xl_two (W : Walks prog w A.in1 I fp wr 2 P St) (S : Addr) (hSf : S ∉ fp) (s : Shared) (va vb : Value) (r : Bool) (c : Nat) (hst : St 0 s.heap) (hva : ∀ v, P 0 v → v = va) (hvb : ∀ v, P 1 v → v = vb)
    (hcmp : ∀ (h' : Heap) (tk : Nat) (Q : Value → Shared → Prop) (E : Value → Shared → Prop), (∀ b o, b ∉ wr → b ≠ S → s.heap.get? b = some o → h'.get? b = some o) → Q (.bool r) { s with heap := h', toks := tk } → wpAny (model prog w) A.in1 (richCompare .Gt vb va) Q E { s with heap := h', toks := tk })
    (hS : s.heap.get? S = some { cls := .type "list", dict := none, data := .seq #[] c, slots := #[] })
    (hR : ∀ h' tk, (∀ b o, b ∉ wr → b ≠ S → s.heap.get? b = some o → h'.get? b = some o) → R (.ok (.ret (if r then vb else va))) { s with heap := h', toks := tk }) :
    codeAny (model prog w) A (.builtin "max.loop" ⟨[.ref I, .none, .ref S], []⟩) R s := by
  have hSw : S ∉ wr := fun h => hSf (W.sub _ h)
  refine codeAny_builtin F.entry_max_loop ?_
  rw [Around.under_plainId F.plain_max_loop _]
  show wpAny _ A.in1 (seqItems? (.ref S) >>= _) _ _ s
  refine wpAny_bind (wpAny_seqItems hS rfl ?_)
  show wpAny _ A.in1 (tryCatch (pyNext (.ref I)) _ >>= _) _ _ s
  refine wpAny_bind (wpAny_tryCatch (W.item 0 s _ _ (by decide) hst fun v h' tk hP hst' hk' => ?_))
  obtain rfl := hva v hP
  have hS' := hk' S _ hSw hS
  show wpAny _ A.in1 (updateSeq S (fun _ => #[v, v]) >>= _) _ _ _
  refine wpAny_bind ?_
  refine wpAny_updateSeq hS' rfl ?_
  rw [xname]
  have up : ∀ (f : Obj → Obj) b o, b ∉ wr → b ≠ S → s.heap.get? b = some o → Heap.get? (h'.update S f) b = some o := fun f b o hbw hbS e => (Heap.get?_update_other _ _ (Ne.symm hbS)).trans (hk' b o hbw e)
  refine wpAny_pure ⟨plainId_quiet F.plain_max_loop _, xl_turn W S hSf _ v vb r _ 1 (by decide) rfl (W.frame _ _ _ hst' fun b hbf o e => ?_) hvb (fun h2 tk2 Q E hk2 hq => ?_) (Heap.get?_update_self _ hS' rfl) fun h'' tk'' hk'' => ?_⟩
  · exact (Heap.get?_update_other _ _ (fun h : S = b => hSf (by rw [h]; exact hbf))).trans e
  · exact hcmp h2 tk2 Q E (fun b o hbw hbS e => hk2 b o hbw (up _ b o hbw hbS e)) hq
  · exact hR h'' tk'' fun b o hbw hbS e => hk'' b o hbw hbS (up _ b o hbw hbS e)
end
section
variable {prog : Program} {w : World} {A : Around} {E : Value → Shared → Prop} {s : Shared}
theorem max_two_of {va vb : Value} {r : Bool} {Q : Value → Shared → Prop} (hh : A.handled = none)
    (hcmp : ∀ (h' : Heap) (tk : Nat) (Q : Value → Shared → Prop) (E : Value → Shared → Prop), (∀ b o, s.heap.get? b = some o → h'.get? b = some o) → Q (.bool r) { s with heap := h', toks := tk } → wpAny (model prog w) A.in1 (richCompare .Gt vb va) Q E { s with heap := h', toks := tk })
    (h : ∀ h' tk, (∀ c o, s.heap.get? c = some o → h'.get? c = some o) → Q (if r then vb else va) { s with heap := h', toks := tk }) :
    wpAny (model prog w) A (call (.builtin "max") [va, vb]) Q E s := by
  refine call_function_tree F.kind_max F.plain_max F.entry_max (F.args_max2 _ _) ?_
  show wpAny _ A.in1 (Builtin.Builtins.bindParams "max" ["key", "default"] 0 ⟨[], []⟩ >>= _) _ _ s
  refine wpAny_bind (wpAny_of_eq (show Builtin.Builtins.bindParams "max" ["key", "default"] 0 ⟨[], []⟩ = pure [none, none] from rfl) ?_)
  show wpAny _ A.in1 (newTuple [va, vb] >>= _) _ _ s
  refine wpAny_bind (wpAny_newObj_type ?_)
  have hT : (s.heap.push { cls := .type "tuple", data := .seq #[va, vb] }).IsTuple s.heap.objs.size #[va, vb] := ⟨_, Heap.get?_push_size _ rfl, rfl, 0, rfl⟩
  refine wpAny_bind (wpAny_pyIter_tuple (s := { s with heap := s.heap.push { cls := .type "tuple", data := .seq #[va, vb] } }) hT ?_)
  have hsz : (s.heap.push { cls := .type "tuple", data := .seq #[va, vb] }).objs.size = s.heap.objs.size + 1 := Heap.size_push ..
  refine wpAny_bind (wpAny_newObj_type ?_)
  rw [xname]
  have hsz2 : ((s.heap.push { cls := .type "tuple", data := .seq #[va, vb] }).push { cls := .type "tuple_iterator", data := .fields #[.ref s.heap.objs.size, .int 0 0] }).objs.size = s.heap.objs.size + 2 := by rw [Heap.size_push, hsz]
  have keep : ∀ c o, s.heap.get? c = some o → Heap.get? (((s.heap.push { cls := .type "tuple", data := .seq #[va, vb] }).push { cls := .type "tuple_iterator", data := .fields #[.ref s.heap.objs.size, .int 0 0] }).push { cls := .type "list", data := .seq #[] }) c = some o := fun c o e => Heap.get?_push_of_some _ (Heap.get?_push_of_some _ (Heap.get?_push_of_some _ e))
  have off : ∀ (c : Addr) (o : Obj), s.heap.get? c = some o → c ∉ [(s.heap.push { cls := .type "tuple", data := .seq #[va, vb] }).objs.size] ∧ c ≠ ((s.heap.push { cls := .type "tuple", data := .seq #[va, vb] }).push { cls := .type "tuple_iterator", data := .fields #[.ref s.heap.objs.size, .int 0 0] }).objs.size := fun c o e => by
    have h1 := Heap.lt_size e
    rw [hsz2, hsz]
    refine ⟨fun hm => ?_, Nat.ne_of_lt (Nat.lt_succ_of_lt (Nat.lt_succ_of_lt h1))⟩
    rw [List.mem_singleton.mp hm] at h1
    exact absurd h1 (Nat.not_lt.mpr (Nat.le_succ _))
  refine wpAny_pure ⟨plainId_quiet F.plain_max_loop _, xl_two (Walks.tuple (A := A.in1) hh _ s.heap.objs.size (by rw [hsz]; exact Nat.ne_of_lt (Nat.lt_succ_self _)) #[va, vb]) _ ?_ _ va vb r _ ?_ (fun v hP => by simpa using hP.symm) (fun v hP => by simpa using hP.symm) ?_ (Heap.get?_push_size _ rfl) ?_⟩
  · rw [hsz2, hsz]
    simp
  · exact ⟨⟨_, Heap.get?_push_of_some _ (Heap.get?_push_size _ rfl), rfl, rfl⟩, (hT.push _).push _⟩
  · intro h' tk Q E hk hq
    exact hcmp h' tk Q E (fun c o e => hk c o (off c o e).1 (off c o e).2 (keep c o e)) hq
  · intro h' tk hk
    exact h h' tk fun c o e => hk c o (off c o e).1 (off c o e).2 (keep c o e)
theorem max_pair {p q : Addr} {a b c d : Int} {t1 t2 t3 t4 : Tok} {Q : Value → Shared → Prop} (hh : A.handled = none) (hu : A.units + 64 < cLine) (hp : IsTup s.heap p #[.int a t1, .int b t2]) (hq : IsTup s.heap q #[.int c t3, .int d t4])
    (h : ∀ h' tk, (∀ c o, s.heap.get? c = some o → h'.get? c = some o) → Q (if ltP a b c d then .ref q else .ref p) { s with heap := h', toks := tk }) :
    wpAny (model prog w) A (call (.builtin "max") [.ref p, .ref q]) Q E s := by
  refine max_two_of hh (fun h' tk Q E hk hq' => ?_) h
  obtain ⟨⟨cp, dp, datp, slp⟩, ep, hcp, np, hdp⟩ := hp
  obtain ⟨⟨cq, dq, datq, slq⟩, eq, hcq, nq, hdq⟩ := hq
  dsimp only at hcp hdp hcq hdq
  subst hcp hdp hcq hdq
  refine richCompare_meets_room (T := "tuple") (s := { s with heap := h', toks := tk }) ⟨_, hk _ _ eq, rfl⟩ ⟨_, hk _ _ ep, rfl⟩ F.slot_tuple_gt F.entry_tuple_gt (F.args_tuple_gt_2 _ _) (gt_pair q p c d a b t3 t4 t1 t2 nq np dq dp slq slp) ⟨hk _ _ eq, hk _ _ ep, by simp, hq'⟩ ?_
  have : A.in1.units = A.units + 1 := rfl
  omega
end
end Pv

namespace Pv
open PySem PySem.Spec PyProof.Rows L2
section
variable {X : Cx}
noncomputable def maxPR : C3 := fun ds μ Q => match ds with
  | [.tup [.int a, .int b], .tup [.int c, .int d]] => Q (if ltP a b c d then .tup [.int c, .int d] else .tup [.int a, .int b]) μ
  | _ => False
theorem call_maxP (hc : X.calm = true) (hu : X.A.units + 64 < cLine) : CallR X (.builtin "max") (fun xs H Q => ∃ p q a b c d, xs = [.ref p, .ref q] ∧ SqT X.K H p [.int a, .int b] ∧ SqT X.K H q [.int c, .int d] ∧ Q (.ref (if ltP a b c d then q else p)) H) := by
  intro pins s σ H xs us Q I r h
  obtain ⟨p, q, a, b, c, d, rfl, hp, hq, k⟩ := h
  obtain ⟨u, w', rfl, e1, e2⟩ := vals2 r
  cases e1
  cases e2
  obtain ⟨its, rv, pp, hz⟩ := I.tuple hp
  obtain ⟨its2, rv2, pp2, hz2⟩ := I.tuple hq
  obtain ⟨v1, v2, rfl, ⟨t1, rfl⟩, ⟨t2, rfl⟩⟩ := vals2 rv
  obtain ⟨v3, v4, rfl, ⟨t3, rfl⟩, ⟨t4, rfl⟩⟩ := vals2 rv2
  refine max_pair (I.ok.hd hc) hu pp pp2 fun h' tk kk => ⟨_, H, I.kept kk, ?_, k⟩
  cases ltP a b c d
  · exact rfl
  · exact rfl
theorem q_maxP (hc : X.calm = true) (hu : X.A.units + 64 < cLine) : RC X (.builtin "max") maxPR := by
  refine ⟨_, call_maxP hc hu, fun xs vs H Q μ Q3 m r h k => ?_⟩
  unfold maxPR at h
  split at h
  · next a b c d =>
    cases r with
    | cons r1 r2 =>
      cases r2 with
      | cons r2 r3 =>
        cases r3
        cases r1 with
        | tup hq rs =>
          cases r2 with
          | tup hq2 rs2 =>
            cases rs with
            | cons x1 y1 =>
              cases y1 with
              | cons x2 y2 =>
                cases y2
                cases rs2 with
                | cons x3 y3 =>
                  cases y3 with
                  | cons x4 y4 =>
                    cases y4
                    cases x1; cases x2; cases x3; cases x4
                    rename_i p q
                    refine ⟨p, q, a, b, c, d, rfl, hq, hq2, k _ _ _ _ h (Kp.refl _) ?_ m⟩
                    cases ltP a b c d
                    · exact .tup hq (.cons (.int _) (.cons (.int _) .nil))
                    · exact .tup hq2 (.cons (.int _) (.cons (.int _) .nil))
  · exact h.elim
end
end Pv

/-! l.clear(), l.pop(i), list(e) -/
namespace Pv
open PySem PySem.Spec PySem.W PyProof.Rows L2
noncomputable def listR : C3 := fun ds μ Q => match ds with
  | [.tup l] => ∀ r, μ r = none → Q (.ref r) (updM μ r (.lst l))
  | [.ref p] => match μ p with
    | some (.lst l) => ∀ r, μ r = none → Q (.ref r) (updM μ r (.lst l))
    | _ => False
  | _ => False
section
variable {X : Cx} {o e : Expr} {es : List Expr} {to : TE3} {t : TA3} {apos cpos : Pos}
theorem q_list : RC X (.type "list") listR := by
  refine ⟨_, call_list_of, fun xs vs H Q μ Q3 m r h k => ?_⟩
  cases r with
  | nil => exact h.elim
  | cons r1 r2 =>
    cases r2 with
    | cons _ _ => cases r1 <;> exact h.elim
    | nil =>
      cases r1 with
      | tup hq rs => exact ⟨_, _, rfl, .inr hq, fun r hr => k _ _ _ _ (h r (m.free hr)) (Kp.new hr) (.ref r) (m.newL hr rs)⟩
      | ref p =>
        dsimp only [listR] at h
        cases e0 : μ p with
        | none => rw [e0] at h; exact h.elim
        | some oo =>
          cases oo with
          | ins _ _ => rw [e0] at h; exact h.elim
          | dct _ => rw [e0] at h; exact h.elim
          | lst l =>
            rw [e0] at h
            dsimp only at h
            obtain ⟨us, hv, rs⟩ := m p l e0
            exact ⟨_, _, rfl, .inl (SqL.of hv), fun r hr => k _ _ _ _ (h r (m.free hr)) (Kp.new hr) (.ref r) (m.newL hr rs)⟩
      | _ => exact h.elim
end
end Pv

/-! x = [.. for ..], x a plain name: stored ahead of the block's end -/
namespace Pv
open PySem PySem.Spec PyProof.Rows L2
section
variable {X : Cx} {NN : List Str} {scope : Scope} {cl : List (Str × Addr)} {js : List (Option Nat)}
theorem comp_go {elt target iter : Expr} {ifs : List Expr} {pos : Pos} {wi : TI} {g : TG} {tc : TT} {te : TE} (hc : X.calm = true) (S : CompSc X NN scope cl js) (hi : PI X target iter wi)
    (hg : ∀ C fp s₀ H₀ pn, PG (compCx X NN scope cl C fp s₀ H₀ pn) target g) (ht : ∀ C fp s₀ H₀ pn, PTs (compCx X NN scope cl C fp s₀ H₀ pn) ifs tc) (he : ∀ C fp s₀ H₀ pn, PE (compCx X NN scope cl C fp s₀ H₀ pn) elt te)
    (hs : ∀ x, foldedSetIterable iter X.env x = pure x) {use : Option (Value → Sem Unit)} {Q' : Value → Shared → Prop} {pins : List (Addr × Obj)} {s : Shared} {σ : L2.St} {H : Hp} {Q : VK} (I : Inv X pins σ H s) (h : tComp js wi g tc te σ H Q)
    (hu : ∀ (p0 C : Addr) (H' : Hp) (s' : Shared) (m' : Str → Option Value), Inv X pins σ H' s' → s'.heap.Ns C m' → H' C = none → C ≠ X.env.locals → X.s₀.heap.objs.size ≤ C → (∀ x c, X.env.cells.lookup x = some c → c ≠ C) → (∀ p ∈ X.pn ++ pins, p.1 ≠ C) → Q (.ref p0) H' →
      compPost (model X.prog X.w) X.A X.xe use Q' (.ref p0) C (.ok .next) s') :
    wpAny (model X.prog X.w) X.A (comprehension (.ListComp elt [⟨target, iter, ifs, 0⟩] scope pos) scope X.env (firstIterPos [⟨target, iter, ifs, 0⟩] pos) (newList []) (firstAsync [⟨target, iter, ifs, 0⟩]) (firstIter [⟨target, iter, ifs, 0⟩] X.env) use) Q' X.xe s := by
  refine wpAny_comprehension_free (use := use) rfl hs S.clos S.kind S.names (thn (hi pins s σ H _ I h) fun xv s1 h1 => thn h1 fun itv s2 h2 => ?_)
  obtain ⟨it, fp, tn, J, H2, rfl, I2, T, st2, f2, hW⟩ := h2
  refine wpAny_newObj_type (wpAny_newFunctionEnv S.cell (by intro y hy; simp at hy) (fun h₁ hns₁ hsb₁ => ?_) S.kind)
  dsimp only at hns₁ hsb₁ ⊢
  have hD : H2 s2.heap.objs.size = none := I2.hok.fresh (Nat.le_refl _)
  have I3 : Inv X pins σ (upd H2 s2.heap.objs.size (.lst [])) { s2 with heap := s2.heap.push { cls := .type "list", dict := none, data := .seq ([] : List Value).toArray } } :=
    I2.lnew (t' := s2.toks) (its := []) .nil (by rw [sizeLine_eq]; decide)
  generalize hsD : ({ s2 with heap := s2.heap.push { cls := .type "list", dict := none, data := .seq ([] : List Value).toArray } } : Shared) = sD at I3
  have eh : sD.heap = s2.heap.push { cls := .type "list", dict := none, data := .seq ([] : List Value).toArray } := by rw [← hsD]
  have es : ∀ (h : Heap) (tk : Nat), ({ s2 with heap := h, toks := tk } : Shared) = { sD with heap := h, toks := tk } := fun h tk => by rw [← hsD]
  have hsz : s2.heap.objs.size < sD.heap.objs.size := by rw [eh, Heap.size_push]; exact Nat.lt_succ_self _
  rw [← eh] at hns₁ hsb₁ ⊢
  generalize hp0 : s2.heap.objs.size = p0 at *
  have up : ∀ b u, s2.heap.get? b = some u → sD.heap.get? b = some u := fun b u e => by rw [eh]; exact Heap.get?_push_of_some _ e
  have k : ∀ b u, sD.heap.get? b = some u → h₁.get? b = some u := fun b u e => hsb₁.extBut b u (Nat.ne_of_lt (Heap.lt_size e)) (Heap.get?_push_of_some _ e)
  have f3 : ∀ b ∈ fp, FpOk X pins (upd H2 p0 (.lst [])) b ∧ b < sD.heap.objs.size := fun b hb => by
    obtain ⟨o, ho, _⟩ := T.obj 0 _ st2 b hb
    have hlt : b < p0 := by rw [← hp0]; exact Heap.lt_size ho
    refine ⟨⟨?_, (f2 b hb).2⟩, Nat.lt_trans hlt hsz⟩
    rw [upd_ne (Nat.ne_of_lt hlt)]; exact (f2 b hb).1
  obtain ⟨W, ⟨m0, w0⟩, turn⟩ := hW p0 hD
  have I4 := comp_inv0 (tk := s2.toks + ([] : List (Str × Value)).length) hc S I3 f3 hns₁ k
  have st4 : tn 0 h₁ := T.keep 0 _ _ st2 fun b _ o e => k b o (up b o e)
  rw [es]
  generalize hX' : compCx X NN scope cl sD.heap.objs.size fp sD (upd H2 p0 (.lst [])) (X.pn ++ pins) = X' at I4
  have a1 : X'.env = compEnvC scope cl sD.heap.objs.size X.env := by rw [← hX']
  have a2 : X'.prog = X.prog := by rw [← hX']
  have a3 : X'.w = X.w := by rw [← hX']
  have a4 : X'.A = X.A := by rw [← hX']
  have a5 : X'.K = X.K := by rw [← hX']
  have a6 : X'.calm = true := by rw [← hX']; exact hc
  have a7 : X'.xe = fun _ _ => False := by rw [← hX']
  have a8 : X'.ex = fp := by rw [← hX']
  have T' : Turn X'.prog X'.w X'.K target J fp it tn := by rw [a2, a3, a5]; exact T
  have hg' : PG X' target g := by rw [← hX']; exact hg _ _ _ _ _
  have ht' : PTs X' ifs tc := by rw [← hX']; exact ht _ _ _ _ _
  have he' : PE X' elt te := by rw [← hX']; exact he _ _ _ _ _
  have fin : ∀ {σ' : L2.St} {H' : Hp} {s' : Shared}, Inv X' [] σ' H' s' → Q (.ref p0) H' → compPost (model X.prog X.w) X.A X.xe use Q' (.ref p0) sD.heap.objs.size (.ok .next) s' := fun {σ' H' s'} I' q => by
    obtain ⟨m', hn', _⟩ := I'.loc
    rw [a1] at hn'
    have u : Un (frs X.stack) fp (upd H2 p0 (.lst [])) H' sD.heap s'.heap := by
      have := I'.base
      rw [← hX'] at this
      exact this
    have hch : ∀ b ∈ fp, (b ∈ X.ex ∨ X.s₀.heap.objs.size ≤ b) ∧ b ≠ X.env.locals ∧ (∀ x c, X.env.cells.lookup x = some c → c ≠ b) ∧ ∀ p ∈ X.pn ++ pins, p.1 ≠ b := fun b hb => by
      obtain ⟨_, z1, _, z3, z4, z5⟩ := (f3 b hb).1
      exact ⟨z3, z1, z4, z5⟩
    have os' : s'.os = sD.os := by
      have := I'.os
      rw [← hX'] at this
      exact this
    have hok' : HOk X.prog X.w H' s'.heap := by
      have := I'.hok
      rw [← hX'] at this
      exact this
    have I5 : Inv X pins σ H' s' := I3.call' os' u hok' I'.bare hch
    have hC : H' sD.heap.objs.size = none := by
      have := I'.free
      rw [a1] at this
      exact this
    refine hu p0 _ H' s' m' I5 hn' hC (Nat.ne_of_gt I3.lt) I3.sz (fun x c e => ?_) (fun p hp => ?_) q
    · obtain ⟨v, o, ho, _⟩ := I3.cell x c e
      exact Nat.ne_of_lt (Heap.lt_size ho)
    · exact Nat.ne_of_lt (Heap.lt_size (I3.pin p hp).1)
  have fp4 : ∀ {H' : Hp}, (∀ b ∈ fp, H' b = none) → ∀ b ∈ fp, FpOk X' [] H' b := fun hn b hb => by
    obtain ⟨_, z1, z2, z3, z4, z5⟩ := (f3 b hb).1
    rw [← hX']
    refine ⟨hn b hb, Nat.ne_of_lt (f3 b hb).2, fun z => ?_, .inl hb, fun x c e => z4 x c (S.sub x c e), fun p hp => z5 p (by simpa using hp)⟩
    rcases List.mem_cons.mp (I3.stkSub _ z) with z | z
    · exact z1 z
    · exact z2 z
  have loop : ∀ s₃ : Shared, Inv X' [] (initV js σ) (upd H2 p0 (.lst [])) s₃ → tn 0 s₃.heap →
      codeAny (model X.prog X.w) X.A (.compLoop (.ListComp elt [⟨target, iter, ifs, 0⟩] scope pos) 0 (.ref it) (.ref p0) (compEnvC scope cl sD.heap.objs.size X.env)) (compPost (model X.prog X.w) X.A X.xe use Q' (.ref p0) sD.heap.objs.size) s₃ := by
    intro s₃ I₃ st₃
    refine codeAny_loop rfl (fun n s' => ∃ i σ' H', Inv X' [] σ' H' s' ∧ tn i s'.heap ∧ (∀ b ∈ fp, H' b = none) ∧ W i n σ' H') (fun n s' hI => ?_) m0 ⟨0, initV js σ, _, I₃, st₃, fun b hb => (f3 b hb).1.1, w0⟩
    obtain ⟨i, σ3, H3, J3, st3, fr3, w3⟩ := hI
    have tr := turn i n σ3 H3 w3
    show wpAny _ X.A ((compTurn (.ListComp elt [⟨target, iter, ifs, 0⟩] scope pos) 0 (.ref it) (.ref p0) (compEnvC scope cl sD.heap.objs.size X.env)).onRaise (fun x => do noteFrame x (compEnvC scope cl sD.heap.objs.size X.env); theTreesLotGoes x)) _ _ s'
    refine wpAny_noted ?_
    rw [compTurn_list, ← a1, ← a2, ← a3, ← a4]
    have nof : ∀ {α : Type} {t : Sem α} {Q' : α → Shared → Prop} {s'' : Shared} {E : Value → Shared → Prop}, wpAny (model X'.prog X'.w) X'.A t Q' X'.xe s'' → wpAny (model X'.prog X'.w) X'.A t Q' E s'' := fun h => wpAny_mono h (fun _ _ q => q) fun _ _ z => by rw [a7] at z; exact z.elim
    rcases tr with ⟨stop, qn⟩ | ⟨go, step⟩
    · refine wpAny_bind (wpAny_standAt (wpAny_bind (nof (thn (T'.done X' rfl rfl rfl a6 i [] s' σ3 H3 X'.xe J3 (fp4 fr3) st3 stop) fun r s4 ⟨hr, J4⟩ => ?_))))
      subst hr
      refine wpAny_pure ?_
      show compPost (model X'.prog X'.w) X'.A X.xe use Q' (.ref p0) sD.heap.objs.size (.ok .next) s4
      rw [a2, a3, a4]
      exact fin J4 qn
    · refine wpAny_bind (wpAny_standAt (wpAny_bind (nof (thn (T'.item X' rfl rfl rfl a6 i [] s' σ3 H3 X'.xe J3 (fp4 fr3) st3 go) fun r s4 ⟨u, hr, h4⟩ => ?_))))
      subst hr
      refine wpAny_bind (nof (thn h4 fun _ s5 ⟨x, H5, I5, r5, y5, st5, fr5⟩ => ?_))
      have I5' := I5.pinned (fp4 fr5) (T.obj _ _ st5)
      refine wpAny_bind (nof (thn (hg' _ s5 σ3 H5 x u _ I5' r5 (step x H5 y5)) fun _ s6 ⟨σ6, H6, I6, q6⟩ => ?_))
      refine wpAny_bind (nof (thn (ht' _ s6 σ6 H6 _ I6 q6) fun ok s7 ⟨H7, I7, q7⟩ => ?_))
      have again : ∀ {s8 : Shared} {σ8 : L2.St} {H8 : Hp}, Inv X' ([] ++ pinsAt fp s5.heap) σ8 H8 s8 → (∃ m', m' < n ∧ W (i + 1) m' σ8 H8) → ∃ m, m < n ∧ ∃ i σ' H', Inv X' [] σ' H' s8 ∧ tn i s8.heap ∧ (∀ b ∈ fp, H' b = none) ∧ W i m σ' H' := fun {s8 σ8 H8} I8 ⟨m', hm, w8⟩ => by
        refine ⟨m', hm, i + 1, σ8, H8, I8.unpinned, T.keep _ _ _ st5 fun b hb o e => (I8.pin (b, o) (List.mem_append_right _ (List.mem_append_right _ (mem_pinsAt hb e)))).1, fun b hb => ?_, w8⟩
        obtain ⟨o, e, d⟩ := T.obj _ _ st5 b hb
        exact (I8.pin (b, o) (List.mem_append_right _ (List.mem_append_right _ (mem_pinsAt hb e)))).2.1
      cases ok with
      | false => exact wpAny_pure ⟨rfl, again I7 q7⟩
      | true =>
        refine wpAny_bind (wpAny_bind (nof (thn (he' _ s7 σ6 H7 _ I7 q7) fun xv s8 ⟨y, H8, I8, r8, ys, q8, hlen, q9⟩ => wpAny_bind (nof ?_))))
        refine thn (mt_append (X := X') _ s8 σ6 H8 (.ref p0) [y] (.ref p0) [xv] (fun v H9 => v = .non ∧ H9 = upd H8 p0 (.lst (ys ++ [y]))) I8 rfl (.cons r8 .nil) ⟨p0, ys, y, rfl, rfl, q8, hlen, rfl, rfl⟩) fun rv s9 ⟨v9, H9, I9, _, _, e9⟩ => ?_
        subst e9
        exact wpAny_pure (wpAny_pure ⟨rfl, again I9 q9⟩)
  exact codeAny_compStart_list (loop _ I4 st4) (T.self X.A 0 _ _ _ st4 (loop _ I4 st4))
theorem ps_setC {i : Nat} {x : Str} {px apos : Pos} {elt target iter : Expr} {ifs : List Expr} {pos : Pos} {wi : TI} {g : TG} {tc : TT} {te : TE} (hN : X.N.Nodup) (hi' : X.N[i]? = some x) (hl : X.env.scope.names.lookup x = some .local) (hc : X.calm = true) (S : CompSc X NN scope cl js) (hi : PI X target iter wi)
    (hg : ∀ C fp s₀ H₀ pn, PG (compCx X NN scope cl C fp s₀ H₀ pn) target g) (ht : ∀ C fp s₀ H₀ pn, PTs (compCx X NN scope cl C fp s₀ H₀ pn) ifs tc) (he : ∀ C fp s₀ H₀ pn, PE (compCx X NN scope cl C fp s₀ H₀ pn) elt te)
    (hs : ∀ x, foldedSetIterable iter X.env x = pure x) (hw : swapsWith (.ListComp elt [⟨target, iter, ifs, 0⟩] scope pos) (some (.Name x px)) apos.line X.env = pure true) :
    PS X (.Assign [.Name x px] (.ListComp elt [⟨target, iter, ifs, 0⟩] scope pos) apos) (tAsg (tComp js wi g tc te) (gName i)) := by
  intro pins s σ H D I h
  rw [exec_Assign_Name_used _ _ _ _ hw]
  refine wpAny_bind (wpAny_standAt (wpAny_bind ?_))
  show wpAny _ _ (comprehension (.ListComp elt [⟨target, iter, ifs, 0⟩] scope pos) scope X.env (firstIterPos [⟨target, iter, ifs, 0⟩] pos) (newList []) (firstAsync [⟨target, iter, ifs, 0⟩]) (firstIter [⟨target, iter, ifs, 0⟩] X.env) (some (assign (.Name x px) X.env)) >>= fun _ => pure ()) _ _ s
  refine wpAny_bind (wpAny_mono (comp_go (use := some (assign (.Name x px) X.env)) (Q' := fun _ s' => SP X pins D .next s') hc S hi hg ht he hs I h fun p0 C H' s' m' I5 hn hC n1 n2 n3 n4 q => ?_) (fun _ s' hq => wpAny_pure (wpAny_pure hq)) fun _ _ e => e)
  show wpAny _ _ (assign (.Name x px) X.env (.ref p0)) _ _ s'
  refine wpAny_assign_Name (store_ok2 I5 hN hi' (.inl hl) (v := .ref p0) rfl (fun s2 I6 ⟨b, sb, hb⟩ => ?_) (.inr hl))
  have nb : C ≠ b := by
    rcases hb with hb | hb
    · rw [hb]; exact n1
    · exact Ne.symm (n3 x b hb)
  exact ⟨m', hn.sameBut sb nb, fun h' sb' => ⟨_, H', I6.turned (t' := s2.toks) (fun b o hb e => sb'.extBut b o hb e) hC n1 (.inr n2) n3 n4, q⟩⟩
end
section
variable {X : Cx} {elt target iter : Expr} {ifs : List Expr} {pos : Pos} {ti : TI3} {g : TG3} {tc : TT3} {te : TE3} {NN : List Str} {scope : Scope} {cl : List (Str × Addr)} {js : List (Option Nat)}
theorem rs_setCG {i : Nat} {x : Str} {px apos : Pos} (hN : X.N.Nodup) (hc : X.calm = true) (S : CompSc X NN scope cl js) (hi : RI X target iter ti) (hg : ∀ C fp s₀ H₀ pn, RG (compCx X NN scope cl C fp s₀ H₀ pn) target g)
    (ht : ∀ C fp s₀ H₀ pn, RTs (compCx X NN scope cl C fp s₀ H₀ pn) ifs tc) (he : ∀ C fp s₀ H₀ pn, RE (compCx X NN scope cl C fp s₀ H₀ pn) elt te)
    (hs : ∀ x, foldedSetIterable iter X.env x = pure x) (hi' : X.N[i]? = some x := by rfl) (hl : X.env.scope.names.lookup x = some .local := by rfl)
    (hw : swapsWith (.ListComp elt [⟨target, iter, ifs, 0⟩] scope pos) (some (.Name x px)) apos.line X.env = pure true := by rfl) : RS X (.Assign [.Name x px] (.ListComp elt [⟨target, iter, ifs, 0⟩] scope pos) apos) (set3 i (comp3 js ti g tc te)) := by
  obtain ⟨wi, pi, ri⟩ := hi
  -- one reading for all blocks: the union of theirs
  let gU : TG := fun v σ H Q => ∀ (r : TG3), r = g → ∃ d ρ μ Q3, RSt X.K H ρ σ ∧ RelM X.K μ H ∧ RelD X.K H d v ∧ g d ρ μ Q3 ∧ (∀ ρ' μ' σ' H', Q3 ρ' μ' → Kp H H' → RSt X.K H' ρ' σ' → RelM X.K μ' H' → Q σ' H')
  let tU : TT := fun σ H Q => ∃ ρ μ Q3, RSt X.K H ρ σ ∧ RelM X.K μ H ∧ tc ρ μ Q3 ∧ (∀ b μ' H', Q3 b μ' → Kp H H' → RelM X.K μ' H' → Q b H')
  let eU : TE := fun σ H Q => ∃ ρ μ Q3, RSt X.K H ρ σ ∧ RelM X.K μ H ∧ te ρ μ Q3 ∧ Ks X.K H Q3 Q
  have hg' : ∀ C fp s₀ H₀ pn, PG (compCx X NN scope cl C fp s₀ H₀ pn) target gU := fun C fp s₀ H₀ pn => by
    obtain ⟨tv, p, r⟩ := hg C fp s₀ H₀ pn
    intro pins s σ H v u Q I rv h
    obtain ⟨d, ρ, μ, Q3, a1, a2, a3, a4, a5⟩ := h g rfl
    exact p pins s σ H v u Q I rv (r v d σ H Q ρ μ Q3 a1 a2 a3 a4 a5)
  have ht' : ∀ C fp s₀ H₀ pn, PTs (compCx X NN scope cl C fp s₀ H₀ pn) ifs tU := fun C fp s₀ H₀ pn => by
    obtain ⟨tv, p, r⟩ := ht C fp s₀ H₀ pn
    intro pins s σ H Q I h
    obtain ⟨ρ, μ, Q3, a1, a2, a3, a4⟩ := h
    exact p pins s σ H Q I (r σ H Q ρ μ Q3 a1 a2 a3 a4)
  have he' : ∀ C fp s₀ H₀ pn, PE (compCx X NN scope cl C fp s₀ H₀ pn) elt eU := fun C fp s₀ H₀ pn => by
    obtain ⟨tv, p, r⟩ := he C fp s₀ H₀ pn
    intro pins s σ H Q I h
    obtain ⟨ρ, μ, Q3, a1, a2, a3, a4⟩ := h
    exact p pins s σ H Q I (r σ H Q ρ μ Q3 a1 a2 a3 a4)
  have rd : RdE X.K (tComp js wi gU tU eU) (comp3 js ti g tc te) := RdE.comp ri (fun v d σ H Q ρ μ Q3 a1 a2 a3 a4 a5 _ _ => ⟨d, ρ, μ, Q3, a1, a2, a3, a4, a5⟩) (fun σ H Q ρ μ Q3 a1 a2 a3 a4 => ⟨ρ, μ, Q3, a1, a2, a3, a4⟩) (fun σ H Q ρ μ Q3 a1 a2 a3 a4 => ⟨ρ, μ, Q3, a1, a2, a3, a4⟩)
  exact ⟨_, ps_setC hN hi' hl hc S pi hg' ht' he' hs hw, fun σ H D ρ μ D3 s m h k => rd σ H _ ρ μ _ s m h fun d μ1 v H1 h1 k1 r1 m1 => k.nx _ _ _ _ h1 k1 ((s.mono k1).set i r1) m1⟩
theorem rs_setC0 {i : Nat} {x : Str} {px apos : Pos} (hN : X.N.Nodup) (hf : ∀ y ∈ scope.names, y.2 ≠ .free) (hcl : ∀ y ∈ scope.names, y.2 ≠ .cell) (hn : ∀ y ∈ scope.names, y.2 = .local → scope.names.lookup y.1 = some .local) (hi : RI X target iter ti) (hg : ∀ C fp s₀ H₀ pn, RG (compCx X NN scope [] C fp s₀ H₀ pn) target g)
    (ht : ∀ C fp s₀ H₀ pn, RTs (compCx X NN scope [] C fp s₀ H₀ pn) ifs tc) (he : ∀ C fp s₀ H₀ pn, RE (compCx X NN scope [] C fp s₀ H₀ pn) elt te) (hc : X.calm = true := by rfl) (hk : scope.kind = .function := by rfl)
    (hs : ∀ x, foldedSetIterable iter X.env x = pure x := by intro _; rfl) (hi' : X.N[i]? = some x := by rfl) (hl : X.env.scope.names.lookup x = some .local := by rfl)
    (hw : swapsWith (.ListComp elt [⟨target, iter, ifs, 0⟩] scope pos) (some (.Name x px)) apos.line X.env = pure true := by rfl) : RS X (.Assign [.Name x px] (.ListComp elt [⟨target, iter, ifs, 0⟩] scope pos) apos) (set3 i (comp3 (NN.map fun _ => none) ti g tc te)) :=
  rs_setCG hN hc (CompSc.closed hf hcl hk hn) hi hg ht he hs hi' hl hw
end
end Pv

/-! l.reverse(), l.insert(i, x), l[::-1] -/
namespace Pv
open PySem PySem.Spec PySem.W PyProof.Rows L2
section
variable {X : Cx} {o e : Expr} {es : List Expr} {to : TE3} {t : TA3} {apos cpos pos p2 : Pos}
end
/-! == and != of lists of lists -/
noncomputable def datsM (μ : Mu) : List D → Option (List PyData)
  | [] => some []
  | d :: r => match datM μ d with
    | some p => match datsM μ r with
      | some ps => some (p :: ps)
      | none => none
    | none => none
noncomputable def datN (μ : Mu) : D → Option PyData
  | .ref p => match μ p with
    | some (.lst l) => match datsM μ l with
      | some ps => some (.list ps)
      | none => none
    | _ => none
  | _ => none
noncomputable def eqN (neg : Bool) : R3 := fun x y μ Q => match datN μ x, datN μ y with
  | some p, some q => (p.depth ≤ 64 ∧ q.depth ≤ 64) ∧ Q (.bl (if neg then !PyData.eqv p q else PyData.eqv p q)) μ
  | _, _ => False
section
variable {X : Cx} {pins : List (Addr × Obj)} {σ : L2.St} {H : Hp} {s : Shared}
theorem readsAllM_of (I : Inv X pins σ H s) {μ : Mu} (m : RelM X.K μ H) : ∀ {l : List D} {vs : List V} {ps : List PyData} {us : List Value}, RelDs X.K H l vs → datsM μ l = some ps → Vals vs us → ∃ as, ReadsAll s.heap us ps as
  | _, _, ps, us, .nil, e, r => by simp only [datsM, Option.some.injEq] at e; subst e; cases r; exact ⟨_, ReadsAll.nil⟩
  | _, _, ps, us, .cons h rs, e, r => by
    simp only [datsM] at e
    split at e
    · next p e1 =>
      split at e
      · next qs e2 =>
        simp only [Option.some.injEq] at e; subst e
        cases r with
        | cons r1 r2 =>
          obtain ⟨as, q1⟩ := readsM_of I m h e1 r1
          obtain ⟨bs, q2⟩ := readsAllM_of I m rs e2 r2
          exact ⟨_, ReadsAll.cons q1 q2⟩
      · cases e
    · cases e
theorem readsN_of (I : Inv X pins σ H s) {μ : Mu} (m : RelM X.K μ H) {d : D} {v : V} {p : PyData} {u : Value} (h : RelD X.K H d v) (e : datN μ d = some p) (r : RelV v u) : ∃ as, Reads s.heap u p as := by
  cases h with
  | ref a =>
    simp only [datN] at e
    split at e
    · next l e0 =>
      split at e
      · next ps e1 =>
        simp only [Option.some.injEq] at e; subst e
        cases r
        obtain ⟨vs, hv, rs⟩ := m a l e0
        obtain ⟨its, rv, pl, hz⟩ := I.list (SqL.of hv)
        obtain ⟨o, ho, hc, n, hd⟩ := pl.isList
        obtain ⟨as, q⟩ := readsAllM_of I m rs e1 rv
        exact ⟨_, Reads.list ho hc hd (by simpa using q)⟩
      · cases e
    · cases e
  | _ => simp [datN] at e
theorem canLay_datsM {μ : Mu} : ∀ (l : List D) (ps : List PyData), datsM μ l = some ps → PyData.canLayAll0 ps = true
  | [], ps, e => by simp only [datsM, Option.some.injEq] at e; subst e; rfl
  | d :: r, ps, e => by
    simp only [datsM] at e
    split at e
    · next p e1 =>
      split at e
      · next qs e2 =>
        simp only [Option.some.injEq] at e; subst e
        simp only [PyData.canLayAll0, Bool.and_eq_true]
        exact ⟨canLay_datM e1, canLay_datsM r qs e2⟩
      · cases e
    · cases e
theorem shapedN {μ : Mu} {d : D} {p : PyData} (e : datN μ d = some p) (h : p.depth ≤ 64) : PySem.SeqAt.shaped p = true := by
  unfold PySem.SeqAt.shaped
  have c : p.canLay0 = true := by
    cases d with
    | ref a =>
      simp only [datN] at e
      split at e
      · split at e
        · next ps e1 => simp only [Option.some.injEq] at e; subst e; simp only [PyData.canLay0]; exact canLay_datsM _ ps e1
        · cases e
      · cases e
    | _ => simp [datN] at e
  rw [c, decide_eq_true h]; rfl
noncomputable def rEqN (K : Fg) (neg : Bool) : R2 := fun x y H Q => ∃ d e μ p q, RelM K μ H ∧ RelD K H d x ∧ RelD K H e y ∧ datN μ d = some p ∧ datN μ e = some q ∧ p.depth ≤ 64 ∧ q.depth ≤ 64 ∧ Q (.bl (if neg then !PyData.eqv p q else PyData.eqv p q)) H
theorem op_neN (hu : X.A.units + 64 < cLine) : OpR X (compareOp .NotEq) (rEqN X.K true) := by
  intro pins s σ H x y v u Q I rx ry h
  obtain ⟨d, e, μ, p, q, m, rd, re, e1, e2, h1, h2, k⟩ := h
  obtain ⟨as, q1⟩ := readsN_of I m rd e1 rx
  obtain ⟨bs, q2⟩ := readsN_of I m re e2 ry
  exact ne_dataH q1 q2 (shapedN e1 h1) (shapedN e2 h2) hu ⟨.bl _, H, I, rfl, k⟩
theorem RdO.eqN {K : Fg} {neg : Bool} : RdO K (rEqN K neg) (Pv.eqN neg) := fun x y v u H Q μ Q3 m rx ry h k => by
  unfold Pv.eqN at h
  split at h
  · next p q e1 e2 => exact ⟨x, y, μ, p, q, m, rx, ry, e1, e2, h.1.1, h.1.2, k _ _ _ _ h.2 (Kp.refl _) (.bl _) m⟩
  · exact h.elim
theorem q_neN (hu : X.A.units + 64 < cLine) : RO X (compareOp .NotEq) (eqN true) := ⟨_, op_neN hu, RdO.eqN⟩
end
end Pv

namespace Pv
open PySem PySem.Spec PyProof.Rows L2 PySem.Calls
open PySem.AutoSeq1 (wpAny_loadPart')
noncomputable def ixB (e : Value → Bool) (a b c d : Value) (j : Nat) : Prop := (j = 0 ∧ e a = true) ∨ (j = 1 ∧ e a = false ∧ e b = true) ∨ (j = 2 ∧ e a = false ∧ e b = false ∧ e c = true) ∨ (j = 3 ∧ e a = false ∧ e b = false ∧ e c = false ∧ e d = true)
theorem loop4 {M : Model} {A : Around} {E : Value → Shared → Prop} {s : Shared} {β : Type} {Q : β → Shared → Prop} {L : List Nat} (hL : L = [0, 1, 2, 3]) {f : Nat → β → Sem (ForInStep β)} {b : β} {p : ∃ bs, bs ++ L = L} (h : wpAny M A (forIn [0, 1, 2, 3] b f) Q E s) : wpAny M A (List.forIn'.loop L (fun a _ => f a) L b p) Q E s := by
  subst hL
  exact h
theorem ix4 (t : Addr) (a b c d x : Value) (n j : Nat) (dd : Option Addr) (sl : Array (Option Value)) (e : Value → Bool) (hj : ixB e a b c d j) :
    Meets (Builtin.«tuple.index» ⟨[.ref t, x], []⟩) (fun A R s => s.heap.get? t = some { cls := .type "tuple", dict := dd, data := .seq #[a, b, c, d] n, slots := sl } ∧ (∀ y, y ∈ [a, b, c, d] → PySem.SeqAt.EqAt A.in1 s y x (e y)) ∧ R (.ok (.ret (.int (j : Int) s.toks))) { s with toks := s.toks + 1 }) := by
  intro prog w A R s h
  obtain ⟨hp, g, dr, tk, os⟩ := s; obtain ⟨hl, he, h⟩ := h
  unfold Builtin.«tuple.index»
  simp only [Std.Legacy.Range.forIn_eq_forIn_range']
  wp_walk using wpAny_loadPart' hl
  have ra := he a (by simp) prog w
  have rb : ∀ {Q : Bool → Shared → Prop} {E : Value → Shared → Prop}, Q (e b) ⟨hp, g, dr, tk, os⟩ → wpAny (model prog w) A.in1 (eqBool (#[a, b, c, d][1]) x) Q E ⟨hp, g, dr, tk, os⟩ := fun hq => he b (by simp) prog w _ _ hq
  have rc : ∀ {Q : Bool → Shared → Prop} {E : Value → Shared → Prop}, Q (e c) ⟨hp, g, dr, tk, os⟩ → wpAny (model prog w) A.in1 (eqBool (#[a, b, c, d][2]) x) Q E ⟨hp, g, dr, tk, os⟩ := fun hq => he c (by simp) prog w _ _ hq
  have rd : ∀ {Q : Bool → Shared → Prop} {E : Value → Shared → Prop}, Q (e d) ⟨hp, g, dr, tk, os⟩ → wpAny (model prog w) A.in1 (eqBool (#[a, b, c, d][3]) x) Q E ⟨hp, g, dr, tk, os⟩ := fun hq => he d (by simp) prog w _ _ hq
  refine loop4 (by simp [Std.Legacy.Range.size, List.range']) ?_
  rw [List.forIn_cons]
  refine wpAny_bind ?_
  show wpAny _ _ (eqBool a x >>= _) _ _ _
  refine wpAny_bind (ra _ _ ?_)
  rcases hj with ⟨rfl, h1⟩ | ⟨rfl, h1, h2⟩ | ⟨rfl, h1, h2, h3⟩ | ⟨rfl, h1, h2, h3, h4⟩
  · rw [h1]
    wp_walk
    exact h
  · rw [h1]
    wp_walk using rb
    exact h
  · rw [h1]
    wp_walk using rb, rc
    exact h
  · rw [h1]
    wp_walk using rb, rc, rd
    exact h
/-- t.index(x), t a tuple of four -/
noncomputable def ixD (ps : List PyData) (q : PyData) (j : Nat) : Prop := ∃ a b c d, ps = [a, b, c, d] ∧ ((j = 0 ∧ PyData.eqv a q = true) ∨ (j = 1 ∧ PyData.eqv a q = false ∧ PyData.eqv b q = true) ∨ (j = 2 ∧ PyData.eqv a q = false ∧ PyData.eqv b q = false ∧ PyData.eqv c q = true) ∨ (j = 3 ∧ PyData.eqv a q = false ∧ PyData.eqv b q = false ∧ PyData.eqv c q = false ∧ PyData.eqv d q = true))
noncomputable def tix3 (to : TE3) (t : TA3) : TE3 := fun ρ μ Q => to ρ μ fun x μ1 => t ρ μ1 fun ds μ2 => match x, ds with
  | .tup l, [y] => match dats l, dat y with
    | some ps, some q => ((PyData.tuple ps).depth ≤ 64 ∧ q.depth ≤ 64) ∧ ∃ j, ixD ps q j ∧ Q (.int (j : Int)) μ2
    | _, _ => False
  | _, _ => False
noncomputable def rIx (K : Fg) : V → List V → Hp → VK → Prop := fun x vs H Q => ∃ (l : List D) (y : D) (v : V) (ps : List PyData) (q : PyData) (j : Nat), RelD K H (.tup l) x ∧ vs = [v] ∧ RelD K H y v ∧ dats l = some ps ∧ dat y = some q ∧ (PyData.tuple ps).depth ≤ 64 ∧ q.depth ≤ 64 ∧ ixD ps q j ∧ Q (.int (j : Int)) H
section
variable {X : Cx}
theorem mt_ix (hu : X.A.units + 65 < cLine) : MtM X "tuple.index" (rIx X.K) := by
  intro pins s σ H x vs v us Q I rx rv h
  obtain ⟨l, y, v0, ps, q, j, r1, rfl, r2, e1, e2, d1, d2, ⟨a, b, c, d, rfl, hj⟩, hq⟩ := h
  cases rv with
  | cons ru rc =>
  cases rc
  rename_i u
  cases r1 with
  | tup hq' rs =>
    cases rx
    obtain ⟨its, rv, ⟨o, ho, hc, n, hd⟩, hz⟩ := I.tuple hq'
    obtain ⟨as, ra⟩ := readsAll_of I rs e1 rv
    obtain ⟨bs, rq⟩ := reads_of I r2 e2 ru
    have c1 := canLay_dats l _ e1
    have c2 := canLay_dat y q e2
    have hm : X.A.units + 1 + min (PyData.depthAll [a, b, c, d]) q.depth < cLine := by
      have : min (PyData.depthAll [a, b, c, d]) q.depth ≤ q.depth := Nat.min_le_right _ _
      omega
    have eq := PySem.SeqAt.items_eqAt (vs := its.toArray) (by simpa using ra) rq c1 c2 hm
    obtain ⟨oc, od, oda, osl⟩ := o
    dsimp only at hc hd
    subst hc hd
    cases ra with
    | cons q1 ra =>
    cases ra with
    | cons q2 ra =>
    cases ra with
    | cons q3 ra =>
    cases ra with
    | cons q4 ra =>
    cases ra
    simp only [PyData.canLayAll0, Bool.and_eq_true] at c1
    have f1 := PySem.SeqAt.readOf_eq c1.1 q1
    have f2 := PySem.SeqAt.readOf_eq c1.2.1 q2
    have f3 := PySem.SeqAt.readOf_eq c1.2.2.1 q3
    have f4 := PySem.SeqAt.readOf_eq c1.2.2.2.1 q4
    refine call_meets F.slot_tuple_index ⟨_, ho, rfl⟩ F.entry_tuple_index (F.args_tuple_index_2 _ _) (ix4 _ _ _ _ _ _ n j od osl (fun y => PyData.eqv (PySem.SeqAt.readOf s.heap y) q) ?_) ⟨ho, fun y hy => eq y (by simpa using hy), ?_⟩
    · unfold ixB
      dsimp only
      rw [f1, f2, f3, f4]
      exact hj
    · exact ⟨.int j, H, I.kept (t' := s.toks + 1) fun b ob q => q, ⟨_, rfl⟩, hq⟩
variable {o e : Expr} {es : List Expr} {to : TE3} {t : TA3} {apos cpos : Pos}
noncomputable def GdT (K : Fg) (mg : Str → Option Value) (x : Str) (l : List D) : Prop := ∃ a o, mg x = some (.ref a) ∧ K.lookup a = some o ∧ o.cls = .type "tuple" ∧ o.dict = none ∧ ∀ H, RelD K H (.tup l) (.ref a)
theorem re_index {x : Str} {l : List D} {p0 : Pos} (hu : X.A.units + 65 < cLine) (g : GdT X.K X.mg x l) (ha : RA X (e :: es) t) (hg : Gl X x := by rfl) (hdb : (x == ("__debug__" : Str)) = false := by decide) (hbase : attributeBase (.Name x p0) "index" X.env (eval (.Name x p0) X.env) = eval (.Name x p0) X.env := by rfl)
    (hfew : ((backTo cpos (starEach (e :: es) X.env)).all (fun x => !x.1) && (backToKw cpos (keywordEach [] X.env)).all (fun x => x.1.isSome)
      && decide ((e :: es).length + ([] : List Keyword).length + (if ([] : List Keyword).isEmpty then 0 else 1) < 30)) = true := by rfl)
    (hline : (apos.endLine == cpos.line) = true := by rfl) (hs : starEach (e :: es) X.env = (false, eval e X.env) :: starEach es X.env := by rfl) (hplain : (backTo cpos (starEach es X.env)).any (·.1) = false := by rfl) :
    RE X (.Call (.Attribute (.Name x p0) "index" apos) (e :: es) [] cpos) (tix3 (c3 (.tup l)) t) := by
  obtain ⟨a, o, hm, hk, hc, hdn, rd⟩ := g
  obtain ⟨vb, pb, rb⟩ := ha
  refine ⟨_, pe_bm PySem.F.plainAttrs_tuple PySem.F.slot_tuple_index PySem.F.type_tuple_index (mt_ix hu) (pe_glob hg hm (show RelV (.ref a) (.ref a) from rfl) hdb) pb hbase hfew hline hs hplain, fun σ H Q ρ μ Q3 s m h k => ?_⟩
  refine ⟨.inr (.inl ⟨rfl, o, hk, hc, hdn⟩), rb σ H _ ρ μ _ s m h fun ds μ2 vs H2 h2 k2 r2 m2 => ?_⟩
  cases r2 with
  | nil => exact False.elim h2
  | cons r2 r3 =>
    cases r3 with
    | cons _ _ => exact False.elim h2
    | nil =>
      rename_i y v
      dsimp only at h2
      cases e1 : dats l with
      | none => rw [e1] at h2; exact h2.elim
      | some ps =>
        cases e2 : dat y with
        | none => rw [e1, e2] at h2; exact h2.elim
        | some q =>
          rw [e1, e2] at h2
          obtain ⟨⟨d1, d2⟩, j, hj, hq⟩ := h2
          exact ⟨l, y, v, ps, q, j, rd H2, rfl, r2, e1, e2, d1, d2, hj, k _ _ _ _ hq k2 (.int _) m2⟩
theorem gdt_mk {K : Fg} {mg : Str → Option Value} {h : Heap} {x : Str} {a : Addr} {l : List D} {its : Array Value} {n : Nat} {sl : Array (Option Value)} (X : K.In h) (G : h.Ns mainGlobals mg) (e : PySem.W.nsIn K mainGlobals x = some (some (.ref a)))
    (hk : K.lookup a = some ⟨.type "tuple", none, .seq its n, sl⟩) (r : TupK K l a) : GdT K mg x l := ⟨a, _, PySem.W.mg_of X G e, hk, rfl, rfl, fun H => r.rel H⟩
end
section
variable {X : Cx} {x : Str} {C : Addr} {p pos : Pos}
theorem re_make0 {k : Nat} {ps : List Str} {sp : Sp3} (oc : ObjC X.K x C) (mk : PySem.W.makesIn X.K C = true) (kp : PySem.W.keepIn X.K (.ref C) = true) (cf : CalT X.prog X.w X.K X.mg X.base k C "__init__" ps sp) (hm : X.mg x = some (.ref C)) (hr : Room (k + 1) X.A)
    (hg : Gl X x := by rfl) (hdb : (x == ("__debug__" : Str)) = false := by decide) : RE X (.Call (.Name x p) [] [] pos) (make3 x sp nil3) := by
  obtain ⟨f, fd, F, h1, h2, h3, hb⟩ := cf
  refine ⟨_, pe_make0 ⟨mk, h1, h2, kp⟩ F hr hg hm hb .nil pass0 hdb, fun σ H Q ρ μ Q3 s mm h kk y dy n1 n2 n3 => ?_⟩
  rw [List.append_nil]
  have kA : Kp H (upd H dy (.own y)) := Kp.new n2
  have n1' : upd H dy (.own y) y = none := by rw [upd_ne (Ne.symm n3)]; exact n1
  have kB : Kp (upd H dy (.own y)) (upd (upd H dy (.own y)) y (.ins C dy [])) := Kp.new n1'
  refine ⟨_, _, _, .cons (.ref y) .nil, mm.newI oc.ns n1 n2 n3, h y (mm.free n1), fun d μ2 v H2 q k2 r2 m2 => ?_⟩
  obtain ⟨rfl, q2⟩ := q
  cases r2
  exact ⟨rfl, kk _ _ _ _ q2 (kA.trans (kB.trans k2)) (.ref y) m2⟩
end
section
variable {X : Cx}
theorem rt_chain {a b c : Expr} {ta tb tc : TE3} {op op' : CmpOp} {r r' : R3} {pos : Pos} (ho : RO X (compareOp op) r) (ho' : RO X (compareOp op') r') (ha : RE X a ta) (hb : RE X b tb) (hc : RE X c tc)
    (hm : lastMarks [op, op'] [b, c] = false := by with_unfolding_all rfl) : RT X (.Compare a [op, op'] [b, c] pos) (b3 (ch3 r r' ta tb tc)) := by
  obtain ⟨o, po, ro⟩ := ho
  obtain ⟨o', po', ro'⟩ := ho'
  obtain ⟨va, pa, ra⟩ := ha
  obtain ⟨vb, pb, rb⟩ := hb
  obtain ⟨vc, pc, rc⟩ := hc
  refine ⟨_, pt_chain po po' pa pb pc hm, RdT.test fun σ H Q ρ μ Q3 s m h k => ra σ H _ ρ μ _ s m h fun x μ1 v H1 h1 k1 r1 m1 => rb σ H1 _ ρ μ1 _ (s.mono k1) m1 h1 fun y μ2 u H2 h2 k2 r2 m2 =>
    ro x y v u H2 _ μ2 _ m2 (r1.mono k2) r2 h2 fun d μ3 z H3 h3 k3 r3 m3 => ?_⟩
  cases r3 with
  | bl e =>
    cases e with
    | false => exact ⟨false, rfl, k _ _ _ _ h3 (k1.trans (k2.trans k3)) (.bl _) m3⟩
    | true =>
      refine ⟨true, rfl, ?_⟩
      show vc σ H3 _
      exact rc σ H3 _ ρ μ3 _ (((s.mono k1).mono k2).mono k3) m3 h3 fun w μ4 x4 H4 h4 k4 r4 m4 => ro' y w u x4 H4 Q μ4 Q3 m4 (r2.mono (k3.trans k4)) r4 h4 (k.after (k1.trans (k2.trans (k3.trans k4))))
  | _ => exact False.elim h3
end
end Pv

namespace Mw
/-- a pen -/
noncomputable abbrev Pen := Int × Int × Int
noncomputable def cs (h : Int) : Int := if h = 0 then 1 else if h = 2 then -1 else 0
noncomputable def sn (h : Int) : Int := if h = 1 then 1 else if h = 3 then -1 else 0
noncomputable def led (p q : Pen) : Pen := (p.1 + q.1 * cs p.2.2 - q.2.1 * sn p.2.2, p.2.1 + q.1 * sn p.2.2 + q.2.1 * cs p.2.2, (p.2.2 + q.2.2) % 4)
noncomputable def st : Pen := (0, 0, 0)
noncomputable def Hd (p : Pen) : Prop := p.2.2 = 0 ∨ p.2.2 = 1 ∨ p.2.2 = 2 ∨ p.2.2 = 3
/-- n times -/
noncomputable def pw (p : Pen) : Nat → Pen
  | 0 => st
  | n + 1 => led (pw p n) p
/-- the program's reckoning of n times -/
noncomputable def rep (p : Pen) (n : Int) : Pen := if p.2.2 = 0 then (p.1 * n, p.2.1 * n, 0) else pw p (n % 4).toNat
/-- a deed -/
inductive Dd where
  | go (n : Int) | jump (n : Int) | turn (n : Int) | times (n : Int) (w : List Dd)
noncomputable def G : Int := 99999999999999999999
mutual
noncomputable def dn : Dd → Int
  | .times n w => n * dns w
  | _ => 1
noncomputable def dns : List Dd → Int
  | [] => 0
  | d :: r => dn d + dns r
end
mutual
noncomputable def pd : Dd → Pen
  | .go n => (n, 0, 0)
  | .jump n => (n, 0, 0)
  | .turn n => (0, 0, n % 4)
  | .times n w => rep (pb w) n
noncomputable def pb : List Dd → Pen
  | [] => st
  | d :: r => led (pd d) (pb r)
end
noncomputable def bd (c e : Nat) : Int := (c : Int) * G ^ (e + 1)
end Mw

namespace Mw
/-! how far a pen comes -/
noncomputable def ab (x : Int) : Int := if x < 0 then -x else x
noncomputable def pm (p : Pen) : Int := max (ab p.1) (ab p.2.1)
end Mw

namespace Pv
open PySem
noncomputable abbrev k_GREATEST_NUMBER : D := .int 99999999999999999999
noncomputable abbrev k_START : D := .tup [.int 0, .int 0, .int 0]
noncomputable abbrev k_AHEAD : D := .tup [.tup [.int 1, .int 0], .tup [.int 0, .int 1], .tup [.int (-1), .int 0], .tup [.int 0, .int (-1)]]
noncomputable abbrev k_MOST_PARTS : D := .int 1000
noncomputable abbrev kl_AHEAD : List D := [.tup [.int 1, .int 0], .tup [.int 0, .int 1], .tup [.int (-1), .int 0], .tup [.int 0, .int (-1)]]
noncomputable def xnames : List Str := ["NoPicture"]
noncomputable def subX (cls c : Str) : Option Bool := if xnames.contains c then some (cls == c || cls == "PenError" || cls == "ValueError") else none
noncomputable def okX (c : Str) : Bool := xnames.contains c
noncomputable def N_led : List Str := ["pen", "part", "ahead", "x", "y"]
noncomputable def t_led : TS3 :=
  (seq3 (set3 2 (o3 ixR (c3 k_AHEAD) (o3 ixR (v3 0) (c3 (.int 2))))) (seq3 (set3 3 (o3 subR (o3 addR (o3 ixR (v3 0) (c3 (.int 0))) (o3 mulR (o3 ixR (v3 1) (c3 (.int 0))) (o3 ixR (v3 2) (c3 (.int 0))))) (o3 mulR (o3 ixR (v3 1) (c3 (.int 1))) (o3 ixR (v3 2) (c3 (.int 1)))))) (seq3 (set3 4 (o3 addR (o3 addR (o3 ixR (v3 0) (c3 (.int 1))) (o3 mulR (o3 ixR (v3 1) (c3 (.int 0))) (o3 ixR (v3 2) (c3 (.int 1))))) (o3 mulR (o3 ixR (v3 1) (c3 (.int 1))) (o3 ixR (v3 2) (c3 (.int 0)))))) (ret3 (tup3 (cons3 (v3 3) (cons3 (v3 4) (cons3 (o3 modR (o3 addR (o3 ixR (v3 0) (c3 (.int 2))) (o3 ixR (v3 1) (c3 (.int 2)))) (c3 (.int 4))) nil3))))))))
noncomputable def N_is_trail : List Str := ["trail"]
noncomputable def t_is_trail (sp_are_next : Sp3) : TS3 :=
  (ret3 (andV3 (o3 gtR (call3 lenR (cons3 (v3 0) nil3)) (c3 (.int 1))) (call3 allR (cons3 (comp3 [none, some 0] (ir23 (cons3 (c3 (.int 1)) (cons3 (call3 lenR (cons3 (v3 0) nil3)) nil3))) (gn3 0) tt3 (call3 sp_are_next (cons3 (o3 ixR (v3 1) (o3 subR (v3 0) (c3 (.int 1)))) (cons3 (o3 ixR (v3 1) (v3 0)) nil3)))) nil3))))
noncomputable def N_are_next : List Str := ["point", "other"]
noncomputable def t_are_next : TS3 :=
  (ret3 (o3 eqR (o3 addR (call3 absR (cons3 (o3 subR (o3 ixR (v3 0) (c3 (.int 0))) (o3 ixR (v3 1) (c3 (.int 0)))) nil3)) (call3 absR (cons3 (o3 subR (o3 ixR (v3 0) (c3 (.int 1))) (o3 ixR (v3 1) (c3 (.int 1)))) nil3))) (c3 (.int 1))))
noncomputable def N_deeds_of : List Str := ["trails", "scribe", "trail", "point"]
noncomputable def t_deeds_of_r3 (XE : XE3) (sp_Scribe___init__ : Sp3) (sp_Scribe_go_to : Sp3) (sp_Scribe_jump_to : Sp3) (sp_is_trail : Sp3) : TS3 :=
  (ret3 (fld3 (v3 1) "Scribe" "deeds"))
noncomputable def t_deeds_of_r2 (XE : XE3) (sp_Scribe___init__ : Sp3) (sp_Scribe_go_to : Sp3) (sp_Scribe_jump_to : Sp3) (sp_is_trail : Sp3) : TS3 :=
  (seq3 (for3 (is3 (v3 0)) (gn3 2) (seq3 (drop3 (meth3 "Scribe" "jump_to" sp_Scribe_jump_to (v3 1) (cons3 (o3 ixR (v3 2) (c3 (.int 0))) nil3))) (for3 (is3 (sl3 slR (v3 2) (pt3 (c3 (.int 1))) np3)) (gn3 3) (drop3 (meth3 "Scribe" "go_to" sp_Scribe_go_to (v3 1) (cons3 (v3 3) nil3)))))) (t_deeds_of_r3 XE sp_Scribe___init__ sp_Scribe_go_to sp_Scribe_jump_to sp_is_trail))
noncomputable def t_deeds_of_r1 (XE : XE3) (sp_Scribe___init__ : Sp3) (sp_Scribe_go_to : Sp3) (sp_Scribe_jump_to : Sp3) (sp_is_trail : Sp3) : TS3 :=
  (seq3 (set3 1 (make3 "Scribe" sp_Scribe___init__ nil3)) (t_deeds_of_r2 XE sp_Scribe___init__ sp_Scribe_go_to sp_Scribe_jump_to sp_is_trail))
noncomputable def t_deeds_of (XE : XE3) (sp_Scribe___init__ : Sp3) (sp_Scribe_go_to : Sp3) (sp_Scribe_jump_to : Sp3) (sp_is_trail : Sp3) : TS3 :=
  (seq3 (ifs3 (not3 (b3 (call3 allR (cons3 (comp3 [none] (is3 (v3 0)) (gn3 0) tt3 (call3 sp_is_trail (cons3 (v3 0) nil3))) nil3)))) (raise3 XE "NoPicture" (cons3 (c3 (.str "there is no such trail")) nil3)) next3) (t_deeds_of_r1 XE sp_Scribe___init__ sp_Scribe_go_to sp_Scribe_jump_to sp_is_trail))
noncomputable def N_jumps_over : List Str := ["far", "parts", "sign", "rest"]
noncomputable def t_jumps_over_r4 : TS3 :=
  (ret3 (o3 addR (o3 mulR (lst3 (cons3 (o3 mulR (v3 2) (c3 k_GREATEST_NUMBER)) nil3)) (v3 1)) (if3 (b3 (o3 neR (v3 3) (c3 (.int 0)))) (lst3 (cons3 (v3 3) nil3)) (lst3 nil3))))
noncomputable def t_jumps_over_r3 : TS3 :=
  (seq3 (set3 3 (o3 subR (v3 0) (o3 mulR (o3 mulR (v3 2) (v3 1)) (c3 k_GREATEST_NUMBER)))) (t_jumps_over_r4))
noncomputable def t_jumps_over_r2 : TS3 :=
  (seq3 (set3 2 (if3 (b3 (o3 gtR (v3 0) (c3 (.int 0)))) (c3 (.int 1)) (un3 negR (c3 (.int 1))))) (t_jumps_over_r3))
noncomputable def t_jumps_over_r1 : TS3 :=
  (seq3 (ifs3 (b3 (o3 gtR (v3 1) (c3 k_MOST_PARTS))) (ret3 (lst3 (cons3 (v3 0) nil3))) next3) (t_jumps_over_r2))
noncomputable def t_jumps_over : TS3 :=
  (seq3 (set3 1 (o3 fdivR (call3 absR (cons3 (v3 0) nil3)) (c3 k_GREATEST_NUMBER))) (t_jumps_over_r1))
noncomputable def N__law_cell_at : List Str := ["script", "k"]
noncomputable def t__law_cell_at : TS3 :=
  (seq3 (ifs3 (b3 (o3 ltR (v3 1) (call3 lenR (cons3 (v3 0) nil3)))) (ret3 (o3 ixR (v3 0) (v3 1))) next3) (ret3 (c3 (.int 0))))
noncomputable def N__law_whole : List Str := ["found"]
noncomputable def t__law_whole : TS3 :=
  (ret3 (andV3 (call3 isiR (cons3 (v3 0) (cons3 (c3 (.ty "int")) nil3))) (notV3 (call3 isiR (cons3 (v3 0) (cons3 (c3 (.ty "bool")) nil3))))))
noncomputable def N__law_state : List Str := ["script", "k", "cell"]
noncomputable def t__law_state (sp__law_cell_at : Sp3) : TS3 :=
  (seq3 (set3 2 (call3 sp__law_cell_at (cons3 (v3 0) (cons3 (v3 1) nil3)))) (seq3 (ifs3 (b3 (o3 geR (v3 2) (o3 powR (c3 (.int 10)) (c3 (.int 18))))) (ret3 (lst3 (cons3 (o3 subR (v3 2) (o3 powR (c3 (.int 10)) (c3 (.int 18)))) (cons3 (c3 (.bl true)) nil3)))) next3) (ret3 (lst3 (cons3 (o3 modR (v3 2) (c3 (.int 2147483647))) (cons3 (c3 (.bl false)) nil3))))))
noncomputable def N__law_choice : List Str := ["state", "many", "found", "mixed"]
noncomputable def t__law_choice : TS3 :=
  (seq3 (ifs3 (b3 (o3 ixR (v3 0) (c3 (.int 1)))) (seq3 (set3 2 (o3 modR (o3 ixR (v3 0) (c3 (.int 0))) (v3 1))) (seq3 (asg3 (o3 fdivR (o3 ixR (v3 0) (c3 (.int 0))) (v3 1)) (sub3 (v3 0) (c3 (.int 0)))) (ret3 (v3 2)))) next3) (seq3 (asg3 (o3 modR (o3 addR (o3 mulR (o3 ixR (v3 0) (c3 (.int 0))) (c3 (.int 48271))) (c3 (.int 29))) (c3 (.int 2147483647))) (sub3 (v3 0) (c3 (.int 0)))) (seq3 (set3 3 (o3 modR (o3 addR (o3 addR (o3 mulR (o3 ixR (v3 0) (c3 (.int 0))) (o3 ixR (v3 0) (c3 (.int 0)))) (o3 mulR (c3 (.int 39373)) (o3 ixR (v3 0) (c3 (.int 0))))) (c3 (.int 7))) (c3 (.int 2147483629)))) (seq3 (set3 3 (o3 modR (o3 addR (o3 mulR (v3 3) (v3 3)) (o3 mulR (c3 (.int 16807)) (v3 3))) (c3 (.int 2147483587)))) (ret3 (o3 modR (o3 fdivR (v3 3) (c3 (.int 8))) (v3 1)))))))
noncomputable def N__law_walked : List Str := ["deeds", "pen", "x", "y", "heading", "strokes", "kind", "number", "step", "k", "low"]
noncomputable def t__law_walked_r3 : TS3 :=
  (ret3 (tup3 (cons3 (tup3 (cons3 (v3 2) (cons3 (v3 3) (cons3 (v3 4) nil3)))) (cons3 (v3 5) nil3))))
noncomputable def t__law_walked_r2 : TS3 :=
  (seq3 (for3 (is3 (v3 0)) (gtup3 2 (gcons3 (gn3 6) (gcons3 (gn3 7) gnil3))) (seq3 (set3 8 (o3 ixR (lst3 (cons3 (tup3 (cons3 (c3 (.int 1)) (cons3 (c3 (.int 0)) nil3))) (cons3 (tup3 (cons3 (c3 (.int 0)) (cons3 (c3 (.int 1)) nil3))) (cons3 (tup3 (cons3 (un3 negR (c3 (.int 1))) (cons3 (c3 (.int 0)) nil3))) (cons3 (tup3 (cons3 (c3 (.int 0)) (cons3 (un3 negR (c3 (.int 1))) nil3))) nil3))))) (v3 4))) (ifs3 (b3 (o3 eqR (v3 6) (c3 (.str "turn")))) (set3 4 (o3 modR (o3 addR (v3 4) (v3 7)) (c3 (.int 4)))) (ifs3 (b3 (o3 eqR (v3 6) (c3 (.str "jump")))) (seq3 (set3 2 (o3 addR (v3 2) (o3 mulR (o3 ixR (v3 8) (c3 (.int 0))) (v3 7)))) (set3 3 (o3 addR (v3 3) (o3 mulR (o3 ixR (v3 8) (c3 (.int 1))) (v3 7))))) (for3 (ir3 (cons3 (v3 7) nil3)) (gn3 9) (seq3 (set3 10 (call3 minR (cons3 (tup3 (cons3 (v3 2) (cons3 (v3 3) nil3))) (cons3 (tup3 (cons3 (o3 addR (v3 2) (o3 ixR (v3 8) (c3 (.int 0)))) (cons3 (o3 addR (v3 3) (o3 ixR (v3 8) (c3 (.int 1)))) nil3))) nil3)))) (seq3 (drop3 (mt3 appR (v3 5) (cons3 (tup3 (cons3 (o3 ixR (v3 10) (c3 (.int 0))) (cons3 (o3 ixR (v3 10) (c3 (.int 1))) (cons3 (o3 modR (v3 4) (c3 (.int 2))) nil3)))) nil3))) (seq3 (set3 2 (o3 addR (v3 2) (o3 ixR (v3 8) (c3 (.int 0))))) (set3 3 (o3 addR (v3 3) (o3 ixR (v3 8) (c3 (.int 1))))))))))))) (t__law_walked_r3))
noncomputable def t__law_walked_r1 : TS3 :=
  (seq3 (set3 5 (lst3 nil3)) (t__law_walked_r2))
noncomputable def t__law_walked : TS3 :=
  (seq3 (asg3 (v3 1) (gtup3 3 (gcons3 (gn3 2) (gcons3 (gn3 3) (gcons3 (gn3 4) gnil3))))) (t__law_walked_r1))
noncomputable def N__law_marks : List Str := ["e", "marks"]
noncomputable def t__law_marks : TS3 :=
  (seq3 (set3 1 (lst3 (cons3 (isx3 (v3 0) (subX "NoWord")) (cons3 (isx3 (v3 0) (subX "NoRoom")) (cons3 (isx3 (v3 0) (subX "NoStep")) (cons3 (isx3 (v3 0) (subX "NoPicture")) nil3)))))) (ret3 (o3 addR (v3 1) (lst3 (cons3 (isx3 (v3 0) (subX "NoNumber")) (cons3 (isx3 (v3 0) (subX "BadNote")) (cons3 (isx3 (v3 0) (subX "ValueError")) nil3)))))))
noncomputable def N__law_refused : List Str := ["marks", "which"]
noncomputable def t__law_refused : TS3 :=
  (ret3 (o3 eqR (v3 0) (o3 addR (comp3 [none, some 1] (ir3 (cons3 (c3 (.int 6)) nil3)) (gn3 0) tt3 (o3 eqR (v3 0) (v3 1))) (lst3 (cons3 (c3 (.bl true)) nil3)))))
noncomputable def N__law_from_ends : List Str := ["one", "other", "low", "high"]
noncomputable def t__law_from_ends : TS3 :=
  (seq3 (set3 2 (call3 minR (cons3 (v3 0) (cons3 (v3 1) nil3)))) (seq3 (set3 3 (call3 maxPR (cons3 (v3 0) (cons3 (v3 1) nil3)))) (ret3 (tup3 (cons3 (o3 ixR (v3 2) (c3 (.int 0))) (cons3 (o3 ixR (v3 2) (c3 (.int 1))) (cons3 (o3 subR (o3 ixR (v3 3) (c3 (.int 1))) (o3 ixR (v3 2) (c3 (.int 1)))) nil3)))))))
noncomputable def N__law_strokes : List Str := ["trail", "found", "k", "one", "other"]
noncomputable def t__law_strokes (sp__law_from_ends : Sp3) : TS3 :=
  (seq3 (set3 1 (lst3 nil3)) (seq3 (for3 (ir3 (cons3 (o3 subR (call3 lenR (cons3 (v3 0) nil3)) (c3 (.int 1))) nil3)) (gn3 2) (seq3 (set3 3 (o3 ixR (v3 0) (v3 2))) (seq3 (set3 4 (o3 ixR (v3 0) (o3 addR (v3 2) (c3 (.int 1))))) (seq3 (ifs3 (b3 (o3 neR (o3 addR (call3 absR (cons3 (o3 subR (o3 ixR (v3 3) (c3 (.int 0))) (o3 ixR (v3 4) (c3 (.int 0)))) nil3)) (call3 absR (cons3 (o3 subR (o3 ixR (v3 3) (c3 (.int 1))) (o3 ixR (v3 4) (c3 (.int 1)))) nil3))) (c3 (.int 1)))) (ret3 (c3 .non)) next3) (drop3 (mt3 appR (v3 1) (cons3 (call3 sp__law_from_ends (cons3 (v3 3) (cons3 (v3 4) nil3))) nil3))))))) (ret3 (v3 1))))
noncomputable def N__law_trail : List Str := ["state", "far", "found", "k", "x", "y", "step"]
noncomputable def t__law_trail_r3 (sp__law_choice : Sp3) : TS3 :=
  (ret3 (v3 2))
noncomputable def t__law_trail_r2 (sp__law_choice : Sp3) : TS3 :=
  (seq3 (for3 (ir3 (cons3 (o3 addR (c3 (.int 1)) (call3 sp__law_choice (cons3 (v3 0) (cons3 (c3 (.int 8)) nil3)))) nil3)) (gn3 3) (seq3 (asg3 (o3 ixR (v3 2) (un3 negR (c3 (.int 1)))) (gtup3 2 (gcons3 (gn3 4) (gcons3 (gn3 5) gnil3)))) (seq3 (set3 6 (o3 ixR (lst3 (cons3 (tup3 (cons3 (c3 (.int 1)) (cons3 (c3 (.int 0)) nil3))) (cons3 (tup3 (cons3 (c3 (.int 0)) (cons3 (c3 (.int 1)) nil3))) (cons3 (tup3 (cons3 (un3 negR (c3 (.int 1))) (cons3 (c3 (.int 0)) nil3))) (cons3 (tup3 (cons3 (c3 (.int 0)) (cons3 (un3 negR (c3 (.int 1))) nil3))) nil3))))) (call3 sp__law_choice (cons3 (v3 0) (cons3 (c3 (.int 4)) nil3))))) (drop3 (mt3 appR (v3 2) (cons3 (tup3 (cons3 (o3 addR (v3 4) (o3 ixR (v3 6) (c3 (.int 0)))) (cons3 (o3 addR (v3 5) (o3 ixR (v3 6) (c3 (.int 1)))) nil3))) nil3)))))) (t__law_trail_r3 sp__law_choice))
noncomputable def t__law_trail_r1 (sp__law_choice : Sp3) : TS3 :=
  (seq3 (set3 2 (lst3 (cons3 (tup3 (cons3 (o3 subR (call3 sp__law_choice (cons3 (v3 0) (cons3 (v3 1) nil3))) (c3 (.int 2))) (cons3 (o3 subR (call3 sp__law_choice (cons3 (v3 0) (cons3 (v3 1) nil3))) (c3 (.int 2))) nil3))) nil3))) (t__law_trail_r2 sp__law_choice))
noncomputable def t__law_trail (sp__law_choice : Sp3) : TS3 :=
  (seq3 (set3 1 (o3 ixR (lst3 (cons3 (c3 (.int 5)) (cons3 (c3 (.int 5)) (cons3 (o3 powR (c3 (.int 10)) (c3 (.int 20))) nil3)))) (call3 sp__law_choice (cons3 (v3 0) (cons3 (c3 (.int 3)) nil3))))) (t__law_trail_r1 sp__law_choice))
noncomputable def N__law_is_row : List Str := ["deeds", "deed"]
noncomputable def t__law_is_row (sp__law_whole : Sp3) : TS3 :=
  (seq3 (ifs3 (not3 (b3 (call3 isiR (cons3 (v3 0) (cons3 (c3 (.ty "list")) nil3))))) (ret3 (c3 (.bl false))) next3) (seq3 (for3 (is3 (v3 0)) (gn3 1) (seq3 (ifs3 (or3 (not3 (b3 (call3 isiR (cons3 (v3 1) (cons3 (c3 (.ty "tuple")) nil3))))) (or3 (b3 (o3 neR (call3 lenR (cons3 (v3 1) nil3)) (c3 (.int 2)))) (b3 (o3 (inR true) (o3 ixR (v3 1) (c3 (.int 0))) (lst3 (cons3 (c3 (.str "go")) (cons3 (c3 (.str "jump")) (cons3 (c3 (.str "turn")) nil3)))))))) (ret3 (c3 (.bl false))) next3) (ifs3 (or3 (not3 (b3 (call3 sp__law_whole (cons3 (o3 ixR (v3 1) (c3 (.int 1))) nil3)))) (and3 (b3 (o3 eqR (o3 ixR (v3 1) (c3 (.int 0))) (c3 (.str "go")))) (not3 (b3 (ch3 leR ltR (c3 (.int 0)) (o3 ixR (v3 1) (c3 (.int 1))) (c3 (.int 99))))))) (ret3 (c3 (.bl false))) next3))) (ret3 (c3 (.bl true)))))
noncomputable def N__law_told : List Str := ["trails", "found", "marks", "e"]
noncomputable def t__law_told (sp__law_marks : Sp3) (spx_deeds_of : XE3 → Sp3) : TS3 :=
  (seq3 (set3 1 (c3 .non)) (seq3 (set3 2 (lst3 nil3)) (seq3 (try3 3 spx_deeds_of (setSt 1) okX (cons3 (v3 0) nil3) (set3 2 (call3 sp__law_marks (cons3 (v3 3) nil3)))) (ret3 (tup3 (cons3 (v3 1) (cons3 (v3 2) nil3)))))))
noncomputable def N_law : List Str := ["script", "state", "trails", "due", "trail", "handed", "found", "marks", "bad", "at"]
noncomputable def t_law_r10 (sp__law_choice : Sp3) (sp__law_is_row : Sp3) (sp__law_refused : Sp3) (sp__law_state : Sp3) (sp__law_strokes : Sp3) (sp__law_told : Sp3) (sp__law_trail : Sp3) (sp__law_walked : Sp3) : TS3 :=
  (ret3 (call3 sp__law_refused (cons3 (o3 ixR (call3 sp__law_told (cons3 (o3 addR (o3 addR (sl3 slR (v3 2) np3 (pt3 (v3 9))) (lst3 (cons3 (v3 8) nil3))) (sl3 slR (v3 2) (pt3 (v3 9)) np3)) nil3)) (c3 (.int 1))) (cons3 (c3 (.int 3)) nil3))))
noncomputable def t_law_r9 (sp__law_choice : Sp3) (sp__law_is_row : Sp3) (sp__law_refused : Sp3) (sp__law_state : Sp3) (sp__law_strokes : Sp3) (sp__law_told : Sp3) (sp__law_trail : Sp3) (sp__law_walked : Sp3) : TS3 :=
  (seq3 (set3 9 (call3 sp__law_choice (cons3 (v3 1) (cons3 (o3 addR (call3 lenR (cons3 (v3 2) nil3)) (c3 (.int 1))) nil3)))) (t_law_r10 sp__law_choice sp__law_is_row sp__law_refused sp__law_state sp__law_strokes sp__law_told sp__law_trail sp__law_walked))
noncomputable def t_law_r8 (sp__law_choice : Sp3) (sp__law_is_row : Sp3) (sp__law_refused : Sp3) (sp__law_state : Sp3) (sp__law_strokes : Sp3) (sp__law_told : Sp3) (sp__law_trail : Sp3) (sp__law_walked : Sp3) : TS3 :=
  (seq3 (set3 8 (o3 ixR (lst3 (cons3 (lst3 nil3) (cons3 (lst3 (cons3 (tup3 (cons3 (c3 (.int 0)) (cons3 (c3 (.int 0)) nil3))) nil3)) (cons3 (lst3 (cons3 (tup3 (cons3 (c3 (.int 0)) (cons3 (c3 (.int 0)) nil3))) (cons3 (tup3 (cons3 (c3 (.int 0)) (cons3 (c3 (.int 0)) nil3))) nil3))) (cons3 (lst3 (cons3 (tup3 (cons3 (c3 (.int 0)) (cons3 (c3 (.int 0)) nil3))) (cons3 (tup3 (cons3 (c3 (.int 1)) (cons3 (c3 (.int 1)) nil3))) nil3))) (cons3 (lst3 (cons3 (tup3 (cons3 (c3 (.int 0)) (cons3 (c3 (.int 0)) nil3))) (cons3 (tup3 (cons3 (c3 (.int 0)) (cons3 (c3 (.int 1)) nil3))) (cons3 (tup3 (cons3 (c3 (.int 0)) (cons3 (c3 (.int 3)) nil3))) nil3)))) nil3)))))) (call3 sp__law_choice (cons3 (v3 1) (cons3 (c3 (.int 5)) nil3))))) (t_law_r9 sp__law_choice sp__law_is_row sp__law_refused sp__law_state sp__law_strokes sp__law_told sp__law_trail sp__law_walked))
noncomputable def t_law_r7 (sp__law_choice : Sp3) (sp__law_is_row : Sp3) (sp__law_refused : Sp3) (sp__law_state : Sp3) (sp__law_strokes : Sp3) (sp__law_told : Sp3) (sp__law_trail : Sp3) (sp__law_walked : Sp3) : TS3 :=
  (seq3 (ifs3 (b3 (o3 neR (call3 srtR (cons3 (o3 ixR (call3 sp__law_walked (cons3 (v3 6) (cons3 (tup3 (cons3 (c3 (.int 0)) (cons3 (c3 (.int 0)) (cons3 (c3 (.int 0)) nil3)))) nil3))) (c3 (.int 1))) nil3)) (call3 srtR (cons3 (v3 3) nil3)))) (ret3 (c3 (.bl false))) next3) (t_law_r8 sp__law_choice sp__law_is_row sp__law_refused sp__law_state sp__law_strokes sp__law_told sp__law_trail sp__law_walked))
noncomputable def t_law_r6 (sp__law_choice : Sp3) (sp__law_is_row : Sp3) (sp__law_refused : Sp3) (sp__law_state : Sp3) (sp__law_strokes : Sp3) (sp__law_told : Sp3) (sp__law_trail : Sp3) (sp__law_walked : Sp3) : TS3 :=
  (seq3 (ifs3 (or3 (b3 (o3 neR (v3 7) (lst3 nil3))) (or3 (b3 (o3 (eqN true) (v3 5) (v3 2))) (not3 (b3 (call3 sp__law_is_row (cons3 (v3 6) nil3)))))) (ret3 (c3 (.bl false))) next3) (t_law_r7 sp__law_choice sp__law_is_row sp__law_refused sp__law_state sp__law_strokes sp__law_told sp__law_trail sp__law_walked))
noncomputable def t_law_r5 (sp__law_choice : Sp3) (sp__law_is_row : Sp3) (sp__law_refused : Sp3) (sp__law_state : Sp3) (sp__law_strokes : Sp3) (sp__law_told : Sp3) (sp__law_trail : Sp3) (sp__law_walked : Sp3) : TS3 :=
  (seq3 (asg3 (call3 sp__law_told (cons3 (v3 5) nil3)) (gtup3 2 (gcons3 (gn3 6) (gcons3 (gn3 7) gnil3)))) (t_law_r6 sp__law_choice sp__law_is_row sp__law_refused sp__law_state sp__law_strokes sp__law_told sp__law_trail sp__law_walked))
noncomputable def t_law_r4 (sp__law_choice : Sp3) (sp__law_is_row : Sp3) (sp__law_refused : Sp3) (sp__law_state : Sp3) (sp__law_strokes : Sp3) (sp__law_told : Sp3) (sp__law_trail : Sp3) (sp__law_walked : Sp3) : TS3 :=
  (seq3 (set3 5 (comp3 [none] (is3 (v3 2)) (gn3 0) tt3 (call3 listR (cons3 (v3 0) nil3)))) (t_law_r5 sp__law_choice sp__law_is_row sp__law_refused sp__law_state sp__law_strokes sp__law_told sp__law_trail sp__law_walked))
noncomputable def t_law_r3 (sp__law_choice : Sp3) (sp__law_is_row : Sp3) (sp__law_refused : Sp3) (sp__law_state : Sp3) (sp__law_strokes : Sp3) (sp__law_told : Sp3) (sp__law_trail : Sp3) (sp__law_walked : Sp3) : TS3 :=
  (seq3 (for3 (is3 (v3 2)) (gn3 4) (set3 3 (o3 addR (v3 3) (call3 sp__law_strokes (cons3 (v3 4) nil3))))) (t_law_r4 sp__law_choice sp__law_is_row sp__law_refused sp__law_state sp__law_strokes sp__law_told sp__law_trail sp__law_walked))
noncomputable def t_law_r2 (sp__law_choice : Sp3) (sp__law_is_row : Sp3) (sp__law_refused : Sp3) (sp__law_state : Sp3) (sp__law_strokes : Sp3) (sp__law_told : Sp3) (sp__law_trail : Sp3) (sp__law_walked : Sp3) : TS3 :=
  (seq3 (set3 3 (lst3 nil3)) (t_law_r3 sp__law_choice sp__law_is_row sp__law_refused sp__law_state sp__law_strokes sp__law_told sp__law_trail sp__law_walked))
noncomputable def t_law_r1 (sp__law_choice : Sp3) (sp__law_is_row : Sp3) (sp__law_refused : Sp3) (sp__law_state : Sp3) (sp__law_strokes : Sp3) (sp__law_told : Sp3) (sp__law_trail : Sp3) (sp__law_walked : Sp3) : TS3 :=
  (seq3 (set3 2 (comp3 [none, some 1] (ir3 (cons3 (call3 sp__law_choice (cons3 (v3 1) (cons3 (c3 (.int 5)) nil3))) nil3)) (gn3 0) tt3 (call3 sp__law_trail (cons3 (v3 1) nil3)))) (t_law_r2 sp__law_choice sp__law_is_row sp__law_refused sp__law_state sp__law_strokes sp__law_told sp__law_trail sp__law_walked))
noncomputable def t_law (sp__law_choice : Sp3) (sp__law_is_row : Sp3) (sp__law_refused : Sp3) (sp__law_state : Sp3) (sp__law_strokes : Sp3) (sp__law_told : Sp3) (sp__law_trail : Sp3) (sp__law_walked : Sp3) : TS3 :=
  (seq3 (set3 1 (call3 sp__law_state (cons3 (v3 0) (cons3 (c3 (.int 0)) nil3)))) (t_law_r1 sp__law_choice sp__law_is_row sp__law_refused sp__law_state sp__law_strokes sp__law_told sp__law_trail sp__law_walked))
noncomputable def N_Scribe___init__ : List Str := ["self"]
noncomputable def t_Scribe___init__ : TS3 :=
  (seq3 (sfld3 (v3 0) (c3 k_START) "Scribe" "pen") (sfld3 (v3 0) (lst3 nil3) "Scribe" "deeds"))
noncomputable def N_Scribe_turn_to : List Str := ["self", "heading", "quarters"]
noncomputable def t_Scribe_turn_to (sp_led : Sp3) : TS3 :=
  (seq3 (set3 2 (o3 modR (o3 subR (v3 1) (o3 ixR (fld3 (v3 0) "Scribe" "pen") (c3 (.int 2)))) (c3 (.int 4)))) (ifs3 (b3 (o3 neR (v3 2) (c3 (.int 0)))) (seq3 (drop3 (mt3 appR (fld3 (v3 0) "Scribe" "deeds") (cons3 (tup3 (cons3 (c3 (.str "turn")) (cons3 (v3 2) nil3))) nil3))) (sfld3 (v3 0) (call3 sp_led (cons3 (fld3 (v3 0) "Scribe" "pen") (cons3 (tup3 (cons3 (c3 (.int 0)) (cons3 (c3 (.int 0)) (cons3 (v3 2) nil3)))) nil3))) "Scribe" "pen")) next3))
noncomputable def N_Scribe_jump_to : List Str := ["self", "point"]
noncomputable def t_Scribe_jump_to (sp_Scribe_jump : Sp3) : TS3 :=
  (seq3 (drop3 (meth3 "Scribe" "jump" sp_Scribe_jump (v3 0) (cons3 (c3 (.int 0)) (cons3 (o3 subR (o3 ixR (v3 1) (c3 (.int 0))) (o3 ixR (fld3 (v3 0) "Scribe" "pen") (c3 (.int 0)))) nil3)))) (drop3 (meth3 "Scribe" "jump" sp_Scribe_jump (v3 0) (cons3 (c3 (.int 1)) (cons3 (o3 subR (o3 ixR (v3 1) (c3 (.int 1))) (o3 ixR (fld3 (v3 0) "Scribe" "pen") (c3 (.int 1)))) nil3)))))
noncomputable def N_Scribe_jump : List Str := ["self", "heading", "far"]
noncomputable def t_Scribe_jump (sp_Scribe_turn_to : Sp3) (sp_jumps_over : Sp3) (sp_led : Sp3) : TS3 :=
  (ifs3 (b3 (o3 neR (v3 2) (c3 (.int 0)))) (seq3 (drop3 (meth3 "Scribe" "turn_to" sp_Scribe_turn_to (v3 0) (cons3 (v3 1) nil3))) (seq3 (drop3 (mt3 extR (fld3 (v3 0) "Scribe" "deeds") (cons3 (comp3 [none] (is3 (call3 sp_jumps_over (cons3 (v3 2) nil3))) (gn3 0) tt3 (tup3 (cons3 (c3 (.str "jump")) (cons3 (v3 0) nil3)))) nil3))) (sfld3 (v3 0) (call3 sp_led (cons3 (fld3 (v3 0) "Scribe" "pen") (cons3 (tup3 (cons3 (v3 2) (cons3 (c3 (.int 0)) (cons3 (c3 (.int 0)) nil3)))) nil3))) "Scribe" "pen"))) next3)
noncomputable def N_Scribe_go_to : List Str := ["self", "point", "number"]
noncomputable def t_Scribe_go_to_r4 (sp_Scribe_turn_to : Sp3) (sp_led : Sp3) : TS3 :=
  (sfld3 (v3 0) (call3 sp_led (cons3 (fld3 (v3 0) "Scribe" "pen") (cons3 (tup3 (cons3 (c3 (.int 1)) (cons3 (c3 (.int 0)) (cons3 (c3 (.int 0)) nil3)))) nil3))) "Scribe" "pen")
noncomputable def t_Scribe_go_to_r3 (sp_Scribe_turn_to : Sp3) (sp_led : Sp3) : TS3 :=
  (seq3 (drop3 (mt3 appR (fld3 (v3 0) "Scribe" "deeds") (cons3 (tup3 (cons3 (c3 (.str "go")) (cons3 (v3 2) nil3))) nil3))) (t_Scribe_go_to_r4 sp_Scribe_turn_to sp_led))
noncomputable def t_Scribe_go_to_r2 (sp_Scribe_turn_to : Sp3) (sp_led : Sp3) : TS3 :=
  (seq3 (ifs3 (and3 (b3 (o3 gtR (call3 lenR (cons3 (fld3 (v3 0) "Scribe" "deeds") nil3)) (c3 (.int 0)))) (b3 (o3 eqR (o3 ixR (o3 ixR (fld3 (v3 0) "Scribe" "deeds") (un3 negR (c3 (.int 1)))) (c3 (.int 0))) (c3 (.str "go"))))) (set3 2 (o3 addR (o3 ixR (pop3 (fld3 (v3 0) "Scribe" "deeds")) (c3 (.int 1))) (c3 (.int 1)))) next3) (t_Scribe_go_to_r3 sp_Scribe_turn_to sp_led))
noncomputable def t_Scribe_go_to_r1 (sp_Scribe_turn_to : Sp3) (sp_led : Sp3) : TS3 :=
  (seq3 (set3 2 (c3 (.int 1))) (t_Scribe_go_to_r2 sp_Scribe_turn_to sp_led))
noncomputable def t_Scribe_go_to (sp_Scribe_turn_to : Sp3) (sp_led : Sp3) : TS3 :=
  (seq3 (drop3 (meth3 "Scribe" "turn_to" sp_Scribe_turn_to (v3 0) (cons3 (tix3 (c3 (.tup kl_AHEAD)) (cons3 (tup3 (cons3 (o3 subR (o3 ixR (v3 1) (c3 (.int 0))) (o3 ixR (fld3 (v3 0) "Scribe" "pen") (c3 (.int 0)))) (cons3 (o3 subR (o3 ixR (v3 1) (c3 (.int 1))) (o3 ixR (fld3 (v3 0) "Scribe" "pen") (c3 (.int 1)))) nil3))) nil3)) nil3))) (t_Scribe_go_to_r1 sp_Scribe_turn_to sp_led))
end Pv

namespace Pv
open PySem Mw
theorem kn_go_jump : ((("go" : Str) = ("jump" : Str)) = False) := eq_false (by decide)
theorem kn_go_turn : ((("go" : Str) = ("turn" : Str)) = False) := eq_false (by decide)
theorem kn_go_times : ((("go" : Str) = ("times" : Str)) = False) := eq_false (by decide)
theorem kn_jump_go : ((("jump" : Str) = ("go" : Str)) = False) := eq_false (by decide)
theorem kn_jump_turn : ((("jump" : Str) = ("turn" : Str)) = False) := eq_false (by decide)
theorem kn_jump_times : ((("jump" : Str) = ("times" : Str)) = False) := eq_false (by decide)
theorem kn_turn_go : ((("turn" : Str) = ("go" : Str)) = False) := eq_false (by decide)
theorem kn_turn_jump : ((("turn" : Str) = ("jump" : Str)) = False) := eq_false (by decide)
theorem kn_turn_times : ((("turn" : Str) = ("times" : Str)) = False) := eq_false (by decide)
theorem kn_times_go : ((("times" : Str) = ("go" : Str)) = False) := eq_false (by decide)
theorem kn_times_jump : ((("times" : Str) = ("jump" : Str)) = False) := eq_false (by decide)
theorem kn_times_turn : ((("times" : Str) = ("turn" : Str)) = False) := eq_false (by decide)
theorem kp_go : (["go", "jump", "turn"] : List Str).contains "go" = true := by decide
theorem kp_jump : (["go", "jump", "turn"] : List Str).contains "jump" = true := by decide
theorem kp_turn : (["go", "jump", "turn"] : List Str).contains "turn" = true := by decide
theorem kp_times : (["go", "jump", "turn"] : List Str).contains "times" = false := by decide
theorem kz_go : (["go", "times"] : List Str).contains "go" = true := by decide
theorem kz_jump : (["go", "times"] : List Str).contains "jump" = false := by decide
theorem kz_turn : (["go", "times"] : List Str).contains "turn" = false := by decide
theorem kz_times : (["go", "times"] : List Str).contains "times" = true := by decide
theorem cst0 : ((0 : Nat) : Int) = 0 := rfl
theorem cst1 : ((1 : Nat) : Int) = 1 := rfl
theorem cst2 : ((2 : Nat) : Int) = 2 := rfl
theorem cst3 : ((3 : Nat) : Int) = 3 := rfl
theorem ix_some {l : List D} {i : Int} {d : D} {μ : Mu} {Q : VK3} (e : atI l i = some d) (h : Q d μ) : ixR (.tup l) (.int i) μ Q := by
  unfold ixR
  simp only [e]
  exact h
theorem z2 : 2 ≤ sizeLine := by decide
theorem z3 : 3 ≤ sizeLine := by decide
noncomputable def spCell : Sp3 := fun ds μ Q => ∃ (ns : List Int) (k : Int), ds = [.fls (ns.map D.int), .int k] ∧ 0 ≤ k ∧ ∀ i, Q (.int i) μ
theorem rd__law_cell_at (ds : List D) (μ : Mu) (Q : VK3) (h : spCell ds μ Q) : t__law_cell_at { nx := fun _ μ' => Q .non μ', rt := Q } (start3 N__law_cell_at ds) μ := by
  obtain ⟨ns, k, rfl, hk, q⟩ := h
  simp only [Pv.seq3, Pv.next3, Pv.never3, Pv.brk3, Pv.cnt3, Pv.drop3, Pv.ret3, Pv.retN3, Pv.ifs3, Pv.gn3, Pv.gnil3, Pv.gcons3, Pv.gtup3, Pv.set3, Pv.asg3, Pv.par3, Pv.sub3, Pv.for3, Pv.is3, Pv.ir3, Pv.ir23, Pv.v3, Pv.c3, Pv.o3, Pv.un3, Pv.b3, Pv.and3, Pv.or3, Pv.not3, Pv.andV3, Pv.orV3, Pv.notV3, Pv.if3, Pv.nil3, Pv.cons3, Pv.tup3, Pv.lst3, Pv.call3, Pv.mt3, Pv.comp3, Pv.tt3, Pv.getI, List.set_cons_zero, List.set_cons_succ, Pv.int2, Pv.int20, Pv.subR, Pv.mulR, Pv.intR, Pv.sl3, Pv.np3, Pv.pt3, Pv.slR, Pv.modR, Pv.fdivR, Pv.powR, Pv.ltR, Pv.leR, Pv.gtR, Pv.geR, Pv.negR, Pv.addR, Pv.eqR_ii, Pv.eqR_ss, Pv.eqR_bb, Pv.eqR_is, Pv.neR_ii, Pv.neR_ss, Pv.neR_bb, Pv.inR, Pv.ixR, Pv.lenR, Pv.absR, Pv.tupR, Pv.sumR, Pv.tyN, Pv.isIn, Pv.isiR, Pv.appR, Pv.extR, Pv.smt3, Pv.joinR, Pv.splitR, Pv.startsR, Pv.pop3, Pv.lrev3, Pv.strR, Pv.start3, List.map_cons, List.map_nil, List.cons_append, List.nil_append, List.length_cons, List.length_nil, List.replicate, Pv.atI0, Pv.atI1, Pv.atI2, Nat.reduceAdd, Nat.reduceSub, Nat.zero_add, reduceIte, Pv.strs?, Bool.not_true, Bool.not_false, Bool.false_eq_true, if_false, if_true, decide_eq_true_eq, Bool.not_eq_true', decide_eq_false_iff_not, Pv.ixN0, Pv.ixN1, Pv.ixN2, true_and, and_true, Pv.cst0, Pv.cst1, Pv.cst2, Pv.cst3, Int.reduceEq, Option.bind_none, Option.bind_some, Pv.kn_go_jump, Pv.kn_go_turn, Pv.kn_go_times, Pv.kn_jump_go, Pv.kn_jump_turn, Pv.kn_jump_times, Pv.kn_turn_go, Pv.kn_turn_jump, Pv.kn_turn_times, Pv.kn_times_go, Pv.kn_times_jump, Pv.kn_times_turn, Pv.kp_go, Pv.kp_jump, Pv.kp_turn, Pv.kp_times, Pv.kz_go, Pv.kz_jump, Pv.kz_turn, Pv.kz_times, t__law_cell_at, N__law_cell_at]
  split
  · next h1 =>
    obtain ⟨d, hd, e⟩ := atI_in (l := ns.map D.int) hk h1
    obtain ⟨i, _, rfl⟩ := List.mem_map.mp hd
    simp only [e]
    exact q i
  · exact q 0
noncomputable def spState : Sp3 := fun ds μ Q => ∃ (ns : List Int) (k : Int), ds = [.fls (ns.map D.int), .int k] ∧ 0 ≤ k ∧ ∀ a b p, 0 ≤ a → μ p = none → Q (.ref p) (updM μ p (.lst [.int a, .bl b]))
theorem rd__law_state (ds : List D) (μ : Mu) (Q : VK3) (h : spState ds μ Q) : t__law_state spCell { nx := fun _ μ' => Q .non μ', rt := Q } (start3 N__law_state ds) μ := by
  obtain ⟨ns, k, rfl, hk, q⟩ := h
  simp only [Pv.seq3, Pv.next3, Pv.never3, Pv.brk3, Pv.cnt3, Pv.drop3, Pv.ret3, Pv.retN3, Pv.ifs3, Pv.gn3, Pv.gnil3, Pv.gcons3, Pv.gtup3, Pv.set3, Pv.asg3, Pv.par3, Pv.sub3, Pv.for3, Pv.is3, Pv.ir3, Pv.ir23, Pv.v3, Pv.c3, Pv.o3, Pv.un3, Pv.b3, Pv.and3, Pv.or3, Pv.not3, Pv.andV3, Pv.orV3, Pv.notV3, Pv.if3, Pv.nil3, Pv.cons3, Pv.tup3, Pv.lst3, Pv.call3, Pv.mt3, Pv.comp3, Pv.tt3, Pv.getI, List.set_cons_zero, List.set_cons_succ, Pv.int2, Pv.int20, Pv.subR, Pv.mulR, Pv.intR, Pv.sl3, Pv.np3, Pv.pt3, Pv.slR, Pv.modR, Pv.fdivR, Pv.powR, Pv.ltR, Pv.leR, Pv.gtR, Pv.geR, Pv.negR, Pv.addR, Pv.eqR_ii, Pv.eqR_ss, Pv.eqR_bb, Pv.eqR_is, Pv.neR_ii, Pv.neR_ss, Pv.neR_bb, Pv.inR, Pv.ixR, Pv.lenR, Pv.absR, Pv.tupR, Pv.sumR, Pv.tyN, Pv.isIn, Pv.isiR, Pv.appR, Pv.extR, Pv.smt3, Pv.joinR, Pv.splitR, Pv.startsR, Pv.pop3, Pv.lrev3, Pv.strR, Pv.start3, List.map_cons, List.map_nil, List.cons_append, List.nil_append, List.length_cons, List.length_nil, List.replicate, Pv.atI0, Pv.atI1, Pv.atI2, Nat.reduceAdd, Nat.reduceSub, Nat.zero_add, reduceIte, Pv.strs?, Bool.not_true, Bool.not_false, Bool.false_eq_true, if_false, if_true, decide_eq_true_eq, Bool.not_eq_true', decide_eq_false_iff_not, Pv.ixN0, Pv.ixN1, Pv.ixN2, true_and, and_true, Pv.cst0, Pv.cst1, Pv.cst2, Pv.cst3, Int.reduceEq, Option.bind_none, Option.bind_some, Pv.kn_go_jump, Pv.kn_go_turn, Pv.kn_go_times, Pv.kn_jump_go, Pv.kn_jump_turn, Pv.kn_jump_times, Pv.kn_turn_go, Pv.kn_turn_jump, Pv.kn_turn_times, Pv.kn_times_go, Pv.kn_times_jump, Pv.kn_times_turn, Pv.kp_go, Pv.kp_jump, Pv.kp_turn, Pv.kp_times, Pv.kz_go, Pv.kz_jump, Pv.kz_turn, Pv.kz_times, t__law_state, N__law_state]
  refine ⟨ns, k, rfl, hk, fun i => ?_⟩
  simp only [Pv.seq3, Pv.next3, Pv.never3, Pv.brk3, Pv.cnt3, Pv.drop3, Pv.ret3, Pv.retN3, Pv.ifs3, Pv.gn3, Pv.gnil3, Pv.gcons3, Pv.gtup3, Pv.set3, Pv.asg3, Pv.par3, Pv.sub3, Pv.for3, Pv.is3, Pv.ir3, Pv.ir23, Pv.v3, Pv.c3, Pv.o3, Pv.un3, Pv.b3, Pv.and3, Pv.or3, Pv.not3, Pv.andV3, Pv.orV3, Pv.notV3, Pv.if3, Pv.nil3, Pv.cons3, Pv.tup3, Pv.lst3, Pv.call3, Pv.mt3, Pv.comp3, Pv.tt3, Pv.getI, List.set_cons_zero, List.set_cons_succ, Pv.int2, Pv.int20, Pv.subR, Pv.mulR, Pv.intR, Pv.sl3, Pv.np3, Pv.pt3, Pv.slR, Pv.modR, Pv.fdivR, Pv.powR, Pv.ltR, Pv.leR, Pv.gtR, Pv.geR, Pv.negR, Pv.addR, Pv.eqR_ii, Pv.eqR_ss, Pv.eqR_bb, Pv.eqR_is, Pv.neR_ii, Pv.neR_ss, Pv.neR_bb, Pv.inR, Pv.ixR, Pv.lenR, Pv.absR, Pv.tupR, Pv.sumR, Pv.tyN, Pv.isIn, Pv.isiR, Pv.appR, Pv.extR, Pv.smt3, Pv.joinR, Pv.splitR, Pv.startsR, Pv.pop3, Pv.lrev3, Pv.strR, Pv.start3, List.map_cons, List.map_nil, List.cons_append, List.nil_append, List.length_cons, List.length_nil, List.replicate, Pv.atI0, Pv.atI1, Pv.atI2, Nat.reduceAdd, Nat.reduceSub, Nat.zero_add, reduceIte, Pv.strs?, Bool.not_true, Bool.not_false, Bool.false_eq_true, if_false, if_true, decide_eq_true_eq, Bool.not_eq_true', decide_eq_false_iff_not, Pv.ixN0, Pv.ixN1, Pv.ixN2, true_and, and_true, Pv.cst0, Pv.cst1, Pv.cst2, Pv.cst3, Int.reduceEq, Option.bind_none, Option.bind_some, Pv.kn_go_jump, Pv.kn_go_turn, Pv.kn_go_times, Pv.kn_jump_go, Pv.kn_jump_turn, Pv.kn_jump_times, Pv.kn_turn_go, Pv.kn_turn_jump, Pv.kn_turn_times, Pv.kn_times_go, Pv.kn_times_jump, Pv.kn_times_turn, Pv.kp_go, Pv.kp_jump, Pv.kp_turn, Pv.kp_times, Pv.kz_go, Pv.kz_jump, Pv.kz_turn, Pv.kz_times, cst0]
  refine ⟨⟨by decide, by decide, by decide⟩, ?_⟩
  have e : ((10 : Int) ^ (18 : Int).toNat) = 1000000000000000000 := by decide
  simp only [e]
  split
  · next h1 => exact ⟨⟨by decide, by decide, by decide⟩, by decide, fun p hp => q _ _ p (by omega) hp⟩
  · exact ⟨by decide, by decide, fun p hp => q _ _ p (Int.emod_nonneg _ (by decide)) hp⟩
noncomputable def spChoice : Sp3 := fun ds μ Q => ∃ (p : Addr) (m a : Int) (b : Bool) (rest : List D), ds = [.ref p, .int m] ∧ 0 < m ∧ m < 2 ^ 120 ∧ μ p = some (.lst (.int a :: .bl b :: rest)) ∧ 0 ≤ a ∧
  ∀ r a', 0 ≤ r → r < m → 0 ≤ a' → Q (.int r) (updM μ p (.lst (.int a' :: .bl b :: rest)))
theorem rd__law_choice (ds : List D) (μ : Mu) (Q : VK3) (h : spChoice ds μ Q) : t__law_choice { nx := fun _ μ' => Q .non μ', rt := Q } (start3 N__law_choice ds) μ := by
  obtain ⟨p, m, a, b, rest, rfl, h1, h2, h3, h4, q⟩ := h
  simp only [Pv.seq3, Pv.next3, Pv.never3, Pv.brk3, Pv.cnt3, Pv.drop3, Pv.ret3, Pv.retN3, Pv.ifs3, Pv.gn3, Pv.gnil3, Pv.gcons3, Pv.gtup3, Pv.set3, Pv.asg3, Pv.par3, Pv.sub3, Pv.for3, Pv.is3, Pv.ir3, Pv.ir23, Pv.v3, Pv.c3, Pv.o3, Pv.un3, Pv.b3, Pv.and3, Pv.or3, Pv.not3, Pv.andV3, Pv.orV3, Pv.notV3, Pv.if3, Pv.nil3, Pv.cons3, Pv.tup3, Pv.lst3, Pv.call3, Pv.mt3, Pv.comp3, Pv.tt3, Pv.getI, List.set_cons_zero, List.set_cons_succ, Pv.int2, Pv.int20, Pv.subR, Pv.mulR, Pv.intR, Pv.sl3, Pv.np3, Pv.pt3, Pv.slR, Pv.modR, Pv.fdivR, Pv.powR, Pv.ltR, Pv.leR, Pv.gtR, Pv.geR, Pv.negR, Pv.addR, Pv.eqR_ii, Pv.eqR_ss, Pv.eqR_bb, Pv.eqR_is, Pv.neR_ii, Pv.neR_ss, Pv.neR_bb, Pv.inR, Pv.ixR, Pv.lenR, Pv.absR, Pv.tupR, Pv.sumR, Pv.tyN, Pv.isIn, Pv.isiR, Pv.appR, Pv.extR, Pv.smt3, Pv.joinR, Pv.splitR, Pv.startsR, Pv.pop3, Pv.lrev3, Pv.strR, Pv.start3, List.map_cons, List.map_nil, List.cons_append, List.nil_append, List.length_cons, List.length_nil, List.replicate, Pv.atI0, Pv.atI1, Pv.atI2, Nat.reduceAdd, Nat.reduceSub, Nat.zero_add, reduceIte, Pv.strs?, Bool.not_true, Bool.not_false, Bool.false_eq_true, if_false, if_true, decide_eq_true_eq, Bool.not_eq_true', decide_eq_false_iff_not, Pv.ixN0, Pv.ixN1, Pv.ixN2, true_and, and_true, Pv.cst0, Pv.cst1, Pv.cst2, Pv.cst3, Int.reduceEq, Option.bind_none, Option.bind_some, Pv.kn_go_jump, Pv.kn_go_turn, Pv.kn_go_times, Pv.kn_jump_go, Pv.kn_jump_turn, Pv.kn_jump_times, Pv.kn_turn_go, Pv.kn_turn_jump, Pv.kn_turn_times, Pv.kn_times_go, Pv.kn_times_jump, Pv.kn_times_turn, Pv.kp_go, Pv.kp_jump, Pv.kp_turn, Pv.kp_times, Pv.kz_go, Pv.kz_jump, Pv.kz_turn, Pv.kz_times, t__law_choice, N__law_choice, h3]
  split
  · refine ⟨h1, ⟨h1, h2⟩, ?_⟩
    exact q _ _ (Int.emod_nonneg _ (by omega)) (Int.emod_lt_of_pos _ h1) (Int.ediv_nonneg h4 (by omega))
  · refine ⟨.inl (.inr (by decide)), by decide, ?_⟩
    simp only [Pv.seq3, Pv.next3, Pv.never3, Pv.brk3, Pv.cnt3, Pv.drop3, Pv.ret3, Pv.retN3, Pv.ifs3, Pv.gn3, Pv.gnil3, Pv.gcons3, Pv.gtup3, Pv.set3, Pv.asg3, Pv.par3, Pv.sub3, Pv.for3, Pv.is3, Pv.ir3, Pv.ir23, Pv.v3, Pv.c3, Pv.o3, Pv.un3, Pv.b3, Pv.and3, Pv.or3, Pv.not3, Pv.andV3, Pv.orV3, Pv.notV3, Pv.if3, Pv.nil3, Pv.cons3, Pv.tup3, Pv.lst3, Pv.call3, Pv.mt3, Pv.comp3, Pv.tt3, Pv.getI, List.set_cons_zero, List.set_cons_succ, Pv.int2, Pv.int20, Pv.subR, Pv.mulR, Pv.intR, Pv.sl3, Pv.np3, Pv.pt3, Pv.slR, Pv.modR, Pv.fdivR, Pv.powR, Pv.ltR, Pv.leR, Pv.gtR, Pv.geR, Pv.negR, Pv.addR, Pv.eqR_ii, Pv.eqR_ss, Pv.eqR_bb, Pv.eqR_is, Pv.neR_ii, Pv.neR_ss, Pv.neR_bb, Pv.inR, Pv.ixR, Pv.lenR, Pv.absR, Pv.tupR, Pv.sumR, Pv.tyN, Pv.isIn, Pv.isiR, Pv.appR, Pv.extR, Pv.smt3, Pv.joinR, Pv.splitR, Pv.startsR, Pv.pop3, Pv.lrev3, Pv.strR, Pv.start3, List.map_cons, List.map_nil, List.cons_append, List.nil_append, List.length_cons, List.length_nil, List.replicate, Pv.atI0, Pv.atI1, Pv.atI2, Nat.reduceAdd, Nat.reduceSub, Nat.zero_add, reduceIte, Pv.strs?, Bool.not_true, Bool.not_false, Bool.false_eq_true, if_false, if_true, decide_eq_true_eq, Bool.not_eq_true', decide_eq_false_iff_not, Pv.ixN0, Pv.ixN1, Pv.ixN2, true_and, and_true, Pv.cst0, Pv.cst1, Pv.cst2, Pv.cst3, Int.reduceEq, Option.bind_none, Option.bind_some, Pv.kn_go_jump, Pv.kn_go_turn, Pv.kn_go_times, Pv.kn_jump_go, Pv.kn_jump_turn, Pv.kn_jump_times, Pv.kn_turn_go, Pv.kn_turn_jump, Pv.kn_turn_times, Pv.kn_times_go, Pv.kn_times_jump, Pv.kn_times_turn, Pv.kp_go, Pv.kp_jump, Pv.kp_turn, Pv.kp_times, Pv.kz_go, Pv.kz_jump, Pv.kz_turn, Pv.kz_times, updM_same]
    have n1 := Int.emod_nonneg (a * 48271 + 29) (show (2147483647 : Int) ≠ 0 by decide)
    have n2 := Int.emod_lt_of_pos (a * 48271 + 29) (show (0 : Int) < 2147483647 by decide)
    generalize (a * 48271 + 29) % 2147483647 = c at n1 n2 ⊢
    refine ⟨.inl (.inl (by omega)), .inl (.inl (by decide)), by decide, ?_⟩
    have n3 := Int.emod_nonneg (c * c + 39373 * c + 7) (show (2147483629 : Int) ≠ 0 by decide)
    have n4 := Int.emod_lt_of_pos (c * c + 39373 * c + 7) (show (0 : Int) < 2147483629 by decide)
    generalize (c * c + 39373 * c + 7) % 2147483629 = e at n3 n4 ⊢
    refine ⟨.inl (.inl (by omega)), .inl (.inl (by decide)), by decide, ⟨by decide, by decide⟩, h1, ?_⟩
    exact q _ _ (Int.emod_nonneg _ (by omega)) (Int.emod_lt_of_pos _ h1) n1
noncomputable def encQ (p : Int × Int) : D := .tup [.int p.1, .int p.2]
noncomputable def mnP (p q : Int × Int) : Int × Int := if ltP q.1 q.2 p.1 p.2 = true then q else p
noncomputable def mxP (p q : Int × Int) : Int × Int := if ltP p.1 p.2 q.1 q.2 = true then q else p
noncomputable def btw (p q : Int × Int) : T3 := ((mnP p q).1, (mnP p q).2, if p.2 = q.2 then 0 else 1)
theorem min_eq (p q : Int × Int) (μ : Mu) (K : VK3) : minR [.tup [.int p.1, .int p.2], .tup [.int q.1, .int q.2]] μ K = K (encQ (mnP p q)) μ := by
  unfold mnP
  show K (if ltP q.1 q.2 p.1 p.2 then .tup [.int q.1, .int q.2] else .tup [.int p.1, .int p.2]) μ = _
  split <;> rfl
theorem max_eq (p q : Int × Int) (μ : Mu) (K : VK3) : maxPR [.tup [.int p.1, .int p.2], .tup [.int q.1, .int q.2]] μ K = K (encQ (mxP p q)) μ := by
  unfold mxP
  show K (if ltP p.1 p.2 q.1 q.2 then .tup [.int q.1, .int q.2] else .tup [.int p.1, .int p.2]) μ = _
  split <;> rfl
noncomputable def encP (p : Pen) : D := .tup [.int p.1, .int p.2.1, .int p.2.2]
noncomputable def spLed : Sp3 := fun ds μ Q => ∃ p q, ds = [encP p, encP q] ∧ Hd p ∧ Q (encP (led p q)) μ
theorem ahead_at {h : Int} (hd : h = 0 ∨ h = 1 ∨ h = 2 ∨ h = 3) : atI [D.tup [D.int 1, D.int 0], D.tup [D.int 0, D.int 1], D.tup [D.int (-1), D.int 0], D.tup [D.int 0, D.int (-1)]] h = some (.tup [.int (cs h), .int (sn h)]) := by
  rcases hd with rfl | rfl | rfl | rfl <;> rfl
theorem cs_small (h : Int) : -(2 ^ 64) < cs h ∧ cs h < 2 ^ 64 := by unfold cs; split <;> (try split) <;> decide
theorem sn_small (h : Int) : -(2 ^ 64) < sn h ∧ sn h < 2 ^ 64 := by unfold sn; split <;> (try split) <;> decide
theorem rd_led (ds : List D) (μ : Mu) (Q : VK3) (h : spLed ds μ Q) : t_led { nx := fun _ μ' => Q .non μ', rt := Q } (start3 N_led ds) μ := by
  obtain ⟨p, q, rfl, hp, k⟩ := h
  have c1 : CMul q.1 (cs p.2.2) := .inl (.inr (cs_small _))
  have c2 : CMul q.2.1 (sn p.2.2) := .inl (.inr (sn_small _))
  have c3 : CMul q.1 (sn p.2.2) := .inl (.inr (sn_small _))
  have c4 : CMul q.2.1 (cs p.2.2) := .inl (.inr (cs_small _))
  have d1 : (0 : Int) < 4 := by decide
  have d2 : 3 ≤ sizeLine := by decide
  show ixR k_AHEAD (.int p.2.2) μ (fun d μ1 => _)
  refine ix_some (ahead_at hp) ?_
  exact And.intro c1 (And.intro c2 (And.intro c3 (And.intro c4 (And.intro d1 (And.intro d2 k)))))
noncomputable def lfe (p q : Int × Int) : T3 := ((mnP p q).1, (mnP p q).2, (mxP p q).2 - (mnP p q).2)
noncomputable def spFe : Sp3 := fun ds μ Q => ∃ p q, ds = [encQ p, encQ q] ∧ Q (encT (lfe p q)) μ
theorem rd__law_from_ends (ds : List D) (μ : Mu) (Q : VK3) (h : spFe ds μ Q) : t__law_from_ends { nx := fun _ μ' => Q .non μ', rt := Q } (start3 N__law_from_ends ds) μ := by
  obtain ⟨p, q, rfl, k⟩ := h
  show t__law_from_ends { nx := fun _ μ' => Q .non μ', rt := Q } [some (encQ p), some (encQ q), none, none] μ
  unfold t__law_from_ends
  dsimp only [seq3, set3, call3, cons3, nil3, v3, getI, encQ, List.set_cons_zero, List.set_cons_succ]
  rw [min_eq p q]
  dsimp only [seq3, set3, call3, cons3, nil3, v3, getI, encQ, List.set_cons_zero, List.set_cons_succ]
  rw [max_eq p q]
  exact ⟨z3, k⟩
noncomputable def spWhole : Sp3 := fun ds μ Q => ∃ i : Int, ds = [.int i] ∧ Q (.bl true) μ
theorem rd__law_whole (ds : List D) (μ : Mu) (Q : VK3) (h : spWhole ds μ Q) : t__law_whole { nx := fun _ μ' => Q .non μ', rt := Q } (start3 N__law_whole ds) μ := by
  obtain ⟨i, rfl, q⟩ := h
  simp only [Pv.seq3, Pv.next3, Pv.never3, Pv.brk3, Pv.cnt3, Pv.drop3, Pv.ret3, Pv.retN3, Pv.ifs3, Pv.gn3, Pv.gnil3, Pv.gcons3, Pv.gtup3, Pv.set3, Pv.asg3, Pv.par3, Pv.sub3, Pv.for3, Pv.is3, Pv.ir3, Pv.ir23, Pv.v3, Pv.c3, Pv.o3, Pv.un3, Pv.b3, Pv.and3, Pv.or3, Pv.not3, Pv.andV3, Pv.orV3, Pv.notV3, Pv.if3, Pv.nil3, Pv.cons3, Pv.tup3, Pv.lst3, Pv.call3, Pv.mt3, Pv.comp3, Pv.tt3, Pv.getI, List.set_cons_zero, List.set_cons_succ, Pv.int2, Pv.int20, Pv.subR, Pv.mulR, Pv.intR, Pv.sl3, Pv.np3, Pv.pt3, Pv.slR, Pv.modR, Pv.fdivR, Pv.powR, Pv.ltR, Pv.leR, Pv.gtR, Pv.geR, Pv.negR, Pv.addR, Pv.eqR_ii, Pv.eqR_ss, Pv.eqR_bb, Pv.eqR_is, Pv.neR_ii, Pv.neR_ss, Pv.neR_bb, Pv.inR, Pv.ixR, Pv.lenR, Pv.absR, Pv.tupR, Pv.sumR, Pv.tyN, Pv.isIn, Pv.isiR, Pv.appR, Pv.extR, Pv.smt3, Pv.joinR, Pv.splitR, Pv.startsR, Pv.pop3, Pv.lrev3, Pv.strR, Pv.start3, List.map_cons, List.map_nil, List.cons_append, List.nil_append, List.length_cons, List.length_nil, List.replicate, Pv.atI0, Pv.atI1, Pv.atI2, Nat.reduceAdd, Nat.reduceSub, Nat.zero_add, reduceIte, Pv.strs?, Bool.not_true, Bool.not_false, Bool.false_eq_true, if_false, if_true, decide_eq_true_eq, Bool.not_eq_true', decide_eq_false_iff_not, Pv.ixN0, Pv.ixN1, Pv.ixN2, true_and, and_true, Pv.cst0, Pv.cst1, Pv.cst2, Pv.cst3, Int.reduceEq, Option.bind_none, Option.bind_some, Pv.kn_go_jump, Pv.kn_go_turn, Pv.kn_go_times, Pv.kn_jump_go, Pv.kn_jump_turn, Pv.kn_jump_times, Pv.kn_turn_go, Pv.kn_turn_jump, Pv.kn_turn_times, Pv.kn_times_go, Pv.kn_times_jump, Pv.kn_times_turn, Pv.kp_go, Pv.kp_jump, Pv.kp_turn, Pv.kp_times, Pv.kz_go, Pv.kz_jump, Pv.kz_turn, Pv.kz_times, t__law_whole, N__law_whole]
  simp [q]
noncomputable def pT (s : T3) : PyData := .tuple [.int s.1, .int s.2.1, .int s.2.2]
theorem dats_T : ∀ L : List T3, dats (L.map encT) = some (L.map pT)
  | [] => rfl
  | t :: r => by simp only [List.map_cons, dats, encT, dat, dats_T r, pT]
theorem depth_T : ∀ L : List T3, PyData.depthAll (L.map pT) ≤ 2
  | [] => by simp [PyData.depthAll]
  | t :: r => by
    have := depth_T r
    simp only [List.map_cons, PyData.depthAll, pT, PyData.depth]
    omega
theorem le3_anti {a b : T3} (h : le3 a b) (k : le3 b a) : a = b := by
  obtain ⟨x1, x2, x3⟩ := a
  obtain ⟨y1, y2, y3⟩ := b
  simp only [le3, lt3, Bool.or_eq_false_iff, Bool.and_eq_false_iff, decide_eq_false_iff_not, beq_eq_false_iff_ne, ne_eq] at h k
  simp only [Prod.mk.injEq]
  omega
theorem uniq {us vs : List T3} (a1 : us.Perm vs) (a2 : us.Pairwise le3) (a3 : vs.Pairwise le3) : us = vs := List.Perm.eq_of_pairwise (fun a b _ _ h k => le3_anti h k) a2 a3 a1
theorem eqv_pT (s t : T3) : PyData.eqv (pT s) (pT t) = decide (s = t) := by
  obtain ⟨a, b, c⟩ := s
  obtain ⟨d, e, f⟩ := t
  have q : ∀ x y : Int, (x == y) = decide (x = y) := fun x y => by by_cases h : x = y <;> simp [h]
  simp [pT, PyData.eqv, PyData.eqvAll, Bool.and_assoc, q]
theorem eqv_LM : ∀ L M : List T3, PyData.eqvAll (L.map pT) (M.map pT) = decide (L = M)
  | [], [] => by simp [PyData.eqvAll]
  | [], _ :: _ => by simp [PyData.eqvAll]
  | _ :: _, [] => by simp [PyData.eqvAll]
  | s :: L, t :: M => by
    simp only [List.map_cons, PyData.eqvAll, eqv_LM L M, eqv_pT]
    simp
theorem ix_ref {p : Addr} {l : List D} {i : Int} {d : D} {μ : Mu} {K : VK3} (h : μ p = some (.lst l)) (e : atI l i = some d) (k : K d μ) : ixR (.ref p) (.int i) μ K := by
  unfold ixR
  simp only [h, e]
  exact k
theorem ne_nil {p r : Addr} {μ : Mu} (h1 : μ p = some (.lst [])) (h2 : μ r = some (.lst [])) (K : VK3) : neR (.ref p) (.ref r) μ K = K (.bl false) μ := by
  have d : ∀ p, μ p = some (.lst []) → datM μ (.ref p) = some (.list []) := fun p h => by simp only [datM, h, dats]
  rw [neR_dat rfl (d p h1) (d r h2) (by simp [PyData.depth, PyData.depthAll]) (by simp [PyData.depth, PyData.depthAll])]
  simp [PyData.eqv, PyData.eqvAll]
noncomputable def BL : List D := [.bl false, .bl false, .bl false, .bl true, .bl false, .bl false, .bl true]
theorem sx1 : subX "NoWord" "NoPicture" = some false := by decide
theorem sx2 : subX "NoRoom" "NoPicture" = some false := by decide
theorem sx3 : subX "NoStep" "NoPicture" = some false := by decide
theorem sx4 : subX "NoPicture" "NoPicture" = some true := by decide
theorem sx5 : subX "NoNumber" "NoPicture" = some false := by decide
theorem sx6 : subX "BadNote" "NoPicture" = some false := by decide
theorem sx7 : subX "ValueError" "NoPicture" = some true := by decide
noncomputable def spMk : Sp3 := fun ds μ Q => ds = [.exc "NoPicture"] ∧ ∀ p μ', Ext μ μ' → μ' p = some (.lst BL) → Q (.ref p) μ'
theorem rd__law_marks (ds : List D) (μ : Mu) (Q : VK3) (h : spMk ds μ Q) : t__law_marks { nx := fun _ μ' => Q .non μ', rt := Q } (start3 N__law_marks ds) μ := by
  obtain ⟨rfl, q⟩ := h
  simp only [Pv.seq3, Pv.next3, Pv.never3, Pv.brk3, Pv.cnt3, Pv.drop3, Pv.ret3, Pv.retN3, Pv.ifs3, Pv.gn3, Pv.gnil3, Pv.gcons3, Pv.gtup3, Pv.set3, Pv.asg3, Pv.par3, Pv.sub3, Pv.for3, Pv.is3, Pv.ir3, Pv.ir23, Pv.v3, Pv.c3, Pv.o3, Pv.un3, Pv.b3, Pv.and3, Pv.or3, Pv.not3, Pv.andV3, Pv.orV3, Pv.notV3, Pv.if3, Pv.nil3, Pv.cons3, Pv.tup3, Pv.lst3, Pv.call3, Pv.mt3, Pv.comp3, Pv.tt3, Pv.getI, List.set_cons_zero, List.set_cons_succ, Pv.int2, Pv.int20, Pv.subR, Pv.mulR, Pv.intR, Pv.sl3, Pv.np3, Pv.pt3, Pv.slR, Pv.modR, Pv.fdivR, Pv.powR, Pv.ltR, Pv.leR, Pv.gtR, Pv.geR, Pv.negR, Pv.addR, Pv.eqR_ii, Pv.eqR_ss, Pv.eqR_bb, Pv.eqR_is, Pv.neR_ii, Pv.neR_ss, Pv.neR_bb, Pv.inR, Pv.ixR, Pv.lenR, Pv.absR, Pv.tupR, Pv.sumR, Pv.tyN, Pv.isIn, Pv.isiR, Pv.appR, Pv.extR, Pv.smt3, Pv.joinR, Pv.splitR, Pv.startsR, Pv.pop3, Pv.lrev3, Pv.strR, Pv.start3, List.map_cons, List.map_nil, List.cons_append, List.nil_append, List.length_cons, List.length_nil, List.replicate, Pv.atI0, Pv.atI1, Pv.atI2, Nat.reduceAdd, Nat.reduceSub, Nat.zero_add, reduceIte, Pv.strs?, Bool.not_true, Bool.not_false, Bool.false_eq_true, if_false, if_true, decide_eq_true_eq, Bool.not_eq_true', decide_eq_false_iff_not, Pv.ixN0, Pv.ixN1, Pv.ixN2, true_and, and_true, Pv.cst0, Pv.cst1, Pv.cst2, Pv.cst3, Int.reduceEq, Option.bind_none, Option.bind_some, Pv.kn_go_jump, Pv.kn_go_turn, Pv.kn_go_times, Pv.kn_jump_go, Pv.kn_jump_turn, Pv.kn_jump_times, Pv.kn_turn_go, Pv.kn_turn_jump, Pv.kn_turn_times, Pv.kn_times_go, Pv.kn_times_jump, Pv.kn_times_turn, Pv.kp_go, Pv.kp_jump, Pv.kp_turn, Pv.kp_times, Pv.kz_go, Pv.kz_jump, Pv.kz_turn, Pv.kz_times, t__law_marks, N__law_marks, isx3, sx1, sx2, sx3, sx4, sx5, sx6, sx7]
  refine ⟨by decide, fun p hp => ⟨by decide, fun r hr => ?_⟩⟩
  have hpr : p ≠ r := ne_free updM_same hr
  simp only [Pv.seq3, Pv.next3, Pv.never3, Pv.brk3, Pv.cnt3, Pv.drop3, Pv.ret3, Pv.retN3, Pv.ifs3, Pv.gn3, Pv.gnil3, Pv.gcons3, Pv.gtup3, Pv.set3, Pv.asg3, Pv.par3, Pv.sub3, Pv.for3, Pv.is3, Pv.ir3, Pv.ir23, Pv.v3, Pv.c3, Pv.o3, Pv.un3, Pv.b3, Pv.and3, Pv.or3, Pv.not3, Pv.andV3, Pv.orV3, Pv.notV3, Pv.if3, Pv.nil3, Pv.cons3, Pv.tup3, Pv.lst3, Pv.call3, Pv.mt3, Pv.comp3, Pv.tt3, Pv.getI, List.set_cons_zero, List.set_cons_succ, Pv.int2, Pv.int20, Pv.subR, Pv.mulR, Pv.intR, Pv.sl3, Pv.np3, Pv.pt3, Pv.slR, Pv.modR, Pv.fdivR, Pv.powR, Pv.ltR, Pv.leR, Pv.gtR, Pv.geR, Pv.negR, Pv.addR, Pv.eqR_ii, Pv.eqR_ss, Pv.eqR_bb, Pv.eqR_is, Pv.neR_ii, Pv.neR_ss, Pv.neR_bb, Pv.inR, Pv.ixR, Pv.lenR, Pv.absR, Pv.tupR, Pv.sumR, Pv.tyN, Pv.isIn, Pv.isiR, Pv.appR, Pv.extR, Pv.smt3, Pv.joinR, Pv.splitR, Pv.startsR, Pv.pop3, Pv.lrev3, Pv.strR, Pv.start3, List.map_cons, List.map_nil, List.cons_append, List.nil_append, List.length_cons, List.length_nil, List.replicate, Pv.atI0, Pv.atI1, Pv.atI2, Nat.reduceAdd, Nat.reduceSub, Nat.zero_add, reduceIte, Pv.strs?, Bool.not_true, Bool.not_false, Bool.false_eq_true, if_false, if_true, decide_eq_true_eq, Bool.not_eq_true', decide_eq_false_iff_not, Pv.ixN0, Pv.ixN1, Pv.ixN2, true_and, and_true, Pv.cst0, Pv.cst1, Pv.cst2, Pv.cst3, Int.reduceEq, Option.bind_none, Option.bind_some, Pv.kn_go_jump, Pv.kn_go_turn, Pv.kn_go_times, Pv.kn_jump_go, Pv.kn_jump_turn, Pv.kn_jump_times, Pv.kn_turn_go, Pv.kn_turn_jump, Pv.kn_turn_times, Pv.kn_times_go, Pv.kn_times_jump, Pv.kn_times_turn, Pv.kp_go, Pv.kp_jump, Pv.kp_turn, Pv.kp_times, Pv.kz_go, Pv.kz_jump, Pv.kz_turn, Pv.kz_times, updM_ne hpr, updM_same]
  refine ⟨by decide, fun t ht => q t _ (fun c o hc => ?_) updM_same⟩
  have z1 : updM μ p (.lst [.bl false, .bl false, .bl false, .bl true]) c = some o := by rw [updM_ne (ne_free hc hp)]; exact hc
  have z2 := (Ext.new (o := .lst [.bl false, .bl false, .bl true]) hr) c o z1
  rw [updM_ne (ne_free z2 ht)]; exact z2
noncomputable def spRef : Sp3 := fun ds μ Q => ∃ p, ds = [.ref p, .int 3] ∧ μ p = some (.lst BL) ∧ ∀ μ', Ext μ μ' → Q (.bl true) μ'
theorem rd__law_refused (ds : List D) (μ : Mu) (Q : VK3) (h : spRef ds μ Q) : t__law_refused { nx := fun _ μ' => Q .non μ', rt := Q } (start3 N__law_refused ds) μ := by
  obtain ⟨p, rfl, ep, q⟩ := h
  simp only [Pv.seq3, Pv.next3, Pv.never3, Pv.brk3, Pv.cnt3, Pv.drop3, Pv.ret3, Pv.retN3, Pv.ifs3, Pv.gn3, Pv.gnil3, Pv.gcons3, Pv.gtup3, Pv.set3, Pv.asg3, Pv.par3, Pv.sub3, Pv.for3, Pv.is3, Pv.ir3, Pv.ir23, Pv.v3, Pv.c3, Pv.o3, Pv.un3, Pv.b3, Pv.and3, Pv.or3, Pv.not3, Pv.andV3, Pv.orV3, Pv.notV3, Pv.if3, Pv.nil3, Pv.cons3, Pv.tup3, Pv.lst3, Pv.call3, Pv.mt3, Pv.comp3, Pv.tt3, Pv.getI, List.set_cons_zero, List.set_cons_succ, Pv.int2, Pv.int20, Pv.subR, Pv.mulR, Pv.intR, Pv.sl3, Pv.np3, Pv.pt3, Pv.slR, Pv.modR, Pv.fdivR, Pv.powR, Pv.ltR, Pv.leR, Pv.gtR, Pv.geR, Pv.negR, Pv.addR, Pv.eqR_ii, Pv.eqR_ss, Pv.eqR_bb, Pv.eqR_is, Pv.neR_ii, Pv.neR_ss, Pv.neR_bb, Pv.inR, Pv.ixR, Pv.lenR, Pv.absR, Pv.tupR, Pv.sumR, Pv.tyN, Pv.isIn, Pv.isiR, Pv.appR, Pv.extR, Pv.smt3, Pv.joinR, Pv.splitR, Pv.startsR, Pv.pop3, Pv.lrev3, Pv.strR, Pv.start3, List.map_cons, List.map_nil, List.cons_append, List.nil_append, List.length_cons, List.length_nil, List.replicate, Pv.atI0, Pv.atI1, Pv.atI2, Nat.reduceAdd, Nat.reduceSub, Nat.zero_add, reduceIte, Pv.strs?, Bool.not_true, Bool.not_false, Bool.false_eq_true, if_false, if_true, decide_eq_true_eq, Bool.not_eq_true', decide_eq_false_iff_not, Pv.ixN0, Pv.ixN1, Pv.ixN2, true_and, and_true, Pv.cst0, Pv.cst1, Pv.cst2, Pv.cst3, Int.reduceEq, Option.bind_none, Option.bind_some, Pv.kn_go_jump, Pv.kn_go_turn, Pv.kn_go_times, Pv.kn_jump_go, Pv.kn_jump_turn, Pv.kn_jump_times, Pv.kn_turn_go, Pv.kn_turn_jump, Pv.kn_turn_times, Pv.kn_times_go, Pv.kn_times_jump, Pv.kn_times_turn, Pv.kp_go, Pv.kp_jump, Pv.kp_turn, Pv.kp_times, Pv.kz_go, Pv.kz_jump, Pv.kz_turn, Pv.kz_times, t__law_refused, N__law_refused]
  refine ⟨by decide, fun r hr => ?_⟩
  have hl : (rngD 0 (6 : Int).toNat).length ≤ sizeLine := by decide
  refine comp_map (fun x => match x with | .int i => .bl (decide (i = 3)) | _ => .non) hr hl (fun _ _ => trivial) ?_ ?_
  · intro x hx μ' R ex k
    obtain ⟨i, _, rfl⟩ := List.mem_map.mp hx
    simp only [Pv.seq3, Pv.next3, Pv.never3, Pv.brk3, Pv.cnt3, Pv.drop3, Pv.ret3, Pv.retN3, Pv.ifs3, Pv.gn3, Pv.gnil3, Pv.gcons3, Pv.gtup3, Pv.set3, Pv.asg3, Pv.par3, Pv.sub3, Pv.for3, Pv.is3, Pv.ir3, Pv.ir23, Pv.v3, Pv.c3, Pv.o3, Pv.un3, Pv.b3, Pv.and3, Pv.or3, Pv.not3, Pv.andV3, Pv.orV3, Pv.notV3, Pv.if3, Pv.nil3, Pv.cons3, Pv.tup3, Pv.lst3, Pv.call3, Pv.mt3, Pv.comp3, Pv.tt3, Pv.getI, List.set_cons_zero, List.set_cons_succ, Pv.int2, Pv.int20, Pv.subR, Pv.mulR, Pv.intR, Pv.sl3, Pv.np3, Pv.pt3, Pv.slR, Pv.modR, Pv.fdivR, Pv.powR, Pv.ltR, Pv.leR, Pv.gtR, Pv.geR, Pv.negR, Pv.addR, Pv.eqR_ii, Pv.eqR_ss, Pv.eqR_bb, Pv.eqR_is, Pv.neR_ii, Pv.neR_ss, Pv.neR_bb, Pv.inR, Pv.ixR, Pv.lenR, Pv.absR, Pv.tupR, Pv.sumR, Pv.tyN, Pv.isIn, Pv.isiR, Pv.appR, Pv.extR, Pv.smt3, Pv.joinR, Pv.splitR, Pv.startsR, Pv.pop3, Pv.lrev3, Pv.strR, Pv.start3, List.map_cons, List.map_nil, List.cons_append, List.nil_append, List.length_cons, List.length_nil, List.replicate, Pv.atI0, Pv.atI1, Pv.atI2, Nat.reduceAdd, Nat.reduceSub, Nat.zero_add, reduceIte, Pv.strs?, Bool.not_true, Bool.not_false, Bool.false_eq_true, if_false, if_true, decide_eq_true_eq, Bool.not_eq_true', decide_eq_false_iff_not, Pv.ixN0, Pv.ixN1, Pv.ixN2, true_and, and_true, Pv.cst0, Pv.cst1, Pv.cst2, Pv.cst3, Int.reduceEq, Option.bind_none, Option.bind_some, Pv.kn_go_jump, Pv.kn_go_turn, Pv.kn_go_times, Pv.kn_jump_go, Pv.kn_jump_turn, Pv.kn_jump_times, Pv.kn_turn_go, Pv.kn_turn_jump, Pv.kn_turn_times, Pv.kn_times_go, Pv.kn_times_jump, Pv.kn_times_turn, Pv.kp_go, Pv.kp_jump, Pv.kp_turn, Pv.kp_times, Pv.kz_go, Pv.kz_jump, Pv.kz_turn, Pv.kz_times, cst0]
    exact k _ (Ext.refl _)
  · intro μ1 e1 y1
    have y2 : μ1 r = some (.lst [.bl false, .bl false, .bl false, .bl true, .bl false, .bl false]) := by rw [y1]; rfl
    refine ⟨by decide, fun t ht => ?_⟩
    have hrt : r ≠ t := ne_free y2 ht
    simp only [Pv.seq3, Pv.next3, Pv.never3, Pv.brk3, Pv.cnt3, Pv.drop3, Pv.ret3, Pv.retN3, Pv.ifs3, Pv.gn3, Pv.gnil3, Pv.gcons3, Pv.gtup3, Pv.set3, Pv.asg3, Pv.par3, Pv.sub3, Pv.for3, Pv.is3, Pv.ir3, Pv.ir23, Pv.v3, Pv.c3, Pv.o3, Pv.un3, Pv.b3, Pv.and3, Pv.or3, Pv.not3, Pv.andV3, Pv.orV3, Pv.notV3, Pv.if3, Pv.nil3, Pv.cons3, Pv.tup3, Pv.lst3, Pv.call3, Pv.mt3, Pv.comp3, Pv.tt3, Pv.getI, List.set_cons_zero, List.set_cons_succ, Pv.int2, Pv.int20, Pv.subR, Pv.mulR, Pv.intR, Pv.sl3, Pv.np3, Pv.pt3, Pv.slR, Pv.modR, Pv.fdivR, Pv.powR, Pv.ltR, Pv.leR, Pv.gtR, Pv.geR, Pv.negR, Pv.addR, Pv.eqR_ii, Pv.eqR_ss, Pv.eqR_bb, Pv.eqR_is, Pv.neR_ii, Pv.neR_ss, Pv.neR_bb, Pv.inR, Pv.ixR, Pv.lenR, Pv.absR, Pv.tupR, Pv.sumR, Pv.tyN, Pv.isIn, Pv.isiR, Pv.appR, Pv.extR, Pv.smt3, Pv.joinR, Pv.splitR, Pv.startsR, Pv.pop3, Pv.lrev3, Pv.strR, Pv.start3, List.map_cons, List.map_nil, List.cons_append, List.nil_append, List.length_cons, List.length_nil, List.replicate, Pv.atI0, Pv.atI1, Pv.atI2, Nat.reduceAdd, Nat.reduceSub, Nat.zero_add, reduceIte, Pv.strs?, Bool.not_true, Bool.not_false, Bool.false_eq_true, if_false, if_true, decide_eq_true_eq, Bool.not_eq_true', decide_eq_false_iff_not, Pv.ixN0, Pv.ixN1, Pv.ixN2, true_and, and_true, Pv.cst0, Pv.cst1, Pv.cst2, Pv.cst3, Int.reduceEq, Option.bind_none, Option.bind_some, Pv.kn_go_jump, Pv.kn_go_turn, Pv.kn_go_times, Pv.kn_jump_go, Pv.kn_jump_turn, Pv.kn_jump_times, Pv.kn_turn_go, Pv.kn_turn_jump, Pv.kn_turn_times, Pv.kn_times_go, Pv.kn_times_jump, Pv.kn_times_turn, Pv.kp_go, Pv.kp_jump, Pv.kp_turn, Pv.kp_times, Pv.kz_go, Pv.kz_jump, Pv.kz_turn, Pv.kz_times, updM_ne hrt, y2, updM_same]
    refine ⟨by decide, fun z hz => ?_⟩
    have e2 : Ext μ (updM (updM μ1 t (.lst [.bl true])) z (.lst BL)) := e1.trans ((Ext.new ht).trans (Ext.new hz))
    have d1 : datM (updM (updM μ1 t (.lst [.bl true])) z (.lst BL)) (.ref p) = some (.list [.bool false, .bool false, .bool false, .bool true, .bool false, .bool false, .bool true]) := by
      have := e2 p _ ep
      simp only [datM, this]; rfl
    have d2 : datM (updM (updM μ1 t (.lst [.bl true])) z (.lst BL)) (.ref z) = some (.list [.bool false, .bool false, .bool false, .bool true, .bool false, .bool false, .bool true]) := by simp only [datM, updM_same]; rfl
    have dp : (PyData.list [.bool false, .bool false, .bool false, .bool true, .bool false, .bool false, .bool true]).depth ≤ 64 := by decide
    show eqR (.ref p) (.ref z) (updM (updM μ1 t (.lst [.bl true])) z (.lst BL)) Q
    rw [eqR_dat rfl d1 d2 dp dp]
    have ev : PyData.eqv (.list [.bool false, .bool false, .bool false, .bool true, .bool false, .bool false, .bool true]) (.list [.bool false, .bool false, .bool false, .bool true, .bool false, .bool false, .bool true]) = true := by decide
    rw [ev]
    exact q _ e2
theorem subX_in {cls c : Str} {b : Bool} (h : subX cls c = some b) : c ∈ xnames := by
  unfold subX at h
  split at h
  · next e => simpa using e
  · cases h
noncomputable abbrev Pt := Int × Int
noncomputable def gp (t : List Pt) (i : Nat) : Pt := t.getD i (0, 0)
noncomputable def nx (p q : Pt) : Bool := decide ((if p.1 - q.1 < 0 then -(p.1 - q.1) else p.1 - q.1) + (if p.2 - q.2 < 0 then -(p.2 - q.2) else p.2 - q.2) = 1)
noncomputable def spNx : Sp3 := fun ds μ Q => ∃ p q, ds = [encQ p, encQ q] ∧ Q (.bl (nx p q)) μ
theorem rd_are_next (ds : List D) (μ : Mu) (Q : VK3) (h : spNx ds μ Q) : t_are_next { nx := fun _ μ' => Q .non μ', rt := Q } (start3 N_are_next ds) μ := by
  obtain ⟨p, q, rfl, k⟩ := h
  exact k
theorem at_q {t : List Pt} {i : Int} (h0 : 0 ≤ i) (h1 : i < t.length) : atI (t.map encQ) i = some (encQ (gp t i.toNat)) := by
  have h2 : i.toNat < t.length := by omega
  unfold atI ixN gp
  rw [if_pos h0, if_pos (by rw [List.length_map]; omega)]
  simp [List.getElem?_eq_getElem h2]
theorem mem_rng {lo : Int} {n : Nat} {x : D} (h : x ∈ rngD lo n) : ∃ i : Nat, i < n ∧ x = .int (lo + i) := by
  unfold rngD at h
  obtain ⟨i, hi, rfl⟩ := List.mem_map.mp h
  exact ⟨i, List.mem_range.mp hi, rfl⟩
noncomputable def gI (g : Pt → Pt → D) (t : List Pt) (d : D) : D := match d with
  | .int i => g (gp t (i - 1).toNat) (gp t i.toNat)
  | _ => .non
theorem gI_map (g : Pt → Pt → D) (t : List Pt) (n : Nat) : (rngD 1 n).map (gI g t) = (List.range n).map fun i => g (gp t i) (gp t (i + 1)) := by
  unfold rngD
  rw [List.map_map]
  apply List.map_congr_left
  intro i _
  show g (gp t (1 + (i : Int) - 1).toNat) (gp t (1 + (i : Int)).toNat) = _
  rw [show (1 + (i : Int) - 1).toNat = i by omega, show (1 + (i : Int)).toNat = i + 1 by omega]
theorem comp_adj {sp : Sp3} {p q : Addr} {t : List Pt} {μ : Mu} {Q : VK3} {o : Option D} (g : Pt → Pt → D) (hq : μ q = some (.lst (t.map encQ))) (hl : t.length < 100) (hp : μ p = none)
    (hx : ∀ a b μ' (R : VK3), R (g a b) μ' → sp [encQ a, encQ b] μ' R) (hQ : ∀ μ', Ext μ μ' → μ' p = some (.lst ((List.range (t.length - 1)).map fun i => g (gp t i) (gp t (i + 1)))) → Q (.ref p) μ') :
    cbody (fun _ => True) p (gn3 0) tt3 (call3 sp (cons3 (o3 ixR (v3 1) (o3 subR (v3 0) (c3 (.int 1)))) (cons3 (o3 ixR (v3 1) (v3 0)) nil3))) Q (rngD 1 (((t.map encQ).length : Int) - 1).toNat) [o, some (.ref q)] (updM μ p (.lst [])) := by
  have z : (100 : Nat) < sizeLine := by decide
  have en : (((t.map encQ).length : Int) - 1).toNat = t.length - 1 := by rw [List.length_map]; omega
  rw [en]
  refine comp_map (rest := [some (.ref q)]) (gI g t) hp (by rw [rngD_len]; omega) (fun _ _ => trivial) ?_ ?_
  · intro x hx0 μ2 R ex kk
    obtain ⟨i, hi, rfl⟩ := mem_rng hx0
    show ixR (.ref q) (.int (1 + (i : Int) - 1)) μ2 (fun d μ1 => ixR (.ref q) (.int (1 + (i : Int))) μ1 (fun e μ3 => sp [d, e] μ3 R))
    refine ix_ref (ex _ _ hq) (at_q (i := 1 + (i : Int) - 1) (by omega) (by omega)) ?_
    refine ix_ref (ex _ _ hq) (at_q (i := 1 + (i : Int)) (by omega) (by omega)) ?_
    exact hx _ _ _ _ (kk μ2 (Ext.refl _))
  · intro μ2 ex ep
    rw [gI_map] at ep
    exact hQ μ2 ex ep
noncomputable def isT (t : List Pt) : Bool := decide (1 < t.length) && (List.range (t.length - 1)).all fun i => nx (gp t i) (gp t (i + 1))
noncomputable def along (t : List Pt) : List T3 := (List.range (t.length - 1)).map fun i => btw (gp t i) (gp t (i + 1))
theorem bls_map : ∀ bs : List Bool, bls? (bs.map D.bl) = some bs
  | [] => rfl
  | b :: r => by simp only [List.map_cons, bls?, bls_map r]
theorem all_l {p : Addr} {bs : List Bool} {μ : Mu} {Q : VK3} (h : μ p = some (.lst (bs.map D.bl))) (k : Q (.bl (bs.all id)) μ) : allR [.ref p] μ Q := by
  unfold allR
  simp only [h, bls_map]
  exact k
noncomputable def spTr : Sp3 := fun ds μ Q => ∃ (q : Addr) (t : List Pt), ds = [.ref q] ∧ μ q = some (.lst (t.map encQ)) ∧ t.length < 100 ∧ ∀ μ', Ext μ μ' → Q (.bl (isT t)) μ'
theorem rd_is_trail (ds : List D) (μ : Mu) (Q : VK3) (h : spTr ds μ Q) : t_is_trail spNx { nx := fun _ μ' => Q .non μ', rt := Q } (start3 N_is_trail ds) μ := by
  obtain ⟨q, t, rfl, hq, hl, k⟩ := h
  simp only [Pv.seq3, Pv.next3, Pv.never3, Pv.brk3, Pv.cnt3, Pv.drop3, Pv.ret3, Pv.retN3, Pv.ifs3, Pv.gn3, Pv.gnil3, Pv.gcons3, Pv.gtup3, Pv.set3, Pv.asg3, Pv.par3, Pv.sub3, Pv.for3, Pv.is3, Pv.ir3, Pv.ir23, Pv.v3, Pv.c3, Pv.o3, Pv.un3, Pv.b3, Pv.and3, Pv.or3, Pv.not3, Pv.andV3, Pv.orV3, Pv.notV3, Pv.if3, Pv.nil3, Pv.cons3, Pv.tup3, Pv.lst3, Pv.call3, Pv.mt3, Pv.comp3, Pv.tt3, Pv.getI, List.set_cons_zero, List.set_cons_succ, Pv.int2, Pv.int20, Pv.subR, Pv.mulR, Pv.intR, Pv.sl3, Pv.np3, Pv.pt3, Pv.slR, Pv.modR, Pv.fdivR, Pv.powR, Pv.ltR, Pv.leR, Pv.gtR, Pv.geR, Pv.negR, Pv.addR, Pv.eqR_ii, Pv.eqR_ss, Pv.eqR_bb, Pv.eqR_is, Pv.neR_ii, Pv.neR_ss, Pv.neR_bb, Pv.inR, Pv.ixR, Pv.lenR, Pv.absR, Pv.tupR, Pv.sumR, Pv.tyN, Pv.isIn, Pv.isiR, Pv.appR, Pv.extR, Pv.smt3, Pv.joinR, Pv.splitR, Pv.startsR, Pv.pop3, Pv.lrev3, Pv.strR, Pv.start3, List.map_cons, List.map_nil, List.cons_append, List.nil_append, List.length_cons, List.length_nil, List.replicate, Pv.atI0, Pv.atI1, Pv.atI2, Nat.reduceAdd, Nat.reduceSub, Nat.zero_add, reduceIte, Pv.strs?, Bool.not_true, Bool.not_false, Bool.false_eq_true, if_false, if_true, decide_eq_true_eq, Bool.not_eq_true', decide_eq_false_iff_not, Pv.ixN0, Pv.ixN1, Pv.ixN2, true_and, and_true, Pv.cst0, Pv.cst1, Pv.cst2, Pv.cst3, Int.reduceEq, Option.bind_none, Option.bind_some, Pv.kn_go_jump, Pv.kn_go_turn, Pv.kn_go_times, Pv.kn_jump_go, Pv.kn_jump_turn, Pv.kn_jump_times, Pv.kn_turn_go, Pv.kn_turn_jump, Pv.kn_turn_times, Pv.kn_times_go, Pv.kn_times_jump, Pv.kn_times_turn, Pv.kp_go, Pv.kp_jump, Pv.kp_turn, Pv.kp_times, Pv.kz_go, Pv.kz_jump, Pv.kz_turn, Pv.kz_times, t_is_trail, N_is_trail, hq]
  by_cases c : 1 < t.length
  · rw [if_pos (by rw [List.length_map]; omega)]
    refine ⟨⟨by decide, by decide, by rw [List.length_map]; omega, by rw [List.length_map]; omega⟩, fun p hp => ?_⟩
    refine comp_adj (fun a b => .bl (nx a b)) hq hl hp (fun a b μ' R r => ⟨a, b, rfl, r⟩) fun μ' ex ep => ?_
    refine all_l (bs := (List.range (t.length - 1)).map fun i => nx (gp t i) (gp t (i + 1))) (by rw [ep, List.map_map]; rfl) ?_
    have e := k μ' ex
    unfold isT at e
    rw [decide_eq_true c, Bool.true_and] at e
    rw [List.all_map]
    exact e
  · rw [if_neg (by rw [List.length_map]; omega)]
    have e := k μ (Ext.refl _)
    unfold isT at e
    rw [decide_eq_false c, Bool.false_and] at e
    exact e
noncomputable abbrev Tr := Addr × List Pt
noncomputable def rf (x : Tr) : D := .ref x.1
noncomputable def TRm (μ : Mu) (A : List Tr) : Prop := ∀ x ∈ A, μ x.1 = some (.lst (x.2.map encQ))
noncomputable def sz (A : List Tr) : Nat := (A.map fun x => x.2.length).sum
theorem TRm.ext {μ μ' : Mu} {A : List Tr} (h : TRm μ A) (e : Ext μ μ') : TRm μ' A := fun x hx => e _ _ (h x hx)
theorem sz_cons (x : Tr) (A : List Tr) : sz (x :: A) = x.2.length + sz A := by simp [sz]
theorem sz_app (A B : List Tr) : sz (A ++ B) = sz A + sz B := by simp [sz]
theorem sz_mem {x : Tr} {A : List Tr} (h : x ∈ A) : x.2.length ≤ sz A := by
  induction A with
  | nil => cases h
  | cons y r ih =>
    rw [sz_cons]
    rcases List.mem_cons.mp h with rfl | h
    · omega
    · have := ih h; omega
theorem along_len (t : List Pt) : (along t).length ≤ t.length := by simp [along]
noncomputable def flat (A : List Tr) : List T3 := A.flatMap fun x => along x.2
theorem flat_len (A : List Tr) : (flat A).length ≤ sz A := by
  induction A with
  | nil => exact Nat.le_refl _
  | cons x r ih =>
    have e : flat (x :: r) = along x.2 ++ flat r := rfl
    rw [e, List.length_append, sz_cons]
    have := along_len x.2
    omega
noncomputable def decQ (d : D) : Pt := match d with
  | .tup [.int a, .int b] => (a, b)
  | _ => (0, 0)
theorem dec_map (t : List Pt) : (t.map encQ).map decQ = t := by
  rw [List.map_map]
  exact (List.map_congr_left (fun p _ => rfl)).trans (List.map_id t)
noncomputable def isD (μ : Mu) (d : D) : D := match d with
  | .ref q => match μ q with
    | some (.lst l) => .bl (isT (l.map decQ))
    | _ => .non
  | _ => .non
theorem isD_eq {μ : Mu} {x : Tr} (h : μ x.1 = some (.lst (x.2.map encQ))) : isD μ (rf x) = .bl (isT x.2) := by
  unfold isD rf
  simp only [h, dec_map]
theorem fe_btw {p q : Pt} (h : nx p q = true) : lfe p q = btw p q := by
  obtain ⟨a, b⟩ := p
  obtain ⟨c, d⟩ := q
  unfold nx at h
  rw [decide_eq_true_eq] at h
  dsimp only at h
  have h' : (a = c ∧ (b = d + 1 ∨ d = b + 1)) ∨ (b = d ∧ (a = c + 1 ∨ c = a + 1)) := by split at h <;> split at h <;> omega
  unfold lfe btw mnP mxP ltP
  dsimp only
  rcases h' with ⟨rfl, rfl | rfl⟩ | ⟨rfl, rfl | rfl⟩
  · simp [show d < d + 1 by omega, show ¬ (d + 1 < d) by omega, show ¬ (d + 1 = d) by omega] <;> omega
  · simp [show b < b + 1 by omega, show ¬ (b + 1 < b) by omega, show ¬ (b = b + 1) by omega] <;> omega
  · simp [show c < c + 1 by omega, show ¬ (c + 1 < c) by omega, show ¬ (c + 1 = c) by omega, show ¬ (c = c + 1) by omega]
  · simp [show a < a + 1 by omega, show ¬ (a + 1 < a) by omega, show ¬ (a + 1 = a) by omega, show ¬ (a = a + 1) by omega]
noncomputable def AN (t : List Pt) : Prop := ∀ i, i < t.length - 1 → nx (gp t i) (gp t (i + 1)) = true
theorem isT_iff (t : List Pt) : isT t = true ↔ 1 < t.length ∧ AN t := by
  unfold isT AN
  rw [Bool.and_eq_true, decide_eq_true_eq, List.all_eq_true]
  exact and_congr_right fun _ => ⟨fun h i hi => h i (List.mem_range.mpr hi), fun h i hi => h i (List.mem_range.mp hi)⟩
noncomputable def alI (t : List Pt) (i : Nat) : List T3 := (List.range i).map fun j => btw (gp t j) (gp t (j + 1))
noncomputable def spSt : Sp3 := fun ds μ Q => ∃ (q : Addr) (t : List Pt), ds = [.ref q] ∧ μ q = some (.lst (t.map encQ)) ∧ t.length < 100 ∧ (AN t → ∀ r μ', Ext μ μ' → μ r = none → μ' r = some (.lst ((along t).map encT)) → Q (.ref r) μ') ∧ (¬ AN t → ∀ μ', Ext μ μ' → Q .non μ')
noncomputable def WSt (q f : Addr) (t : List Pt) (μ : Mu) : List D → St3 → Mu → Prop := fun l ρ μ' => ∃ (i : Nat) (k1 k2 k3 : Option D), l = rngD (i : Int) (t.length - 1 - i) ∧ i ≤ t.length - 1 ∧ ρ = [some (.ref q), some (.ref f), k1, k2, k3] ∧ Ext μ μ' ∧ μ' f = some (.lst ((alI t i).map encT)) ∧ ∀ j, j < i → nx (gp t j) (gp t (j + 1)) = true
theorem rd__law_strokes (ds : List D) (μ : Mu) (Q : VK3) (h : spSt ds μ Q) : t__law_strokes spFe { nx := fun _ μ' => Q .non μ', rt := Q } (start3 N__law_strokes ds) μ := by
  obtain ⟨q, t, rfl, hq, hl, kT, kF⟩ := h
  have z : (100 : Nat) < sizeLine := by decide
  refine ⟨(show 0 ≤ sizeLine by decide), fun f hf => ?_⟩
  have hq1 : updM μ f (.lst []) q = some (.lst (t.map encQ)) := Ext.new hf _ _ hq
  conv => whnf
  rw [hq1]
  refine ⟨⟨by rw [List.length_map]; omega, by rw [List.length_map]; omega⟩, ?_⟩
  refine for_inv (WSt q f t μ) ?_ (fun _ _ _ _ => trivial) ?_ ?_
  · refine ⟨0, none, none, none, ?_, Nat.zero_le _, rfl, Ext.new hf, updM_same, fun j hj => absurd hj (Nat.not_lt_zero _)⟩
    rw [List.length_map, show ((t.length : Int) - 1).toNat = t.length - 1 - 0 by omega]
    rfl
  · rintro ρ μ' ⟨i, k1, k2, k3, el, hi, rfl, ex, ef, an⟩
    have ei : i = t.length - 1 := by
      cases c : t.length - 1 - i with
      | zero => omega
      | succ c' => rw [c, rngD_succ] at el; cases el
    subst ei
    exact kT an f μ' ex hf ef
  · rintro d rest ρ μ' ⟨i, k1, k2, k3, el, hi, rfl, ex, ef, an⟩
    cases c : t.length - 1 - i with
    | zero => rw [c] at el; simp [rngD] at el
    | succ c' =>
      rw [c, rngD_succ] at el
      injection el with e1 e2
      subst e1 e2
      have hq2 := ex _ _ hq
      refine ix_ref hq2 (at_q (i := (i : Int)) (by omega) (by omega)) ?_
      refine ix_ref hq2 (at_q (i := (i : Int) + 1) (by omega) (by omega)) ?_
      rw [show ((i : Int)).toNat = i by omega, show ((i : Int) + 1).toNat = i + 1 by omega]
      show ite ((!(nx (gp t i) (gp t (i + 1)))) = true) _ _
      cases e : nx (gp t i) (gp t (i + 1)) with
      | false => exact kF (fun an => by rw [an i (by omega)] at e; cases e) μ' ex
      | true =>
        conv => whnf
        rw [ef]
        refine ⟨_, _, rfl, ?_⟩
        rw [fe_btw e]
        conv => whnf
        rw [ef]
        refine ⟨by rw [List.length_map]; unfold alI; rw [List.length_map, List.length_range]; omega, i + 1, _, _, _, ?_, by omega, rfl, fun a o ha => ?_, ?_, fun j hj => ?_⟩
        · rw [show t.length - 1 - (i + 1) = c' by omega]
          congr 1
        · rw [updM_ne (ne_free ha hf)]; exact ex _ _ ha
        · rw [updM_same]
          unfold alI
          rw [List.range_succ, List.map_append, List.map_append]
          rfl
        · by_cases c2 : j = i
          · rw [c2]; exact e
          · exact an j (by omega)
theorem comp_cp {p c : Addr} {A : List Tr} {μ : Mu} {Q : VK3} {o : Option D} (hp : μ p = some (.lst (A.map rf))) (hA : TRm μ A) (hn : A.length < 100) (hc : μ c = none)
    (k : ∀ (B : List Tr) μ', Ext μ μ' → μ' c = some (.lst (B.map rf)) → TRm μ' B → (B.map (·.1)).Nodup → B.map (·.2) = A.map (·.2) → Q (.ref c) μ') :
    cbody (fun μ' => μ' p = some (.lst (A.map rf))) c (gn3 0) tt3 (call3 listR (cons3 (v3 0) nil3)) Q (A.map rf) [o] (updM μ c (.lst [])) := by
  have z : (100 : Nat) < sizeLine := by decide
  refine ⟨fun r ys ρ μ' => Ext μ μ' ∧ ∃ (A1 A2 B : List Tr), A1 ++ A2 = A ∧ r = A2.map rf ∧ ys = B.map rf ∧ μ' c = some (.lst ys) ∧ TRm μ' B ∧ (B.map (·.1)).Nodup ∧ B.map (·.2) = A1.map (·.2) ∧ (∀ x ∈ B, x.1 ≠ c) ∧ ∃ o', ρ = [o'], ?_, ?_, ?_, ?_⟩
  · exact ⟨Ext.new hc, [], A, [], rfl, rfl, rfl, updM_same, (fun x hx => nomatch hx), List.nodup_nil, rfl, (fun x hx => nomatch hx), o, rfl⟩
  · rintro l ys ρ μ' ⟨ex, A1, A2, B, e, rfl, rfl, ec, _⟩
    exact ⟨ex _ _ hp, ec⟩
  · rintro ys ρ μ' ⟨ex, A1, A2, B, e, el, rfl, ec, tb, nd, es, fr, _⟩
    cases A2 with
    | cons _ _ => cases el
    | nil =>
      rw [List.append_nil] at e
      subst e
      exact k B μ' ex ec tb nd es
  · rintro x r ys ρ μ' ⟨ex, A1, A2, B, e, el, rfl, ec, tb, nd, es, fr, o', rfl⟩
    cases A2 with
    | nil => cases el
    | cons y A2 =>
      rw [List.map_cons] at el
      injection el with e1 e2
      subst e1 e2
      have hy : μ' y.1 = some (.lst (y.2.map encQ)) := ex _ _ (hA y (by rw [← e]; simp))
      refine ⟨?_, ?_⟩
      · have h2 := congrArg List.length es
        have h3 := congrArg List.length e
        simp only [List.length_map, List.length_append, List.length_cons] at h2 h3
        rw [List.length_map]
        omega
      · conv => whnf
        rw [hy]
        intro q hq
        have hqc : c ≠ q := ne_free ec hq
        have old : ∀ a o, μ' a = some o → a ≠ c → updM (updM μ' q (.lst (y.2.map encQ))) c (.lst (B.map rf ++ [.ref q])) a = some o := fun a o h1 h2 => by rw [updM_ne h2, updM_ne (ne_free h1 hq)]; exact h1
        refine ⟨by rw [updM_ne hqc]; exact ec, fun a o ha => old a o (ex _ _ ha) (ne_free ha hc), A1 ++ [y], A2, B ++ [(q, y.2)], by rw [← e]; simp, rfl, by rw [List.map_append]; rfl, updM_same, fun x hx => ?_, ?_, by rw [List.map_append, List.map_append, es]; rfl, fun x hx => ?_, _, rfl⟩
        · rcases List.mem_append.mp hx with h | h
          · exact old _ _ (tb x h) (fr x h)
          · have : x = (q, y.2) := by simpa using h
            subst this
            rw [updM_ne (Ne.symm hqc), updM_same]
        · rw [List.map_append, List.nodup_append]
          refine ⟨nd, by simp, fun a ha b hb => ?_⟩
          have : b = q := by simpa using hb
          subst this
          obtain ⟨x, hx, rfl⟩ := List.mem_map.mp ha
          exact ne_free (tb x hx) hq
        · rcases List.mem_append.mp hx with h | h
          · exact fr x h
          · have : x = (q, y.2) := by simpa using h
            subst this
            exact Ne.symm hqc
theorem ne_zx {μ : Mu} {z q : Addr} {a : Int} {r : List D} {t : List Pt} (h1 : μ z = some (.lst (.int a :: r))) (h2 : μ q = some (.lst (t.map encQ))) : z ≠ q := by
  rintro rfl
  rw [h1] at h2
  cases t with
  | nil => cases h2
  | cons _ _ => cases h2
theorem ne_zf {μ : Mu} {z q : Addr} {a : Int} {r : List D} {A : List Tr} (h1 : μ z = some (.lst (.int a :: r))) (h2 : μ q = some (.lst (A.map rf))) : z ≠ q := by
  rintro rfl
  rw [h1] at h2
  cases A with
  | nil => cases h2
  | cons _ _ => cases h2
theorem ne_fx {μ : Mu} {f q : Addr} {A : List Tr} {t : List Pt} (h1 : μ f = some (.lst (A.map rf))) (h2 : μ q = some (.lst (t.map encQ))) (ht : t ≠ []) : f ≠ q := by
  rintro rfl
  rw [h1] at h2
  cases t with
  | nil => exact ht rfl
  | cons _ _ =>
    cases A with
    | nil => cases h2
    | cons _ _ => cases h2
noncomputable def pQ (p : Pt) : PyData := .tuple [.int p.1, .int p.2]
noncomputable def dP (x : Tr) : PyData := .list (x.2.map pQ)
theorem dats_Q : ∀ L : List Pt, dats (L.map encQ) = some (L.map pQ)
  | [] => rfl
  | t :: r => by simp only [List.map_cons, dats, encQ, dat, dats_Q r, pQ]
theorem depth_Q : ∀ L : List Pt, PyData.depthAll (L.map pQ) ≤ 2
  | [] => by simp [PyData.depthAll]
  | t :: r => by
    have := depth_Q r
    simp only [List.map_cons, PyData.depthAll, pQ, PyData.depth]
    omega
theorem dats_M {μ : Mu} : ∀ {A : List Tr}, TRm μ A → datsM μ (A.map rf) = some (A.map dP)
  | [], _ => rfl
  | x :: r, h => by
    have h1 := h x (List.mem_cons_self ..)
    have h2 := dats_M (A := r) fun y hy => h y (List.mem_cons_of_mem _ hy)
    simp only [List.map_cons, datsM, rf, datM, h1, dats_Q]
    rw [h2]
    rfl
theorem depth_M : ∀ A : List Tr, PyData.depthAll (A.map dP) ≤ 4
  | [] => by simp [PyData.depthAll]
  | t :: r => by
    have := depth_M r
    have := depth_Q t.2
    simp only [List.map_cons, PyData.depthAll, dP, PyData.depth]
    omega
theorem dat_N {μ : Mu} {p : Addr} {A : List Tr} (hp : μ p = some (.lst (A.map rf))) (hA : TRm μ A) : datN μ (.ref p) = some (.list (A.map dP)) := by
  simp only [datN, hp, dats_M hA]
theorem eqv_Q : ∀ L : List Pt, PyData.eqvAll (L.map pQ) (L.map pQ) = true
  | [] => by simp [PyData.eqvAll]
  | t :: r => by
    simp only [List.map_cons, PyData.eqvAll, eqv_Q r, pQ]
    simp [PyData.eqv, PyData.eqvAll]
theorem eqv_M : ∀ A B : List Tr, A.map (·.2) = B.map (·.2) → PyData.eqvAll (A.map dP) (B.map dP) = true
  | [], [], _ => by simp [PyData.eqvAll]
  | [], _ :: _, h => by cases h
  | _ :: _, [], h => by cases h
  | x :: A, y :: B, h => by
    rw [List.map_cons, List.map_cons] at h
    injection h with h1 h2
    simp only [List.map_cons, PyData.eqvAll, eqv_M A B h2, dP, PyData.eqv, h1, eqv_Q, Bool.and_self]
theorem snoc {α : Type} (l : List α) : l = [] ∨ ∃ L b, l = L ++ [b] := by
  rcases List.eq_nil_or_concat l with h | ⟨L, b, h⟩
  · exact .inl h
  · exact .inr ⟨L, b, by rw [h, List.concat_eq_append]⟩
theorem at_last {l : List D} {d : D} : atI (l ++ [d]) (-1) = some d := by
  unfold atI ixN
  rw [if_neg (by decide), if_pos (by rw [List.length_append, List.length_singleton]; omega)]
  show (l ++ [d])[(-1 + ((l ++ [d]).length : Int)).toNat]? = some d
  rw [show (-1 + ((l ++ [d]).length : Int)).toNat = l.length by rw [List.length_append, List.length_singleton]; omega]
  simp
/-! deeds, walked -/
inductive Kd where
  | go
  | jump
  | turn
noncomputable abbrev Kn := Kd × Int
noncomputable def kS : Kd → Str
  | .go => "go"
  | .jump => "jump"
  | .turn => "turn"
noncomputable def encD (d : Kn) : D := .tup [.str (kS d.1), .int d.2]
noncomputable abbrev WS := Pen × List T3
noncomputable def stk (p : Pen) : T3 := ((mnP (p.1, p.2.1) (p.1 + cs p.2.2, p.2.1 + sn p.2.2)).1, (mnP (p.1, p.2.1) (p.1 + cs p.2.2, p.2.1 + sn p.2.2)).2, p.2.2 % 2)
noncomputable def go1 (s : WS) : WS := ((s.1.1 + cs s.1.2.2, s.1.2.1 + sn s.1.2.2, s.1.2.2), s.2 ++ [stk s.1])
noncomputable def goN : Nat → WS → WS
  | 0, s => s
  | n + 1, s => go1 (goN n s)
noncomputable def wk (s : WS) (d : Kn) : WS := match d.1 with
  | .go => goN d.2.toNat s
  | .jump => ((s.1.1 + cs s.1.2.2 * d.2, s.1.2.1 + sn s.1.2.2 * d.2, s.1.2.2), s.2)
  | .turn => ((s.1.1, s.1.2.1, (s.1.2.2 + d.2) % 4), s.2)
noncomputable def wkA (ds : List Kn) : WS := ds.foldl wk (st, [])
theorem wkA_snoc (ds : List Kn) (d : Kn) : wkA (ds ++ [d]) = wk (wkA ds) d := by unfold wkA; rw [List.foldl_append]; rfl
theorem goN_hd (n : Nat) (s : WS) : (goN n s).1.2.2 = s.1.2.2 := by
  induction n with
  | zero => rfl
  | succ n ih => show (goN n s).1.2.2 = _; exact ih
theorem goN_len (n : Nat) (s : WS) : (goN n s).2.length = s.2.length + n := by
  induction n with
  | zero => rfl
  | succ n ih => show ((goN n s).2 ++ [_]).length = _; rw [List.length_append, ih]; rfl
theorem wk_len (s : WS) (d : Kn) : s.2.length ≤ (wk s d).2.length := by
  obtain ⟨k, n⟩ := d
  cases k with
  | go => show _ ≤ (goN n.toNat s).2.length; rw [goN_len]; omega
  | jump => exact Nat.le_refl _
  | turn => exact Nat.le_refl _
noncomputable def OKd (b : Nat) (ds : List Kn) : Prop := ∀ m : Int, (Kd.go, m) ∈ ds → 0 ≤ m ∧ m ≤ b
theorem OKd.mono {b c : Nat} {ds : List Kn} (h : OKd b ds) (k : b ≤ c) : OKd c ds := fun m hm => ⟨(h m hm).1, by have := (h m hm).2; omega⟩
theorem stk_lfe {p : Pen} {q : Pt} (h : Hd p) (e1 : q.1 = p.1 + cs p.2.2) (e2 : q.2 = p.2.1 + sn p.2.2) : stk p = lfe (p.1, p.2.1) q := by
  obtain ⟨x, y, hd⟩ := p
  obtain ⟨a, b⟩ := q
  dsimp only at e1 e2
  subst e1 e2
  unfold Hd at h
  dsimp only at h
  unfold stk lfe mnP mxP ltP
  rcases h with rfl | rfl | rfl | rfl
  · simp [cs, sn, show ¬ (x + 1 < x) by omega, show ¬ (x + 1 = x) by omega, show ¬ (x = x + 1) by omega, show x < x + 1 by omega]
  · simp [cs, sn, show ¬ (y + 1 < y) by omega, show y < y + 1 by omega] <;> omega
  · simp [cs, sn, show (x + -1 < x) by omega, show ¬ (x + -1 = x) by omega, show ¬ (x = x + -1) by omega, show ¬ (x < x + -1) by omega]
  · simp [cs, sn, show (y + -1 < y) by omega, show ¬ (y < y + -1) by omega] <;> omega
theorem nx_hd {p q : Pt} (h : nx p q = true) : ∃ d : Int, (d = 0 ∨ d = 1 ∨ d = 2 ∨ d = 3) ∧ q.1 - p.1 = cs d ∧ q.2 - p.2 = sn d := by
  unfold nx at h
  rw [decide_eq_true_eq] at h
  have h' : (p.1 = q.1 ∧ (p.2 = q.2 + 1 ∨ q.2 = p.2 + 1)) ∨ (p.2 = q.2 ∧ (p.1 = q.1 + 1 ∨ q.1 = p.1 + 1)) := by split at h <;> split at h <;> omega
  rcases h' with ⟨a, b | b⟩ | ⟨a, b | b⟩
  · exact ⟨3, by simp, by simp [cs]; omega, by simp [sn]; omega⟩
  · exact ⟨1, by simp, by simp [cs]; omega, by simp [sn]; omega⟩
  · exact ⟨2, by simp, by simp [cs]; omega, by simp [sn]; omega⟩
  · exact ⟨0, by simp, by simp [cs]; omega, by simp [sn]; omega⟩
/-! the scribe -/
noncomputable def scF (pen : Pen) (q : Addr) : List (Str × D) := [("pen", encP pen), ("deeds", .ref q)]
noncomputable def Sc (μ : Mu) (p q : Addr) (pen : Pen) (ds : List Kn) : Prop := μ p = some (.ins "Scribe" (scF pen q)) ∧ μ q = some (.lst (ds.map encD))
theorem Sc.ne {μ : Mu} {p q : Addr} {pen : Pen} {ds : List Kn} (h : Sc μ p q pen ds) : p ≠ q := by
  rintro rfl
  have e := h.1.symm.trans h.2
  cases e
noncomputable def ScI (μ : Mu) (p q : Addr) (pen : Pen) (S : List T3) (n : Nat) : Prop := ∃ ds, Sc μ p q pen ds ∧ wkA ds = (pen, S) ∧ Hd pen ∧ OKd S.length ds ∧ ds.length ≤ n
theorem ScI.mono {μ : Mu} {p q : Addr} {pen : Pen} {S : List T3} {n m : Nat} (h : ScI μ p q pen S n) (k : n ≤ m) : ScI μ p q pen S m := by
  obtain ⟨ds, h1, h2, h3, h4, h5⟩ := h
  exact ⟨ds, h1, h2, h3, h4, Nat.le_trans h5 k⟩
noncomputable def FrB (p q : Addr) (μ μ' : Mu) : Prop := ∀ a o, a ≠ p → a ≠ q → μ a = some o → μ' a = some o
theorem FrB.trans {p q : Addr} {a b c : Mu} (h : FrB p q a b) (k : FrB p q b c) : FrB p q a c := fun x o n1 n2 e => k x o n1 n2 (h x o n1 n2 e)
theorem FrB.refl (p q : Addr) (μ : Mu) : FrB p q μ μ := fun _ _ _ _ e => e
theorem FrB.p {p q : Addr} {μ : Mu} {o : MO} : FrB p q μ (updM μ p o) := fun a u n1 _ e => by rw [updM_ne n1]; exact e
theorem FrB.q {p q : Addr} {μ : Mu} {o : MO} : FrB p q μ (updM μ q o) := fun a u _ n2 e => by rw [updM_ne n2]; exact e
theorem FrB.ext {p q : Addr} {μ μ' : Mu} (e : Ext μ μ') : FrB p q μ μ' := fun a o _ _ h => e a o h
noncomputable def spInit : Sp3 := fun ds μ Q => ∃ p, ds = [.ref p] ∧ μ p = some (.ins "Scribe" []) ∧ ∀ q μ', μ q = none → ScI μ' p q st [] 0 → FrB p q μ μ' → Q .non μ'
theorem rd_Scribe___init__ (ds : List D) (μ : Mu) (Q : VK3) (h : spInit ds μ Q) : t_Scribe___init__ { nx := fun _ μ' => Q .non μ', rt := Q } (start3 N_Scribe___init__ ds) μ := by
  obtain ⟨p, rfl, hp, k⟩ := h
  conv => whnf
  rw [hp]
  refine ⟨⟨rfl, (show 0 < 1000 by decide)⟩, ?_⟩
  refine ⟨(show 0 ≤ sizeLine by decide), fun q hq => ?_⟩
  have hpq : p ≠ q := ne_free updM_same hq
  have h2 : updM (updM μ p (.ins "Scribe" (putD "pen" k_START []))) q (.lst []) p = some (.ins "Scribe" (putD "pen" k_START [])) := by rw [updM_ne hpq, updM_same]
  conv => whnf
  rw [h2]
  refine ⟨⟨rfl, (show 1 < 1000 by decide)⟩, ?_⟩
  refine k q _ ?_ ⟨[], ⟨updM_same, ?_⟩, rfl, .inl rfl, (fun m hm => nomatch hm), Nat.le_refl _⟩ fun a o n1 n2 e => ?_
  · rw [updM_ne (Ne.symm hpq)] at hq; exact hq
  · rw [updM_ne (Ne.symm hpq), updM_same]; rfl
  · rw [updM_ne n1, updM_ne n2, updM_ne n1]; exact e
noncomputable def spTurn : Sp3 := fun ds μ Q => ∃ (p q : Addr) (pen : Pen) (S : List T3) (n : Nat) (h : Int), ds = [.ref p, .int h] ∧ ScI μ p q pen S n ∧ (h = 0 ∨ h = 1 ∨ h = 2 ∨ h = 3) ∧ n < 9000 ∧ ∀ μ', ScI μ' p q (pen.1, pen.2.1, h) S (n + 1) → FrB p q μ μ' → Q .non μ'
theorem rd_Scribe_turn_to (ds : List D) (μ : Mu) (Q : VK3) (h : spTurn ds μ Q) : t_Scribe_turn_to spLed { nx := fun _ μ' => Q .non μ', rt := Q } (start3 N_Scribe_turn_to ds) μ := by
  obtain ⟨p, q, ⟨x, y, hd⟩, S, n, h, rfl, ⟨ds, sc, wa, hh, ok, hl⟩, h4, hn, k⟩ := h
  have z : (10000 : Nat) < sizeLine := by decide
  obtain ⟨hp, hq⟩ := id sc
  have hpq := sc.ne
  unfold Hd at hh
  dsimp only at hh
  have b1 : 0 ≤ hd ∧ hd < 4 := by clear h4; omega
  have b2 : 0 ≤ h ∧ h < 4 := by clear hh; omega
  have em : (hd + (h - hd) % 4) % 4 = h := by clear h4 hh; omega
  conv => whnf
  rw [hp]
  refine ⟨rfl, ?_⟩
  refine ⟨(show (0 : Int) < 4 by decide), ?_⟩
  show ite ((!decide ((h - hd) % 4 = 0)) = true) _ _
  by_cases c : (h - hd) % 4 = 0
  · rw [decide_eq_true c]
    have e : h = hd := by clear h4 hh; omega
    subst e
    exact k μ ⟨ds, sc, wa, hh, ok, by omega⟩ (FrB.refl p q μ)
  · rw [decide_eq_false c]
    conv => whnf
    rw [hp]
    refine ⟨rfl, ?_⟩
    conv => whnf
    rw [hq]
    refine ⟨z2, ?_⟩
    conv => whnf
    rw [hq]
    refine ⟨by rw [List.length_map]; omega, ?_⟩
    have hp1 : updM μ q (.lst (ds.map encD ++ [.tup [.str "turn", .int ((h - hd) % 4)]])) p = some (.ins "Scribe" (scF (x, y, hd) q)) := by rw [updM_ne hpq]; exact hp
    conv => whnf
    rw [hp1]
    refine ⟨rfl, ?_⟩
    refine ⟨z3, (x, y, hd), (0, 0, (h - hd) % 4), rfl, hh, ?_⟩
    conv => whnf
    rw [hp1]
    refine ⟨⟨rfl, (show 2 < 1000 by decide)⟩, ?_⟩
    have e1 : led (x, y, hd) (0, 0, (h - hd) % 4) = (x, y, h) := by
      unfold led
      dsimp only
      rw [Int.zero_mul, Int.zero_mul, em]
      simp
    rw [e1]
    refine k _ ⟨ds ++ [(.turn, (h - hd) % 4)], ⟨updM_same, ?_⟩, ?_, h4, fun m hm => ?_, by rw [List.length_append, List.length_singleton]; omega⟩ (FrB.q.trans FrB.p)
    · rw [updM_ne (Ne.symm hpq), updM_same, List.map_append]; rfl
    · rw [wkA_snoc, wa]
      show ((x, y, (hd + (h - hd) % 4) % 4), S) = _
      rw [em]
    · rcases List.mem_append.mp hm with hm | hm
      · exact ok m hm
      · rw [List.mem_singleton] at hm; cases hm
/-! jumps and goings -/
noncomputable def spJo : Sp3 := fun ds μ Q => ∃ f : Int, ds = [.int f] ∧ -(10 ^ 22) < f ∧ f < 10 ^ 22 ∧ ∀ (ps : List Int) r μ', ps.sum = f → ps.length ≤ 150 → μ r = none → Ext μ μ' → μ' r = some (.lst (ps.map D.int)) → Q (.ref r) μ'
theorem rep_sum (n : Nat) (a : Int) : (List.replicate n a).sum = n * a := by
  induction n with
  | zero => simp
  | succ n ih => rw [List.replicate_succ, List.sum_cons, ih]; grind
theorem rep_flat (n : Nat) (a : D) : (List.replicate n [a]).flatten = List.replicate n a := by
  induction n with
  | zero => rfl
  | succ n ih => rw [List.replicate_succ, List.flatten_cons, ih]; rfl
theorem rd_jumps_over (ds : List D) (μ : Mu) (Q : VK3) (h : spJo ds μ Q) : t_jumps_over { nx := fun _ μ' => Q .non μ', rt := Q } (start3 N_jumps_over ds) μ := by
  obtain ⟨f, rfl, f0, f1, k⟩ := h
  have z : (1000 : Nat) < sizeLine := by decide
  refine ⟨⟨(show (0 : Int) < 99999999999999999999 by decide), (show (99999999999999999999 : Int) < 2 ^ 120 by decide)⟩, ?_⟩
  show t_jumps_over_r1 { nx := fun _ μ' => Q .non μ', rt := Q } [some (.int f), some (.int ((if f < 0 then -f else f) / 99999999999999999999)), none, none] μ
  have hab : 0 ≤ (if f < 0 then -f else f) ∧ (if f < 0 then -f else f) < 10 ^ 22 := by split <;> omega
  have p0 : 0 ≤ (if f < 0 then -f else f) / 99999999999999999999 := Int.ediv_nonneg hab.1 (by decide)
  have p1 : (if f < 0 then -f else f) / 99999999999999999999 ≤ 100 := by omega
  generalize (if f < 0 then -f else f) / 99999999999999999999 = m at p0 p1
  show ite (decide ((1000 : Int) < m) = true) _ _
  rw [decide_eq_false (show ¬ ((1000 : Int) < m) by omega)]
  have main : ∀ s : Int, (s = 1 ∨ s = -1) → t_jumps_over_r3 { nx := fun _ μ' => Q .non μ', rt := Q } [some (.int f), some (.int m), some (.int s), none] μ := by
    intro s hs
    have ss : -(2 ^ 64) < s ∧ s < 2 ^ 64 := by rcases hs with rfl | rfl <;> decide
    have sm : -(2 ^ 64) < s * m ∧ s * m < 2 ^ 64 := by rcases hs with rfl | rfl <;> omega
    refine ⟨.inl (.inl ss), .inl (.inl sm), ?_⟩
    refine ⟨.inl (.inl ss), (show 1 ≤ sizeLine by decide), fun r1 h1 => ?_⟩
    have g1 : updM μ r1 (.lst [.int (s * 99999999999999999999)]) r1 = some (.lst [.int (s * 99999999999999999999)]) := updM_same
    conv => whnf
    rw [g1]
    refine ⟨⟨⟨by omega, by omega⟩, by simp only [List.length_cons, List.length_nil]; omega⟩, fun r2 h2 => ?_⟩
    rw [rep_flat] at *
    have g2 : updM (updM μ r1 (.lst [.int (s * 99999999999999999999)])) r2 (.lst (List.replicate m.toNat (.int (s * 99999999999999999999)))) r2 = some (.lst ((List.replicate m.toNat (s * 99999999999999999999)).map D.int)) := by rw [updM_same, List.map_replicate]
    have ex2 : Ext μ (updM (updM μ r1 (.lst [.int (s * 99999999999999999999)])) r2 (.lst (List.replicate m.toNat (.int (s * 99999999999999999999))))) := (Ext.new h1).trans (Ext.new h2)
    generalize updM (updM μ r1 (.lst [.int (s * 99999999999999999999)])) r2 (.lst (List.replicate m.toNat (.int (s * 99999999999999999999)))) = ν at g2 ex2
    show ite ((!decide (f - s * m * 99999999999999999999 = 0)) = true) _ _
    have su : (List.replicate m.toNat (s * 99999999999999999999)).sum = s * m * 99999999999999999999 := by rw [rep_sum, show ((m.toNat : Nat) : Int) = m by omega]; grind
    by_cases c : f - s * m * 99999999999999999999 = 0
    · rw [decide_eq_true c]
      refine ⟨(show 0 ≤ sizeLine by decide), fun r3 h3 => ?_⟩
      have g3 := (Ext.new (o := .lst []) h3) _ _ g2
      have g4 : updM ν r3 (.lst []) r3 = some (.lst []) := updM_same
      conv => whnf
      rw [g3, g4]
      refine ⟨by rw [List.length_map, List.length_replicate, List.length_nil]; omega, fun r4 h4 => ?_⟩
      exact k (List.replicate m.toNat (s * 99999999999999999999)) r4 _ (by rw [su]; omega) (by rw [List.length_replicate]; omega) ((ex2.trans (Ext.new h3)).free h4) ((ex2.trans (Ext.new h3)).trans (Ext.new h4)) (by rw [updM_same, List.append_nil])
    · rw [decide_eq_false c]
      refine ⟨(show 1 ≤ sizeLine by decide), fun r3 h3 => ?_⟩
      have g3 := (Ext.new (o := .lst [.int (f - s * m * 99999999999999999999)]) h3) _ _ g2
      have g4 : updM ν r3 (.lst [.int (f - s * m * 99999999999999999999)]) r3 = some (.lst [.int (f - s * m * 99999999999999999999)]) := updM_same
      conv => whnf
      rw [g3, g4]
      refine ⟨by rw [List.length_map, List.length_replicate, List.length_singleton]; omega, fun r4 h4 => ?_⟩
      exact k (List.replicate m.toNat (s * 99999999999999999999) ++ [f - s * m * 99999999999999999999]) r4 _ (by rw [List.sum_append, su]; simp only [List.sum_cons, List.sum_nil]; generalize s * m * 99999999999999999999 = w; omega) (by rw [List.length_append, List.length_replicate, List.length_singleton]; omega) ((ex2.trans (Ext.new h3)).free h4) ((ex2.trans (Ext.new h3)).trans (Ext.new h4)) (by rw [updM_same, List.map_append]; rfl)
  show ite (decide (0 < f) = true) _ _
  by_cases c : 0 < f
  · rw [decide_eq_true c]
    exact main 1 (.inl rfl)
  · rw [decide_eq_false c]
    exact main (-1) (.inr rfl)
noncomputable def spJump : Sp3 := fun ds μ Q => ∃ (p q : Addr) (pen : Pen) (S : List T3) (n : Nat) (h f : Int), ds = [.ref p, .int h, .int f] ∧ ScI μ p q pen S n ∧ (h = 0 ∨ h = 1) ∧ (-(10 ^ 22) < f ∧ f < 10 ^ 22) ∧ n < 8000 ∧ ∀ μ' h', ScI μ' p q (pen.1 + f * cs h, pen.2.1 + f * sn h, h') S (n + 200) → FrB p q μ μ' → Q .non μ'
theorem wk_jumps (h : Int) (S : List T3) : ∀ (ps : List Int) (x y : Int), (ps.map fun n => ((Kd.jump, n) : Kn)).foldl wk ((x, y, h), S) = ((x + cs h * ps.sum, y + sn h * ps.sum, h), S)
  | [], x, y => by simp
  | n :: ps, x, y => by
    rw [List.map_cons, List.foldl_cons]
    show (ps.map _).foldl wk ((x + cs h * n, y + sn h * n, h), S) = _
    rw [wk_jumps h S ps, List.sum_cons]
    grind
theorem rd_Scribe_jump (ds : List D) (μ : Mu) (Q : VK3) (h : spJump ds μ Q) : t_Scribe_jump spTurn spJo spLed { nx := fun _ μ' => Q .non μ', rt := Q } (start3 N_Scribe_jump ds) μ := by
  obtain ⟨p, q, ⟨x, y, hd⟩, S, n, h, f, rfl, hI, h2, hf, hn, k⟩ := h
  have z : (10000 : Nat) < sizeLine := by decide
  show ite ((!decide (f = 0)) = true) _ _
  by_cases c : f = 0
  · rw [decide_eq_true c]
    subst c
    refine k μ hd ?_ (FrB.refl p q μ)
    rw [Int.zero_mul, Int.zero_mul, Int.add_zero, Int.add_zero]
    exact hI.mono (by omega)
  · rw [decide_eq_false c]
    obtain ⟨ds0, sc0, _⟩ := id hI
    obtain ⟨hp0, _⟩ := id sc0
    conv => whnf
    rw [hp0]
    refine ⟨⟨rfl, rfl⟩, ?_⟩
    refine ⟨p, q, (x, y, hd), S, n, h, rfl, hI, by omega, by omega, fun μ1 hI1 fr1 => ?_⟩
    obtain ⟨ds1, sc1, wa1, hh1, ok1, hl1⟩ := hI1
    obtain ⟨hp1, hq1⟩ := id sc1
    have hpq := sc1.ne
    conv => whnf
    rw [hp1]
    refine ⟨rfl, ?_⟩
    conv => whnf
    rw [hq1]
    refine ⟨f, rfl, hf.1, hf.2, fun ps r μ2 sm pl hr ex2 er => ?_⟩
    conv => whnf
    rw [er]
    intro c0 hc0
    refine comp_map (rest := []) (fun d => .tup [.str "jump", d]) hc0 (by rw [List.length_map]; omega) (fun μ' ex => ex _ _ er) ?_ ?_
    · intro d hd0 μ' R ex kk
      exact ⟨z2, kk _ (Ext.refl _)⟩
    · intro μ3 ex3 ec3
      have hq3 := ex3 _ _ (ex2 _ _ hq1)
      have hp3 := ex3 _ _ (ex2 _ _ hp1)
      conv => whnf
      rw [hq3, ec3]
      refine ⟨by rw [List.length_map, List.length_map, List.length_map]; omega, ?_⟩
      have ej : (ps.map D.int).map (fun d => D.tup [.str "jump", d]) = (ps.map fun n => ((Kd.jump, n) : Kn)).map encD := by rw [List.map_map, List.map_map]; rfl
      rw [ej, ← List.map_append]
      have hp4 : updM μ3 q (.lst ((ds1 ++ ps.map fun n => ((Kd.jump, n) : Kn)).map encD)) p = some (.ins "Scribe" (scF (x, y, h) q)) := by rw [updM_ne hpq]; exact hp3
      conv => whnf
      rw [hp4]
      refine ⟨rfl, ?_⟩
      refine ⟨z3, (x, y, h), (f, 0, 0), rfl, hh1, ?_⟩
      conv => whnf
      rw [hp4]
      refine ⟨⟨rfl, (show 2 < 1000 by decide)⟩, ?_⟩
      have e1 : led (x, y, h) (f, 0, 0) = (x + f * cs h, y + f * sn h, h) := by
        unfold led
        dsimp only
        rw [Int.zero_mul, Int.zero_mul, show (h + 0) % 4 = h by omega]
        simp
      rw [e1]
      refine k _ h ⟨ds1 ++ ps.map fun n => ((Kd.jump, n) : Kn), ⟨updM_same, ?_⟩, ?_, hh1, fun m hm => ?_, by rw [List.length_append, List.length_map]; omega⟩ (((fr1.trans (FrB.ext ex2)).trans (FrB.ext ex3)).trans (FrB.q.trans FrB.p))
      · rw [updM_ne (Ne.symm hpq), updM_same]
      · have wa2 : ds1.foldl wk (st, []) = ((x, y, h), S) := wa1
        unfold wkA
        rw [List.foldl_append, wa2, wk_jumps, sm]
        grind
      · rcases List.mem_append.mp hm with hm | hm
        · exact ok1 m hm
        · obtain ⟨n, _, e⟩ := List.mem_map.mp hm
          cases e
noncomputable def spJt : Sp3 := fun ds μ Q => ∃ (p q : Addr) (pen : Pen) (S : List T3) (n : Nat) (pt : Pt), ds = [.ref p, encQ pt] ∧ ScI μ p q pen S n ∧ (-(10 ^ 21) < pt.1 ∧ pt.1 < 10 ^ 21 ∧ -(10 ^ 21) < pt.2 ∧ pt.2 < 10 ^ 21) ∧ (-(10 ^ 21) < pen.1 ∧ pen.1 < 10 ^ 21 ∧ -(10 ^ 21) < pen.2.1 ∧ pen.2.1 < 10 ^ 21) ∧ n < 7000 ∧ ∀ μ' h', ScI μ' p q (pt.1, pt.2, h') S (n + 400) → FrB p q μ μ' → Q .non μ'
theorem rd_Scribe_jump_to (ds : List D) (μ : Mu) (Q : VK3) (h : spJt ds μ Q) : t_Scribe_jump_to spJump { nx := fun _ μ' => Q .non μ', rt := Q } (start3 N_Scribe_jump_to ds) μ := by
  obtain ⟨p, q, ⟨x, y, hd⟩, S, n, ⟨a, b⟩, rfl, hI, b1, b2, hn, k⟩ := h
  dsimp only at b1 b2
  obtain ⟨ds0, ⟨hp0, _⟩, _⟩ := id hI
  conv => whnf
  rw [hp0]
  refine ⟨⟨rfl, rfl⟩, ?_⟩
  conv => whnf
  rw [hp0]
  refine ⟨rfl, ?_⟩
  refine ⟨p, q, (x, y, hd), S, n, 0, a - x, rfl, hI, .inl rfl, by omega, by omega, fun μ1 h1 hI1 fr1 => ?_⟩
  have e1 : ((x, y, hd).1 + (a - x) * cs 0, (x, y, hd).2.1 + (a - x) * sn 0, h1) = ((a, y, h1) : Pen) := by simp [cs, sn]; omega
  rw [e1] at hI1
  obtain ⟨ds1, ⟨hp1, _⟩, _⟩ := id hI1
  conv => whnf
  rw [hp1]
  refine ⟨⟨rfl, rfl⟩, ?_⟩
  conv => whnf
  rw [hp1]
  refine ⟨rfl, ?_⟩
  refine ⟨p, q, (a, y, h1), S, n + 200, 1, b - y, rfl, hI1, .inr rfl, by omega, by omega, fun μ2 h2 hI2 fr2 => ?_⟩
  have e2 : ((a, y, h1).1 + (b - y) * cs 1, (a, y, h1).2.1 + (b - y) * sn 1, h2) = ((a, b, h2) : Pen) := by simp [cs, sn]; omega
  rw [e2] at hI2
  exact k μ2 h2 hI2 (fr1.trans fr2)
theorem ix_ok {d : Int} (h : d = 0 ∨ d = 1 ∨ d = 2 ∨ d = 3) : ∃ j : Nat, (j : Int) = d ∧ ixD [.tuple [.int 1, .int 0], .tuple [.int 0, .int 1], .tuple [.int (-1), .int 0], .tuple [.int 0, .int (-1)]] (.tuple [.int (cs d), .int (sn d)]) j := by
  rcases h with rfl | rfl | rfl | rfl
  · exact ⟨0, rfl, _, _, _, _, rfl, .inl ⟨rfl, by decide⟩⟩
  · exact ⟨1, rfl, _, _, _, _, rfl, .inr (.inl ⟨rfl, by decide, by decide⟩)⟩
  · exact ⟨2, rfl, _, _, _, _, rfl, .inr (.inr (.inl ⟨rfl, by decide, by decide, by decide⟩))⟩
  · exact ⟨3, rfl, _, _, _, _, rfl, .inr (.inr (.inr ⟨rfl, by decide, by decide, by decide, by decide⟩))⟩
noncomputable def spGo : Sp3 := fun ds μ Q => ∃ (p q : Addr) (pen : Pen) (S : List T3) (n : Nat) (pt : Pt), ds = [.ref p, encQ pt] ∧ ScI μ p q pen S n ∧ nx (pen.1, pen.2.1) pt = true ∧ n < 7000 ∧ ∀ μ' h', ScI μ' p q (pt.1, pt.2, h') (S ++ [lfe (pen.1, pen.2.1) pt]) (n + 2) → FrB p q μ μ' → Q .non μ'
theorem go_end {p q : Addr} {x y h : Int} {S : List T3} {n : Nat} {pt : Pt} {ds : List Kn} {m : Int} {Q : VK3} {ν : Mu} {o1 : Option D} (hp : ν p = some (.ins "Scribe" (scF (x, y, h) q))) (hq : ν q = some (.lst (ds.map encD))) (hpq : p ≠ q) (hh : h = 0 ∨ h = 1 ∨ h = 2 ∨ h = 3)
    (e1 : pt.1 = x + cs h) (e2 : pt.2 = y + sn h) (wa : wkA (ds ++ [(.go, m)]) = go1 ((x, y, h), S)) (ok : OKd S.length ds) (m0 : 0 ≤ m) (m1 : m ≤ S.length + 1) (hl : ds.length ≤ n + 1) (hn : n < 7000)
    (k : ∀ μ' h', ScI μ' p q (pt.1, pt.2, h') (S ++ [lfe (x, y) pt]) (n + 2) → FrB p q ν μ' → Q .non μ') :
    t_Scribe_go_to_r3 spTurn spLed { nx := fun _ μ' => Q .non μ', rt := Q } [some (.ref p), o1, some (.int m)] ν := by
  have z : (10000 : Nat) < sizeLine := by decide
  conv => whnf
  rw [hp]
  refine ⟨rfl, ?_⟩
  conv => whnf
  rw [hq]
  refine ⟨z2, ?_⟩
  conv => whnf
  rw [hq]
  refine ⟨by rw [List.length_map]; omega, ?_⟩
  have hp1 : updM ν q (.lst (ds.map encD ++ [.tup [.str "go", .int m]])) p = some (.ins "Scribe" (scF (x, y, h) q)) := by rw [updM_ne hpq]; exact hp
  conv => whnf
  rw [hp1]
  refine ⟨rfl, ?_⟩
  refine ⟨z3, (x, y, h), (1, 0, 0), rfl, hh, ?_⟩
  conv => whnf
  rw [hp1]
  refine ⟨⟨rfl, (show 2 < 1000 by decide)⟩, ?_⟩
  have e3 : led (x, y, h) (1, 0, 0) = (pt.1, pt.2, h) := by
    unfold led
    dsimp only
    rw [e1, e2, Int.zero_mul, Int.zero_mul, Int.one_mul, Int.one_mul, show (h + 0) % 4 = h by omega]
    simp
  rw [e3]
  have ws : wkA (ds ++ [(.go, m)]) = ((pt.1, pt.2, h), S ++ [lfe (x, y) pt]) := by
    rw [wa]
    unfold go1
    rw [stk_lfe (p := (x, y, h)) (q := pt) hh e1 e2]
    dsimp only
    rw [← e1, ← e2]
  refine k _ h ⟨ds ++ [(.go, m)], ⟨updM_same, ?_⟩, ws, hh, fun m' hm => ?_, by rw [List.length_append, List.length_singleton]; omega⟩ (FrB.q.trans FrB.p)
  · rw [updM_ne (Ne.symm hpq), updM_same, List.map_append]; rfl
  · rw [List.length_append, List.length_singleton]
    rcases List.mem_append.mp hm with hm | hm
    · have := ok m' hm; omega
    · rw [List.mem_singleton] at hm
      cases hm
      omega
theorem kS_go (k : Kd) : decide (kS k = "go") = (match k with | .go => true | _ => false) := by cases k <;> decide
theorem rd_Scribe_go_to (ds : List D) (μ : Mu) (Q : VK3) (h : spGo ds μ Q) : t_Scribe_go_to spTurn spLed { nx := fun _ μ' => Q .non μ', rt := Q } (start3 N_Scribe_go_to ds) μ := by
  obtain ⟨p, q, ⟨x, y, hd⟩, S, n, ⟨a, b⟩, rfl, hI, hx, hn, k⟩ := h
  obtain ⟨h, h4, c1, c2⟩ := nx_hd hx
  dsimp only at c1 c2
  obtain ⟨ds0, ⟨hp0, _⟩, _⟩ := id hI
  conv => whnf
  rw [hp0]
  refine ⟨⟨rfl, rfl⟩, ?_⟩
  conv => whnf
  rw [hp0]
  refine ⟨rfl, ?_⟩
  conv => whnf
  rw [hp0]
  refine ⟨rfl, ?_⟩
  refine ⟨z2, ?_⟩
  obtain ⟨j, ej, hj⟩ := ix_ok h4
  rw [← c1, ← c2] at hj
  refine ⟨⟨(by decide), (by simp [PyData.depth, PyData.depthAll])⟩, j, hj, ?_⟩
  rw [ej]
  refine ⟨p, q, (x, y, hd), S, n, h, rfl, hI, h4, by omega, fun μ1 hI1 fr1 => ?_⟩
  obtain ⟨ds1, sc1, wa1, hh1, ok1, hl1⟩ := hI1
  obtain ⟨hp1, hq1⟩ := id sc1
  have hpq := sc1.ne
  have e1 : a = x + cs h := by omega
  have e2 : b = y + sn h := by omega
  have fin : ∀ (ds2 : List Kn) (m : Int) (ν : Mu), ν p = some (.ins "Scribe" (scF (x, y, h) q)) → ν q = some (.lst (ds2.map encD)) → FrB p q μ ν → wkA (ds2 ++ [(.go, m)]) = go1 ((x, y, h), S) → OKd S.length ds2 → 0 ≤ m → m ≤ S.length + 1 → ds2.length ≤ n + 1 →
      t_Scribe_go_to_r3 spTurn spLed { nx := fun _ μ' => Q .non μ', rt := Q } [some (.ref p), some (encQ (a, b)), some (.int m)] ν := fun ds2 m ν g1 g2 fr g3 g4 g5 g6 g7 => go_end (pt := (a, b)) g1 g2 hpq h4 e1 e2 g3 g4 g5 g6 g7 hn fun μ' h' i f => k μ' h' i (fr.trans f)
  have one : t_Scribe_go_to_r3 spTurn spLed { nx := fun _ μ' => Q .non μ', rt := Q } [some (.ref p), some (encQ (a, b)), some (.int 1)] μ1 := fin ds1 1 μ1 hp1 hq1 fr1 (by rw [wkA_snoc, wa1]; rfl) ok1 (by decide) (by omega) hl1
  conv => whnf
  rw [hp1]
  refine ⟨rfl, ?_⟩
  conv => whnf
  rw [hq1]
  rcases snoc ds1 with rfl | ⟨d0, d, rfl⟩
  · exact one
  · have hln : ((d0 ++ [d]).map encD).length = d0.length + 1 := by simp
    show ite (decide ((0 : Int) < (((d0 ++ [d]).map encD).length : Int)) = true) _ _
    rw [decide_eq_true (by rw [hln]; omega)]
    have el : atI ((d0 ++ [d]).map encD) (-1) = some (encD d) := by rw [List.map_append]; exact at_last
    conv => whnf
    rw [hp1]
    refine ⟨rfl, ?_⟩
    conv => whnf
    rw [hq1]
    dsimp only
    rw [el]
    dsimp only
    obtain ⟨kd, m⟩ := d
    show ite (decide (kS kd = "go") = true) _ _
    rw [kS_go]
    cases kd with
    | jump => exact one
    | turn => exact one
    | go =>
      conv => whnf
      rw [hp1]
      refine ⟨rfl, ?_⟩
      conv => whnf
      rw [hq1]
      have er : ((d0 ++ [(Kd.go, m)]).map encD).reverse = encD (.go, m) :: (d0.map encD).reverse := by rw [List.map_append, List.reverse_append]; rfl
      conv => whnf
      rw [er]
      dsimp only
      rw [List.reverse_reverse]
      have om := ok1 m (List.mem_append.mpr (.inr (List.mem_singleton.mpr rfl)))
      have l0 : d0.length ≤ n := by rw [List.length_append, List.length_singleton] at hl1; omega
      refine fin d0 (m + 1) _ (by rw [updM_ne hpq]; exact hp1) updM_same (fr1.trans FrB.q) ?_ (fun m' hm => ok1 m' (List.mem_append.mpr (.inl hm))) (by omega) (by omega) (by omega)
      rw [wkA_snoc] at wa1 ⊢
      show goN (m + 1).toNat (wkA d0) = _
      rw [show (m + 1).toNat = m.toNat + 1 by omega]
      show go1 (goN m.toNat (wkA d0)) = _
      have wa2 : goN m.toNat (wkA d0) = ((x, y, h), S) := wa1
      rw [wa2]
/-! the deeds of trails -/
noncomputable def Bd (t : List Pt) : Prop := ∀ q ∈ t, -(10 ^ 21) < q.1 ∧ q.1 < 10 ^ 21 ∧ -(10 ^ 21) < q.2 ∧ q.2 < 10 ^ 21
theorem gp_mem {t : List Pt} {i : Nat} (h : i < t.length) : gp t i ∈ t := by
  unfold gp
  rw [List.getD_eq_getElem?_getD, List.getElem?_eq_getElem h]
  exact List.getElem_mem h
noncomputable def spxDo (XE : XE3) : Sp3 := fun ds μ Q => ∃ (p : Addr) (A : List Tr), ds = [.ref p] ∧ μ p = some (.lst (A.map rf)) ∧ TRm μ A ∧ A.length < 10 ∧ sz A < 64 ∧ (∀ x ∈ A, Bd x.2) ∧
  ((∀ x ∈ A, isT x.2 = true) → ∀ q ds μ', Ext μ μ' → μ' q = some (.lst (ds.map encD)) → (wkA ds).2 = flat A → OKd (flat A).length ds → ds.length ≤ 7000 → Q (.ref q) μ') ∧ (¬ (∀ x ∈ A, isT x.2 = true) → ∀ μ', Ext μ μ' → XE "NoPicture" μ')
noncomputable def PB (pen : Pen) : Prop := -(10 ^ 21) < pen.1 ∧ pen.1 < 10 ^ 21 ∧ -(10 ^ 21) < pen.2.1 ∧ pen.2.1 < 10 ^ 21
noncomputable def WDo (p s q : Addr) (A : List Tr) (μ : Mu) : List D → St3 → Mu → Prop := fun l ρ μ' => ∃ (B : List Tr) (S : List T3) (pen : Pen) (n : Nat) (d2 d3 : Option D), l = B.map rf ∧ ρ = [some (.ref p), some (.ref s), d2, d3] ∧ FrB s q μ μ' ∧ ScI μ' s q pen S n ∧ S ++ flat B = flat A ∧ (∀ x ∈ B, x ∈ A) ∧ PB pen ∧ n + 600 * B.length ≤ 6000
noncomputable def WIn (p s q r : Addr) (S : List T3) (y : Tr) (n : Nat) (μ : Mu) : List D → St3 → Mu → Prop := fun l ρ μ' => ∃ (i : Nat) (h : Int) (d3 : Option D), l = (y.2.drop (i + 1)).map encQ ∧ i < y.2.length ∧ ρ = [some (.ref p), some (.ref s), some (rf y), d3] ∧ FrB s q μ μ' ∧ ScI μ' s q ((gp y.2 i).1, (gp y.2 i).2, h) (S ++ alI y.2 i) (n + 400 + 2 * i)
theorem cut1 {t : List Pt} (h : 0 < t.length) : cut3 (t.map encQ) (some 1) none = (t.drop 1).map encQ := by
  unfold cut3 sIx3
  dsimp only
  rw [if_neg (by decide), List.length_map, show min (1 : Int).toNat t.length = 1 by simp; omega, List.map_drop]
  exact List.take_of_length_le (by simp)
theorem drop_gp {t : List Pt} {i : Nat} (h : i < t.length) : t.drop i = gp t i :: t.drop (i + 1) := by
  unfold gp
  rw [List.getD_eq_getElem?_getD, List.getElem?_eq_getElem h]
  exact (List.getElem_cons_drop h).symm
theorem rd_deeds_of (XE : XE3) (ds : List D) (μ : Mu) (Q : VK3) (h : spxDo XE ds μ Q) : t_deeds_of XE spInit spGo spJt spTr { nx := fun _ μ' => Q .non μ', rt := Q } (start3 N_deeds_of ds) μ := by
  obtain ⟨p, A, rfl, hp, hA, hn, hz, hb, kT, kF⟩ := h
  have z : (100 : Nat) < sizeLine := by decide
  conv => whnf
  rw [hp]
  intro c hc
  refine comp_map (rest := []) (isD μ) hc (by rw [List.length_map]; omega) (fun μ' ex => ex _ _ hp) ?_ ?_
  · intro x hx μ2 R ex kk
    obtain ⟨y, hy, rfl⟩ := List.mem_map.mp hx
    rw [isD_eq (hA y hy)] at kk
    exact ⟨y.1, y.2, rfl, ex _ _ (hA y hy), by have := sz_mem hy; omega, kk⟩
  · intro μ1 ex ec
    have e : (A.map rf).map (isD μ) = (A.map fun x => isT x.2).map D.bl := by
      rw [List.map_map, List.map_map]
      exact List.map_congr_left fun x hx => isD_eq (hA x hx)
    rw [e] at ec
    dsimp only [nil3]
    refine all_l ec ?_
    have ea : (A.map fun x => isT x.2).all id = true ↔ ∀ x ∈ A, isT x.2 = true := by simp
    generalize (A.map fun x => isT x.2).all id = b at ea
    cases b with
    | false => exact ⟨(show 1 ≤ sizeLine by decide), kF (fun h => nomatch (ea.mpr h)) μ1 ex⟩
    | true =>
      have al := ea.mp rfl
      intro s hs
      refine ⟨s, rfl, updM_same, fun q μ2 hq hI fr => ⟨rfl, ?_⟩⟩
      have hsq : s ≠ q := fun e => by rw [e, updM_same] at hq; cases hq
      have hq1 : μ1 q = none := by rw [updM_ne (Ne.symm hsq)] at hq; exact hq
      have ext : ∀ {μ'}, FrB s q μ2 μ' → Ext μ1 μ' := fun f a o h => f a o (ne_free h hs) (ne_free h hq1) (fr a o (ne_free h hs) (ne_free h hq1) (by rw [updM_ne (ne_free h hs)]; exact h))
      have hp2 := ext (FrB.refl s q μ2) _ _ (ex _ _ hp)
      conv => whnf
      rw [hp2]
      refine for_inv (WDo p s q A μ2) ?_ ?_ ?_ ?_
      · exact ⟨A, [], st, 0, none, none, rfl, rfl, FrB.refl s q μ2, hI, rfl, fun _ h => h, ⟨by decide, by decide, by decide, by decide⟩, by omega⟩
      · rintro l ρ μ3 ⟨B, S, pen, n, d2, d3, rfl, rfl, fr3, _⟩
        exact ext fr3 _ _ (ex _ _ hp)
      · rintro ρ μ3 ⟨B, S, pen, n, d2, d3, el, rfl, fr3, hI3, fl, _, _, hm⟩
        cases B with
        | cons _ _ => cases el
        | nil =>
          have fl2 : S = flat A := by rw [← fl]; exact (List.append_nil S).symm
          obtain ⟨ds, ⟨hs3, hq3⟩, wa, _, ok, hl⟩ := hI3
          conv => whnf
          rw [hs3]
          refine ⟨rfl, ?_⟩
          subst fl2
          exact kT al q ds μ3 (ex.trans (ext fr3)) hq3 (by rw [wa]) ok (by omega)
      · rintro d rest ρ μ3 ⟨B, S, pen, n, d2, d3, el, rfl, fr3, hI3, fl, hB, hpb, hm⟩
        cases B with
        | nil => cases el
        | cons y B =>
          rw [List.map_cons] at el
          injection el with e1 e2
          subst e1 e2
          rw [List.length_cons] at hm
          have hy := hB y (List.mem_cons_self ..)
          have hy3 := ext fr3 _ _ (ex _ _ (hA y hy))
          obtain ⟨l1, an⟩ := (isT_iff _).mp (al y hy)
          have ly := sz_mem hy
          obtain ⟨ds0, ⟨hs3, hq3⟩, _⟩ := id hI3
          have a0 := at_q (t := y.2) (i := 0) (by decide) (by omega)
          conv => whnf
          rw [hs3]
          refine ⟨⟨rfl, rfl⟩, ?_⟩
          conv => whnf
          rw [hy3]
          dsimp only
          rw [a0]
          dsimp only
          refine ⟨s, q, pen, S, n, gp y.2 0, rfl, hI3, hb y hy _ (gp_mem (by omega)), hpb, by omega, fun μ4 h4 hI4 fr4 => ?_⟩
          have hys : y.1 ≠ s := ne_free (ex _ _ (hA y hy)) hs
          have hyq : y.1 ≠ q := ne_free (ex _ _ (hA y hy)) hq1
          have hy4 := fr4 _ _ hys hyq hy3
          conv => whnf
          rw [hy4]
          intro r hr
          obtain ⟨ds4, ⟨hs4, hq4⟩, _⟩ := id hI4
          have hrs : r ≠ s := Ne.symm (ne_free hs4 hr)
          have hrq : r ≠ q := Ne.symm (ne_free hq4 hr)
          rw [cut1 (by omega)]
          have hr5 : updM μ4 r (.lst ((y.2.drop 1).map encQ)) r = some (.lst ((y.2.drop 1).map encQ)) := updM_same
          conv => whnf
          rw [hr5]
          refine for_inv (WIn p s q r S y n (updM μ4 r (.lst ((y.2.drop 1).map encQ)))) ?_ ?_ ?_ ?_
          · refine ⟨0, h4, d3, rfl, by omega, rfl, FrB.refl s q _, ?_⟩
            have e0 : S ++ alI y.2 0 = S := List.append_nil S
            rw [e0]
            obtain ⟨ds5, ⟨g1, g2⟩, g3⟩ := hI4
            exact ⟨ds5, ⟨(Ext.new hr) _ _ g1, (Ext.new hr) _ _ g2⟩, g3⟩
          · rintro l ρ μ5 ⟨i, h5, d5, _, _, rfl, fr5, _⟩
            exact fr5 _ _ hrs hrq updM_same
          · rintro ρ μ5 ⟨i, h5, d5, el, hi, rfl, fr5, hI5⟩
            have ei : i + 1 = y.2.length := by
              have := congrArg List.length el
              simp only [List.length_nil, List.length_map, List.length_drop] at this
              omega
            have ea : alI y.2 i = along y.2 := by unfold alI along; rw [show y.2.length - 1 = i by omega]
            rw [ea] at hI5
            exact ⟨B, S ++ along y.2, ((gp y.2 i).1, (gp y.2 i).2, h5), n + 400 + 2 * i, _, _, rfl, rfl, ((fr3.trans fr4).trans (FrB.ext (Ext.new hr))).trans fr5, hI5, by rw [List.append_assoc]; exact fl, fun x hx => hB x (List.mem_cons_of_mem _ hx), hb y hy _ (gp_mem hi), by omega⟩
          · rintro d rest ρ μ5 ⟨i, h5, d5, el, hi, rfl, fr5, hI5⟩
            by_cases hi2 : i + 1 < y.2.length
            · rw [drop_gp hi2, List.map_cons] at el
              injection el with e1 e2
              subst e1 e2
              obtain ⟨ds5, ⟨hs5, hq5⟩, _⟩ := id hI5
              conv => whnf
              rw [hs5]
              refine ⟨⟨rfl, rfl⟩, ?_⟩
              have nxi := an i (by omega)
              refine ⟨s, q, _, _, _, gp y.2 (i + 1), rfl, hI5, nxi, by omega, fun μ6 h6 hI6 fr6 => ?_⟩
              refine ⟨i + 1, h6, _, rfl, hi2, rfl, fr5.trans fr6, ?_⟩
              have ea : S ++ alI y.2 (i + 1) = S ++ alI y.2 i ++ [lfe ((gp y.2 i).1, (gp y.2 i).2) (gp y.2 (i + 1))] := by
                have : lfe ((gp y.2 i).1, (gp y.2 i).2) (gp y.2 (i + 1)) = btw (gp y.2 i) (gp y.2 (i + 1)) := fe_btw nxi
                rw [this]
                unfold alI
                rw [List.range_succ, List.map_append, ← List.append_assoc]
                rfl
              rw [ea]
              exact hI6.mono (by omega)
            · rw [List.drop_eq_nil_of_le (by omega)] at el
              cases el
/-! the law walks the deeds -/
noncomputable abbrev kl4 : List D := [.tup [.int 1, .int 0], .tup [.int 0, .int 1], .tup [.int (-1), .int 0], .tup [.int 0, .int (-1)]]
theorem at4 {h : Int} (hd : h = 0 ∨ h = 1 ∨ h = 2 ∨ h = 3) : atI kl4 h = some (.tup [.int (cs h), .int (sn h)]) := ahead_at hd
noncomputable def spWlk : Sp3 := fun ds μ Q => ∃ (q : Addr) (ds0 : List Kn), ds = [.ref q, encP st] ∧ μ q = some (.lst (ds0.map encD)) ∧ OKd 98 ds0 ∧ (wkA ds0).2.length < 64 ∧ ∀ r μ', Ext μ μ' → μ' r = some (.lst ((wkA ds0).2.map encT)) → Q (.tup [encP (wkA ds0).1, .ref r]) μ'
noncomputable def WWk (q f : Addr) (ds0 : List Kn) (μ : Mu) : List D → St3 → Mu → Prop := fun l ρ μ' => ∃ (d1 d2 : List Kn) (o6 o7 o8 o9 o10 : Option D), l = d2.map encD ∧ d1 ++ d2 = ds0 ∧ Hd (wkA d1).1 ∧
  ρ = [some (.ref q), some (encP st), some (.int (wkA d1).1.1), some (.int (wkA d1).1.2.1), some (.int (wkA d1).1.2.2), some (.ref f), o6, o7, o8, o9, o10] ∧ Ext μ μ' ∧ μ' f = some (.lst ((wkA d1).2.map encT))
noncomputable def WGo (q f : Addr) (w : WS) (n : Nat) (o6 o7 : Option D) (μ : Mu) : List D → St3 → Mu → Prop := fun l ρ μ' => ∃ (i : Nat) (o9 o10 : Option D), l = rngD (i : Int) (n - i) ∧ i ≤ n ∧
  ρ = [some (.ref q), some (encP st), some (.int (goN i w).1.1), some (.int (goN i w).1.2.1), some (.int w.1.2.2), some (.ref f), o6, o7, some (.tup [.int (cs w.1.2.2), .int (sn w.1.2.2)]), o9, o10] ∧ Ext μ μ' ∧ μ' f = some (.lst ((goN i w).2.map encT))
theorem wkA_len (d1 d2 : List Kn) : (wkA d1).2.length ≤ (wkA (d1 ++ d2)).2.length := by
  induction d2 generalizing d1 with
  | nil => rw [List.append_nil]; exact Nat.le_refl _
  | cons d d2 ih =>
    have e : d1 ++ d :: d2 = (d1 ++ [d]) ++ d2 := by simp
    rw [e]
    refine Nat.le_trans ?_ (ih (d1 ++ [d]))
    rw [wkA_snoc]
    exact wk_len _ _
theorem wkA_hd (ds : List Kn) : Hd (wkA ds).1 := by
  suffices h : ∀ (s : WS), Hd s.1 → Hd (ds.foldl wk s).1 from h _ (.inl rfl)
  induction ds with
  | nil => exact fun s h => h
  | cons d ds ih =>
    intro s h
    refine ih _ ?_
    obtain ⟨k, n⟩ := d
    unfold Hd at h ⊢
    cases k with
    | go => show (goN n.toNat s).1.2.2 = 0 ∨ (goN n.toNat s).1.2.2 = 1 ∨ (goN n.toNat s).1.2.2 = 2 ∨ (goN n.toNat s).1.2.2 = 3; rw [goN_hd]; exact h
    | jump => exact h
    | turn => show (s.1.2.2 + n) % 4 = 0 ∨ (s.1.2.2 + n) % 4 = 1 ∨ (s.1.2.2 + n) % 4 = 2 ∨ (s.1.2.2 + n) % 4 = 3; omega
theorem rd__law_walked (ds : List D) (μ : Mu) (Q : VK3) (h : spWlk ds μ Q) : t__law_walked { nx := fun _ μ' => Q .non μ', rt := Q } (start3 N__law_walked ds) μ := by
  obtain ⟨q, ds0, rfl, hq, ok, hS, k⟩ := h
  have z : (100 : Nat) < sizeLine := by decide
  refine ⟨rfl, ?_⟩
  refine ⟨(show 0 ≤ sizeLine by decide), fun f hf => ?_⟩
  have hq1 : updM μ f (.lst []) q = some (.lst (ds0.map encD)) := Ext.new hf _ _ hq
  conv => whnf
  rw [hq1]
  refine for_inv (WWk q f ds0 μ) ?_ ?_ ?_ ?_
  · exact ⟨[], ds0, none, none, none, none, none, rfl, rfl, wkA_hd [], rfl, Ext.new hf, updM_same⟩
  · rintro l ρ μ2 ⟨d1, d2, o6, o7, o8, o9, o10, _, _, _, rfl, ex, _⟩
    exact ex _ _ hq
  · rintro ρ μ2 ⟨d1, d2, o6, o7, o8, o9, o10, el, e, hd, rfl, ex, ef⟩
    cases d2 with
    | cons _ _ => cases el
    | nil =>
      rw [List.append_nil] at e
      subst e
      exact ⟨z3, z2, k f μ2 ex ef⟩
  · rintro d rest ρ μ2 ⟨d1, d2, o6, o7, o8, o9, o10, el, e, hd, rfl, ex, ef⟩
    cases d2 with
    | nil => cases el
    | cons d d2 =>
      rw [List.map_cons] at el
      injection el with e1 e2
      subst e1 e2
      obtain ⟨kd, n⟩ := d
      have hlen := wkA_len (d1 ++ [(kd, n)]) d2
      rw [List.append_assoc] at hlen
      have e' : d1 ++ ([(kd, n)] ++ d2) = ds0 := e
      rw [e', wkA_snoc] at hlen
      refine ⟨rfl, ?_⟩
      refine ⟨z2, z2, z2, z2, (show 4 ≤ sizeLine by decide), fun r hr => ?_⟩
      have ex3 : Ext μ (updM μ2 r (.lst kl4)) := ex.trans (Ext.new hr)
      have ef3 : updM μ2 r (.lst kl4) f = some (.lst ((wkA d1).2.map encT)) := Ext.new hr _ _ ef
      have k3 : updM μ2 r (.lst kl4) r = some (.lst kl4) := updM_same
      have a3 := at4 hd
      conv => whnf
      rw [k3]
      dsimp only
      rw [a3]
      dsimp only
      generalize updM μ2 r (.lst kl4) = ν at ex3 ef3
      have cl : CMul (cs (wkA d1).1.2.2) n := .inl (.inl (cs_small _))
      have sl : CMul (sn (wkA d1).1.2.2) n := .inl (.inl (sn_small _))
      have e5 : (d1 ++ [(kd, n)]) ++ d2 = ds0 := by rw [List.append_assoc]; exact e'
      have hd5 := wkA_hd (d1 ++ [(kd, n)])
      have rw5 := wkA_snoc d1 (kd, n)
      cases kd with
      | turn =>
        refine ⟨(show (0 : Int) < 4 by decide), ?_⟩
        refine ⟨d1 ++ [(.turn, n)], d2, some (.str (kS .turn)), some (.int n), some (.tup [.int (cs (wkA d1).1.2.2), .int (sn (wkA d1).1.2.2)]), o9, o10, rfl, e5, hd5, ?_, ex3, ?_⟩
        · rw [rw5]; rfl
        · rw [rw5]; exact ef3
      | jump =>
        refine ⟨cl, sl, ?_⟩
        refine ⟨d1 ++ [(.jump, n)], d2, some (.str (kS .jump)), some (.int n), some (.tup [.int (cs (wkA d1).1.2.2), .int (sn (wkA d1).1.2.2)]), o9, o10, rfl, e5, hd5, ?_, ex3, ?_⟩
        · rw [rw5]; rfl
        · rw [rw5]; exact ef3
      | go =>
        have okn := ok n (by rw [← e]; simp)
        refine ⟨⟨by omega, by omega⟩, ?_⟩
        refine for_inv (WGo q f (wkA d1) n.toNat (some (.str "go")) (some (.int n)) μ) ?_ (fun _ _ _ _ => trivial) ?_ ?_
        · exact ⟨0, o9, o10, rfl, Nat.zero_le _, rfl, ex3, ef3⟩
        · rintro ρ μ4 ⟨i, p9, p10, el, hi, rfl, ex4, ef4⟩
          have ei : i = n.toNat := by
            cases c : n.toNat - i with
            | zero => omega
            | succ c' => rw [c, rngD_succ] at el; cases el
          subst ei
          refine ⟨d1 ++ [(.go, n)], d2, some (.str "go"), some (.int n), some (.tup [.int (cs (wkA d1).1.2.2), .int (sn (wkA d1).1.2.2)]), p9, p10, rfl, e5, hd5, ?_, ex4, ?_⟩
          · rw [rw5]
            show _ = [some (D.ref q), some (encP st), some (.int (goN n.toNat (wkA d1)).1.1), some (.int (goN n.toNat (wkA d1)).1.2.1), some (.int (goN n.toNat (wkA d1)).1.2.2), _, _, _, _, _, _]
            rw [goN_hd]
          · rw [rw5]; exact ef4
        · rintro d rest ρ μ4 ⟨i, p9, p10, el, hi, rfl, ex4, ef4⟩
          cases c : n.toNat - i with
          | zero => rw [c] at el; simp [rngD] at el
          | succ c' =>
            rw [c, rngD_succ] at el
            injection el with e1 e2
            subst e1 e2
            have hgl := goN_len i (wkA d1)
            have hw : (wk (wkA d1) (.go, n)).2.length = (wkA d1).2.length + n.toNat := goN_len n.toNat (wkA d1)
            have hgd := goN_hd i (wkA d1)
            refine ⟨z2, z2, ?_⟩
            dsimp only [nil3]
            rw [min_eq ((goN i (wkA d1)).1.1, (goN i (wkA d1)).1.2.1) ((goN i (wkA d1)).1.1 + cs (wkA d1).1.2.2, (goN i (wkA d1)).1.2.1 + sn (wkA d1).1.2.2)]
            conv => whnf
            rw [ef4]
            refine ⟨(show (0 : Int) < 2 by decide), z3, ?_⟩
            conv => whnf
            rw [ef4]
            refine ⟨by rw [List.length_map, hgl]; omega, ?_⟩
            refine ⟨i + 1, some (.int (i : Int)), some (encQ (mnP ((goN i (wkA d1)).1.1, (goN i (wkA d1)).1.2.1) ((goN i (wkA d1)).1.1 + cs (wkA d1).1.2.2, (goN i (wkA d1)).1.2.1 + sn (wkA d1).1.2.2))), ?_, by omega, ?_, fun a o ha => ?_, ?_⟩
            · rw [show n.toNat - (i + 1) = c' by omega]
              congr 1
            · show _ = [some (D.ref q), some (encP st), some (.int ((goN i (wkA d1)).1.1 + cs (goN i (wkA d1)).1.2.2)), some (.int ((goN i (wkA d1)).1.2.1 + sn (goN i (wkA d1)).1.2.2)), _, _, _, _, _, _, _]
              rw [hgd]
              rfl
            · rw [updM_ne (ne_free ha hf)]; exact ex4 _ _ ha
            · rw [updM_same]
              show _ = some (MO.lst (((goN i (wkA d1)).2 ++ [stk (goN i (wkA d1)).1]).map encT))
              rw [List.map_append]
              unfold stk
              rw [hgd]
              rfl
/-! the law's trails -/
noncomputable def BdK (k : Int) (t : List Pt) : Prop := ∀ q ∈ t, -10 - k < q.1 ∧ q.1 < 10 ^ 20 + k ∧ -10 - k < q.2 ∧ q.2 < 10 ^ 20 + k
theorem gp_snoc_lt {t : List Pt} {q : Pt} {i : Nat} (h : i < t.length) : gp (t ++ [q]) i = gp t i := by
  unfold gp
  rw [List.getD_eq_getElem?_getD, List.getD_eq_getElem?_getD, List.getElem?_append_left h]
theorem gp_snoc_eq (t : List Pt) (q : Pt) : gp (t ++ [q]) t.length = q := by
  unfold gp
  rw [List.getD_eq_getElem?_getD]
  simp
theorem AN_snoc {t : List Pt} {p q : Pt} (h : AN (t ++ [p])) (k : nx p q = true) : AN (t ++ [p] ++ [q]) := by
  intro i hi
  rw [List.length_append, List.length_append, List.length_singleton, List.length_singleton] at hi
  by_cases c : i < t.length
  · rw [gp_snoc_lt (t := t ++ [p]) (i := i) (by rw [List.length_append, List.length_singleton]; omega), gp_snoc_lt (t := t ++ [p]) (i := i + 1) (by rw [List.length_append, List.length_singleton]; omega)]
    exact h i (by rw [List.length_append, List.length_singleton]; omega)
  · have ei : i = t.length := by omega
    subst ei
    have e2 : gp (t ++ [p] ++ [q]) (t.length + 1) = q := by
      have := gp_snoc_eq (t ++ [p]) q
      rw [List.length_append, List.length_singleton] at this
      exact this
    rw [e2, gp_snoc_lt (t := t ++ [p]) (i := t.length) (by rw [List.length_append, List.length_singleton]; omega), gp_snoc_eq]
    exact k
theorem nx_step (p : Pt) {h : Int} (h4 : h = 0 ∨ h = 1 ∨ h = 2 ∨ h = 3) : nx p (p.1 + cs h, p.2 + sn h) = true := by
  unfold nx
  rw [decide_eq_true_eq]
  dsimp only
  rw [show p.1 - (p.1 + cs h) = -cs h by omega, show p.2 - (p.2 + sn h) = -sn h by omega]
  rcases h4 with rfl | rfl | rfl | rfl <;> decide
theorem cs_b (h : Int) : -1 ≤ cs h ∧ cs h ≤ 1 := by unfold cs; split <;> (try split) <;> decide
theorem sn_b (h : Int) : -1 ≤ sn h ∧ sn h ≤ 1 := by unfold sn; split <;> (try split) <;> decide
noncomputable def spTrl : Sp3 := fun ds μ Q => ∃ (z : Addr) (a : Int) (b : Bool), ds = [.ref z] ∧ μ z = some (.lst [.int a, .bl b]) ∧ 0 ≤ a ∧ ∀ (t : List Pt) r a' μ', μ r = none → isT t = true → t.length ≤ 9 → Bd t → 0 ≤ a' → μ' z = some (.lst [.int a', .bl b]) → μ' r = some (.lst (t.map encQ)) → ExtB z μ μ' → Q (.ref r) μ'
noncomputable def WTl (z f : Addr) (far : Int) (b : Bool) (c : Nat) (μ : Mu) : List D → St3 → Mu → Prop := fun l ρ μ' => ∃ (t : List Pt) (p : Pt) (a : Int) (o3 o4 o5 o6 : Option D), l.length + t.length = c ∧ ρ = [some (.ref z), some (.int far), some (.ref f), o3, o4, o5, o6] ∧
  μ' z = some (.lst [.int a, .bl b]) ∧ 0 ≤ a ∧ μ' f = some (.lst ((t ++ [p]).map encQ)) ∧ AN (t ++ [p]) ∧ BdK t.length (t ++ [p]) ∧ ExtB z μ μ'
theorem rd__law_trail (ds : List D) (μ : Mu) (Q : VK3) (h : spTrl ds μ Q) : t__law_trail spChoice { nx := fun _ μ' => Q .non μ', rt := Q } (start3 N__law_trail ds) μ := by
  obtain ⟨z, a, b, rfl, hz, ha, k⟩ := h
  have zz : (100 : Nat) < sizeLine := by decide
  refine ⟨⟨by decide, by decide, by decide⟩, (show 3 ≤ sizeLine by decide), fun r0 h0 => ?_⟩
  have hz0 := Ext.new (o := .lst [.int 5, .int 5, .int (10 ^ (20 : Int).toNat)]) h0 _ _ hz
  refine ⟨z, 3, a, b, [], rfl, by decide, by decide, hz0, ha, fun r a1 r1 r2 a1n => ?_⟩
  have hzr : z ≠ r0 := ne_free hz h0
  have main : ∀ (far : Int) (ν : Mu), 0 < far → far ≤ 10 ^ 20 → ν z = some (.lst [.int a1, .bl b]) → ExtB z μ ν → t__law_trail_r1 spChoice { nx := fun _ μ' => Q .non μ', rt := Q } [some (.ref z), some (.int far), none, none, none, none, none] ν := by
    intro far ν f0 f1 hz1 ex1
    refine ⟨z, far, a1, b, [], rfl, f0, by omega, hz1, a1n, fun x a2 x0 x1 a2n => ?_⟩
    refine ⟨z, far, a2, b, [], rfl, f0, by omega, updM_same, a2n, fun y a3 y0 y1 a3n => ?_⟩
    refine ⟨z2, (show 1 ≤ sizeLine by decide), fun f hf => ?_⟩
    have hzf : z ≠ f := ne_free updM_same hf
    have hz4 : updM (updM (updM ν z (.lst [.int a2, .bl b])) z (.lst [.int a3, .bl b])) f (.lst [encQ (x - 2, y - 2)]) z = some (.lst [.int a3, .bl b]) := by rw [updM_ne hzf, updM_same]
    have ex4 : ExtB z μ (updM (updM (updM ν z (.lst [.int a2, .bl b])) z (.lst [.int a3, .bl b])) f (.lst [encQ (x - 2, y - 2)])) := fun c o n e => Ext.new hf _ _ (by rw [updM_ne n, updM_ne n]; exact ex1 c o n e)
    have hf0 : μ f = none := by
      cases e : μ f with
      | none => rfl
      | some o =>
        rw [updM_ne (Ne.symm hzf), updM_ne (Ne.symm hzf), ex1 f o (Ne.symm hzf) e] at hf
        cases hf
    refine ⟨z, 8, a3, b, [], rfl, by decide, by decide, hz4, a3n, fun m a4 m0 m1 a4n => ⟨⟨by omega, by omega⟩, ?_⟩⟩
    refine for_inv (WTl z f far b (1 + m).toNat μ) ?_ (fun _ _ _ _ => trivial) ?_ ?_
    · refine ⟨[], (x - 2, y - 2), a4, none, none, none, none, ?_, rfl, updM_same, a4n, ?_, ?_, ?_, fun c o n e => by rw [updM_ne n]; exact ex4 c o n e⟩
      · rw [rngD_len]; rfl
      · rw [updM_ne (Ne.symm hzf), updM_same]; rfl
      · intro i hi; simp at hi
      · intro q hq
        have : q = (x - 2, y - 2) := by simpa using hq
        subst this
        dsimp only
        simp only [List.length_nil]
        omega
    · rintro ρ μ5 ⟨t, p, a5, o3, o4, o5, o6, el, rfl, hz5, a5n, hf5, an, bd, ex5⟩
      rw [List.length_nil] at el
      refine k (t ++ [p]) f a5 μ5 hf0 ((isT_iff _).mpr ⟨by rw [List.length_append, List.length_singleton]; omega, an⟩) (by rw [List.length_append, List.length_singleton]; omega) (fun q hq => ?_) a5n hz5 hf5 ex5
      have := bd q hq
      omega
    · rintro d rest ρ μ5 ⟨t, p, a5, o3, o4, o5, o6, el, rfl, hz5, a5n, hf5, an, bd, ex5⟩
      rw [List.length_cons] at el
      have lt : atI ((t ++ [p]).map encQ) (-1) = some (encQ p) := by rw [List.map_append]; exact at_last
      conv => whnf
      rw [hf5]
      dsimp only
      rw [lt]
      dsimp only
      refine ⟨rfl, ?_⟩
      refine ⟨z2, z2, z2, z2, (show 4 ≤ sizeLine by decide), fun r6 h6 => ?_⟩
      have hz6 := Ext.new (o := .lst kl4) h6 _ _ hz5
      refine ⟨z, 4, a5, b, [], rfl, by decide, by decide, hz6, a5n, fun h a6 h0 h1 a6n => ?_⟩
      have hzf5 : z ≠ f := ne_zx hz5 hf5
      have hr6 : z ≠ r6 := ne_free hz5 h6
      have k6 : updM (updM μ5 r6 (.lst kl4)) z (.lst [.int a6, .bl b]) r6 = some (.lst kl4) := by rw [updM_ne (Ne.symm hr6), updM_same]
      have h4 : h = 0 ∨ h = 1 ∨ h = 2 ∨ h = 3 := by omega
      have a4' := at4 h4
      conv => whnf
      rw [k6]
      dsimp only
      rw [a4']
      dsimp only
      have hf6 : updM (updM μ5 r6 (.lst kl4)) z (.lst [.int a6, .bl b]) f = some (.lst ((t ++ [p]).map encQ)) := by rw [updM_ne (Ne.symm hzf5)]; exact Ext.new h6 _ _ hf5
      conv => whnf
      rw [hf6]
      refine ⟨z2, ?_⟩
      conv => whnf
      rw [hf6]
      have ll : (t ++ [p]).length = t.length + 1 := by rw [List.length_append, List.length_singleton]
      refine ⟨by rw [List.length_map, ll]; omega, ?_⟩
      have nxp := nx_step p h4
      have cb := cs_b h
      have sb := sn_b h
      refine ⟨t ++ [p], (p.1 + cs h, p.2 + sn h), a6, _, _, _, _, by rw [ll]; omega, rfl, ?_, a6n, ?_, AN_snoc an nxp, ?_, fun c o n e => ?_⟩
      · rw [updM_ne hzf5, updM_same]
      · rw [updM_same, List.map_append (l₁ := t ++ [p]) (l₂ := [(p.1 + cs h, p.2 + sn h)])]
        rfl
      · intro q hq
        rw [ll]
        rcases List.mem_append.mp hq with hq | hq
        · have := bd q hq; omega
        · have : q = (p.1 + cs h, p.2 + sn h) := by simpa using hq
          subst this
          have := bd p (List.mem_append.mpr (.inr (List.mem_singleton.mpr rfl)))
          dsimp only
          omega
      · have hcf : c ≠ f := fun e' => by rw [e', hf0] at e; cases e
        rw [updM_ne hcf, updM_ne n]
        exact Ext.new h6 _ _ (ex5 c o n e)
  have ex1 : ExtB z μ (updM (updM μ r0 (.lst [.int 5, .int 5, .int (10 ^ (20 : Int).toNat)])) z (.lst [.int a1, .bl b])) := fun c o n e => by rw [updM_ne n]; exact Ext.new h0 _ _ e
  have k0 : updM (updM μ r0 (.lst [.int 5, .int 5, .int (10 ^ (20 : Int).toNat)])) z (.lst [.int a1, .bl b]) r0 = some (.lst [.int 5, .int 5, .int (10 ^ (20 : Int).toNat)]) := by rw [updM_ne (Ne.symm hzr), updM_same]
  rcases (show r = 0 ∨ r = 1 ∨ r = 2 by omega) with rfl | rfl | rfl
  · have a0 : atI [D.int 5, .int 5, .int (10 ^ (20 : Int).toNat)] 0 = some (.int 5) := rfl
    conv => whnf
    rw [k0]
    dsimp only
    rw [a0]
    dsimp only
    exact main 5 _ (by decide) (by decide) updM_same ex1
  · have a0 : atI [D.int 5, .int 5, .int (10 ^ (20 : Int).toNat)] 1 = some (.int 5) := rfl
    conv => whnf
    rw [k0]
    dsimp only
    rw [a0]
    dsimp only
    exact main 5 _ (by decide) (by decide) updM_same ex1
  · have a0 : atI [D.int 5, .int 5, .int (10 ^ (20 : Int).toNat)] 2 = some (.int (10 ^ (20 : Int).toNat)) := rfl
    conv => whnf
    rw [k0]
    dsimp only
    rw [a0]
    dsimp only
    exact main (10 ^ (20 : Int).toNat) _ (by decide) (by decide) updM_same ex1
/-! the law -/
theorem ne_LT {L M : List T3} {p q : Addr} {μ : Mu} (h1 : μ p = some (.lst (L.map encT))) (h2 : μ q = some (.lst (M.map encT))) (K : VK3) : neR (.ref p) (.ref q) μ K = K (.bl (!decide (L = M))) μ := by
  have dd : ∀ (L : List T3) p, μ p = some (.lst (L.map encT)) → datM μ (.ref p) = some (.list (L.map pT)) := fun L p h => by simp only [datM, h, dats_T]
  have hd : ∀ L : List T3, (PyData.list (L.map pT)).depth ≤ 64 := fun L => by
    have := depth_T L
    simp only [PyData.depth]
    omega
  rw [neR_dat rfl (dd L p h1) (dd M q h2) (hd L) (hd M), show PyData.eqv (.list (L.map pT)) (.list (M.map pT)) = decide (L = M) from by simp only [PyData.eqv, eqv_LM]]
theorem in3 (kd : Kd) {μ : Mu} {r : Addr} (h : μ r = some (.lst [.str "go", .str "jump", .str "turn"])) (K : VK3) : inR true (.str (kS kd)) (.ref r) μ K = K (.bl false) μ := by
  have s1 : PyData.strOk "go" = true := by decide +kernel
  have s2 : PyData.strOk "jump" = true := by decide +kernel
  have s3 : PyData.strOk "turn" = true := by decide +kernel
  show inD true (.str (kS kd)) (.ref r) μ K = _
  cases kd <;> simp only [inD, datM, h, dats, dat, kS, s1, s2, s3, if_true] <;> simp [PyData.depth, PyData.depthAll, PyData.eqv]
noncomputable def spRow : Sp3 := fun ds μ Q => ∃ (q : Addr) (ds0 : List Kn), ds = [.ref q] ∧ μ q = some (.lst (ds0.map encD)) ∧ OKd 98 ds0 ∧ ∀ μ', Ext μ μ' → Q (.bl true) μ'
theorem row_go (n : Int) (h : 0 ≤ n ∧ n ≤ 98) (ρ : St3) (μ : Mu) (K : VK3) (hk : K (.bl true) μ) (e : getI ρ 1 = some (encD (.go, n))) : ch3 leR ltR (c3 (.int 0)) (o3 ixR (v3 1) (c3 (.int 1))) (c3 (.int 99)) ρ μ K := by
  simp only [Pv.seq3, Pv.next3, Pv.never3, Pv.brk3, Pv.cnt3, Pv.drop3, Pv.ret3, Pv.retN3, Pv.ifs3, Pv.gn3, Pv.gnil3, Pv.gcons3, Pv.gtup3, Pv.set3, Pv.asg3, Pv.par3, Pv.sub3, Pv.for3, Pv.is3, Pv.ir3, Pv.ir23, Pv.v3, Pv.c3, Pv.o3, Pv.un3, Pv.b3, Pv.and3, Pv.or3, Pv.not3, Pv.andV3, Pv.orV3, Pv.notV3, Pv.if3, Pv.nil3, Pv.cons3, Pv.tup3, Pv.lst3, Pv.call3, Pv.mt3, Pv.comp3, Pv.tt3, Pv.getI, List.set_cons_zero, List.set_cons_succ, Pv.int2, Pv.int20, Pv.subR, Pv.mulR, Pv.intR, Pv.sl3, Pv.np3, Pv.pt3, Pv.slR, Pv.modR, Pv.fdivR, Pv.powR, Pv.ltR, Pv.leR, Pv.gtR, Pv.geR, Pv.negR, Pv.addR, Pv.eqR_ii, Pv.eqR_ss, Pv.eqR_bb, Pv.eqR_is, Pv.neR_ii, Pv.neR_ss, Pv.neR_bb, Pv.inR, Pv.ixR, Pv.lenR, Pv.absR, Pv.tupR, Pv.sumR, Pv.tyN, Pv.isIn, Pv.isiR, Pv.appR, Pv.extR, Pv.smt3, Pv.joinR, Pv.splitR, Pv.startsR, Pv.pop3, Pv.lrev3, Pv.strR, Pv.start3, List.map_cons, List.map_nil, List.cons_append, List.nil_append, List.length_cons, List.length_nil, List.replicate, Pv.atI0, Pv.atI1, Pv.atI2, Nat.reduceAdd, Nat.reduceSub, Nat.zero_add, reduceIte, Pv.strs?, Bool.not_true, Bool.not_false, Bool.false_eq_true, if_false, if_true, decide_eq_true_eq, Bool.not_eq_true', decide_eq_false_iff_not, Pv.ixN0, Pv.ixN1, Pv.ixN2, true_and, and_true, Pv.cst0, Pv.cst1, Pv.cst2, Pv.cst3, Int.reduceEq, Option.bind_none, Option.bind_some, Pv.kn_go_jump, Pv.kn_go_turn, Pv.kn_go_times, Pv.kn_jump_go, Pv.kn_jump_turn, Pv.kn_jump_times, Pv.kn_turn_go, Pv.kn_turn_jump, Pv.kn_turn_times, Pv.kn_times_go, Pv.kn_times_jump, Pv.kn_times_turn, Pv.kp_go, Pv.kp_jump, Pv.kp_turn, Pv.kp_times, Pv.kz_go, Pv.kz_jump, Pv.kz_turn, Pv.kz_times, ch3, e, encD]
  simp only [Pv.seq3, Pv.next3, Pv.never3, Pv.brk3, Pv.cnt3, Pv.drop3, Pv.ret3, Pv.retN3, Pv.ifs3, Pv.gn3, Pv.gnil3, Pv.gcons3, Pv.gtup3, Pv.set3, Pv.asg3, Pv.par3, Pv.sub3, Pv.for3, Pv.is3, Pv.ir3, Pv.ir23, Pv.v3, Pv.c3, Pv.o3, Pv.un3, Pv.b3, Pv.and3, Pv.or3, Pv.not3, Pv.andV3, Pv.orV3, Pv.notV3, Pv.if3, Pv.nil3, Pv.cons3, Pv.tup3, Pv.lst3, Pv.call3, Pv.mt3, Pv.comp3, Pv.tt3, Pv.getI, List.set_cons_zero, List.set_cons_succ, Pv.int2, Pv.int20, Pv.subR, Pv.mulR, Pv.intR, Pv.sl3, Pv.np3, Pv.pt3, Pv.slR, Pv.modR, Pv.fdivR, Pv.powR, Pv.ltR, Pv.leR, Pv.gtR, Pv.geR, Pv.negR, Pv.addR, Pv.eqR_ii, Pv.eqR_ss, Pv.eqR_bb, Pv.eqR_is, Pv.neR_ii, Pv.neR_ss, Pv.neR_bb, Pv.inR, Pv.ixR, Pv.lenR, Pv.absR, Pv.tupR, Pv.sumR, Pv.tyN, Pv.isIn, Pv.isiR, Pv.appR, Pv.extR, Pv.smt3, Pv.joinR, Pv.splitR, Pv.startsR, Pv.pop3, Pv.lrev3, Pv.strR, Pv.start3, List.map_cons, List.map_nil, List.cons_append, List.nil_append, List.length_cons, List.length_nil, List.replicate, Pv.atI0, Pv.atI1, Pv.atI2, Nat.reduceAdd, Nat.reduceSub, Nat.zero_add, reduceIte, Pv.strs?, Bool.not_true, Bool.not_false, Bool.false_eq_true, if_false, if_true, decide_eq_true_eq, Bool.not_eq_true', decide_eq_false_iff_not, Pv.ixN0, Pv.ixN1, Pv.ixN2, true_and, and_true, Pv.cst0, Pv.cst1, Pv.cst2, Pv.cst3, Int.reduceEq, Option.bind_none, Option.bind_some, Pv.kn_go_jump, Pv.kn_go_turn, Pv.kn_go_times, Pv.kn_jump_go, Pv.kn_jump_turn, Pv.kn_jump_times, Pv.kn_turn_go, Pv.kn_turn_jump, Pv.kn_turn_times, Pv.kn_times_go, Pv.kn_times_jump, Pv.kn_times_turn, Pv.kp_go, Pv.kp_jump, Pv.kp_turn, Pv.kp_times, Pv.kz_go, Pv.kz_jump, Pv.kz_turn, Pv.kz_times, decide_eq_true h.1]
  rw [decide_eq_true (show n < 99 by omega)]
  exact hk
theorem rd__law_is_row (ds : List D) (μ : Mu) (Q : VK3) (h : spRow ds μ Q) : t__law_is_row spWhole { nx := fun _ μ' => Q .non μ', rt := Q } (start3 N__law_is_row ds) μ := by
  obtain ⟨q, ds0, rfl, hq, ok, k⟩ := h
  have ty : tyN μ (.ref q) = some "list" := by simp only [tyN, hq]
  have il : isIn "list" "list" = some true := by decide
  conv => whnf
  rw [ty]
  dsimp only
  rw [il]
  conv => whnf
  rw [hq]
  refine for_inv (fun l ρ μ' => Ext μ μ' ∧ ∃ (d1 : List Kn) (o : Option D), l = d1.map encD ∧ (∀ d ∈ d1, d ∈ ds0) ∧ ρ = [some (.ref q), o]) ?_ ?_ ?_ ?_
  · exact ⟨Ext.refl _, ds0, none, rfl, fun _ h => h, rfl⟩
  · rintro l ρ μ2 ⟨ex, _⟩
    exact ex _ _ hq
  · rintro ρ μ2 ⟨ex, d1, o, _, _, rfl⟩
    exact k μ2 ex
  · rintro d rest ρ μ2 ⟨ex, d1, o, el, hm, rfl⟩
    cases d1 with
    | nil => cases el
    | cons d d1 =>
      rw [List.map_cons] at el
      injection el with e1 e2
      subst e1 e2
      obtain ⟨kd, n⟩ := d
      refine ⟨(show 3 ≤ sizeLine by decide), fun r hr => ?_⟩
      have hr1 : updM μ2 r (.lst [.str "go", .str "jump", .str "turn"]) r = some (.lst [.str "go", .str "jump", .str "turn"]) := updM_same
      have ex1 : Ext μ (updM μ2 r (.lst [.str "go", .str "jump", .str "turn"])) := ex.trans (Ext.new hr)
      show inR true (.str (kS kd)) (.ref r) _ _
      rw [in3 kd hr1]
      generalize updM μ2 r (.lst [.str "go", .str "jump", .str "turn"]) = ν at ex1
      have fin : Ext μ ν ∧ ∃ (d1' : List Kn) (o : Option D), d1.map encD = d1'.map encD ∧ (∀ d ∈ d1', d ∈ ds0) ∧ [some (.ref q), some (encD (kd, n))] = [some (.ref q), o] := ⟨ex1, d1, _, rfl, fun d hd => hm d (List.mem_cons_of_mem _ hd), rfl⟩
      refine ⟨n, rfl, ?_⟩
      cases kd with
      | turn => exact fin
      | jump => exact fin
      | go =>
        have okn := ok n (hm _ (List.mem_cons_self ..))
        exact row_go n ⟨okn.1, by have := okn.2; omega⟩ [some (.ref q), some (encD (.go, n))] ν _ fin rfl
noncomputable def spTold : Sp3 := fun ds μ Q => ∃ (p : Addr) (A : List Tr), ds = [.ref p] ∧ μ p = some (.lst (A.map rf)) ∧ TRm μ A ∧ A.length < 10 ∧ sz A < 64 ∧ (∀ x ∈ A, Bd x.2) ∧
  ((∀ x ∈ A, isT x.2 = true) → ∀ q r ds μ', Ext μ μ' → μ' q = some (.lst (ds.map encD)) → (wkA ds).2 = flat A → OKd (flat A).length ds → μ' r = some (.lst []) → Q (.tup [.ref q, .ref r]) μ') ∧ (¬ (∀ x ∈ A, isT x.2 = true) → ∀ r μ', Ext μ μ' → μ' r = some (.lst BL) → Q (.tup [.non, .ref r]) μ')
theorem rd__law_told (ds : List D) (μ : Mu) (Q : VK3) (h : spTold ds μ Q) : t__law_told spMk spxDo { nx := fun _ μ' => Q .non μ', rt := Q } (start3 N__law_told ds) μ := by
  obtain ⟨p, A, rfl, hp, hA, hn, hz, hb, kT, kF⟩ := h
  refine ⟨(show 0 ≤ sizeLine by decide), fun r hr => ?_⟩
  have ex0 := Ext.new (o := .lst []) hr
  exact ⟨p, A, rfl, ex0 _ _ hp, hA.ext ex0, hn, hz, hb, fun al q ds μ' ex eq w ok _ => ⟨z2, kT al q r ds μ' (ex0.trans ex) eq w ok (ex _ _ updM_same)⟩, fun nal μ' ex => ⟨by decide, rfl, fun r2 μ2 ex2 er2 => ⟨z2, kF nal r2 μ2 ((ex0.trans ex).trans ex2) er2⟩⟩⟩
/-- the trails that the law draws -/
theorem comp_tr {z c : Addr} {m : Nat} {a : Int} {b : Bool} {μ : Mu} {Q : VK3} {o : Option D} (hz : μ z = some (.lst [.int a, .bl b])) (ha : 0 ≤ a) (hm : m < 5) (hc : μ c = none)
    (k : ∀ (A : List Tr) a' μ', 0 ≤ a' → μ' z = some (.lst [.int a', .bl b]) → μ' c = some (.lst (A.map rf)) → TRm μ' A → A.length ≤ 4 → sz A ≤ 36 → (∀ x ∈ A, isT x.2 = true ∧ Bd x.2) → Q (.ref c) μ') :
    cbody (fun _ => True) c (gn3 0) tt3 (call3 spTrl (cons3 (v3 1) nil3)) Q (rngD 0 m) [o, some (.ref z)] (updM μ c (.lst [])) := by
  have zz : (100 : Nat) < sizeLine := by decide
  have nil_ne : ∀ {t : List Pt}, isT t = true → t ≠ [] := fun h e => by rw [e] at h; cases h
  refine ⟨fun r ys ρ μ' => ∃ (A : List Tr) (a' : Int) (o' : Option D), ys = A.map rf ∧ r.length + A.length = m ∧ 0 ≤ a' ∧ μ' z = some (.lst [.int a', .bl b]) ∧ μ' c = some (.lst ys) ∧ TRm μ' A ∧ sz A ≤ 9 * A.length ∧ (∀ x ∈ A, isT x.2 = true ∧ Bd x.2) ∧ ρ = [o', some (.ref z)], ?_, ?_, ?_, ?_⟩
  · exact ⟨[], a, o, rfl, by rw [rngD_len]; rfl, ha, Ext.new hc _ _ hz, updM_same, (fun x hx => nomatch hx), Nat.le_refl _, (fun x hx => nomatch hx), rfl⟩
  · rintro l ys ρ μ' ⟨A, a', o', _, _, _, _, ec, _⟩
    exact ⟨trivial, ec⟩
  · rintro ys ρ μ' ⟨A, a', o', rfl, hl, ha', hz', ec, tr, s1, al, _⟩
    rw [List.length_nil] at hl
    exact k A a' μ' ha' hz' ec tr (by omega) (by omega) al
  · rintro x r ys ρ μ' ⟨A, a', o', rfl, hl, ha', hz', ec, tr, s1, al, rfl⟩
    rw [List.length_cons] at hl
    refine ⟨by rw [List.length_map]; omega, ?_⟩
    refine ⟨z, a', b, rfl, hz', ha', fun t q a2 μ2 hq it tl bd a2n hz2 hq2 ex2 => ?_⟩
    have hzc : z ≠ c := ne_zf hz' ec
    have hqc : c ≠ q := ne_free ec hq
    have ec2 := ex2 c _ (Ne.symm hzc) ec
    have tr2 : TRm μ2 (A ++ [(q, t)]) := fun y hy => by
      rcases List.mem_append.mp hy with h | h
      · exact ex2 _ _ (Ne.symm (ne_zx hz' (tr y h))) (tr y h)
      · have : y = (q, t) := by simpa using h
        subst this
        exact hq2
    have al2 : ∀ y ∈ A ++ [(q, t)], isT y.2 = true ∧ Bd y.2 := fun y hy => by
      rcases List.mem_append.mp hy with h | h
      · exact al y h
      · have : y = (q, t) := by simpa using h
        subst this
        exact ⟨it, bd⟩
    refine ⟨ec2, A ++ [(q, t)], a2, _, by rw [List.map_append]; rfl, by rw [List.length_append, List.length_singleton]; omega, a2n, by rw [updM_ne hzc]; exact hz2, updM_same, fun y hy => ?_, ?_, al2, rfl⟩
    · rw [updM_ne (Ne.symm (ne_fx ec2 (tr2 y hy) (nil_ne (al2 y hy).1)))]
      exact tr2 y hy
    · rw [sz_app, List.length_append, List.length_singleton]
      simp only [sz, List.map_cons, List.map_nil, List.sum_cons, List.sum_nil] at s1 ⊢
      omega
theorem cut_take {B : List Tr} {i : Int} (h : 0 ≤ i) : cut3 B none (some i) = B.take i.toNat := by
  unfold cut3 sIx3
  dsimp only
  rw [if_neg (by omega), List.drop_zero, Nat.sub_zero]
  by_cases c : i.toNat ≤ B.length
  · rw [Nat.min_eq_left c]
  · rw [Nat.min_eq_right (by omega), List.take_of_length_le (Nat.le_refl _), List.take_of_length_le (by omega)]
theorem cut_drop {B : List Tr} {i : Int} (h : 0 ≤ i) : cut3 B (some i) none = B.drop i.toNat := by
  unfold cut3 sIx3
  dsimp only
  rw [if_neg (by omega)]
  by_cases c : i.toNat ≤ B.length
  · rw [Nat.min_eq_left c]
    exact List.take_of_length_le (by rw [List.length_drop]; omega)
  · rw [Nat.min_eq_right (by omega), List.drop_eq_nil_of_le (Nat.le_refl _), List.drop_eq_nil_of_le (by omega)]
    simp
theorem cut_map (B : List Tr) (lo hi : Option Int) : cut3 (B.map rf) lo hi = (cut3 B lo hi).map rf := by
  unfold cut3
  rw [List.length_map, List.map_take, List.map_drop]
noncomputable def spLaw : Sp3 := fun ds μ Q => ∃ ns : List Int, ds = [.fls (ns.map D.int)] ∧ ns.length ≤ 63 ∧ ∀ μ', Q (.bl true) μ'
/-- the bad one told -/
theorem bad_end {Q : VK3} (q : ∀ μ', Q (.bl true) μ') {o0 o3 o4 o5 o6 o7 : Option D} {z p e : Addr} {A : List Tr} {t : List Pt} {a i : Int} {b : Bool} {μ : Mu} (hp : μ p = some (.lst (A.map rf))) (hA : TRm μ A) (hl : A.length ≤ 4) (hs : sz A ≤ 36) (hb : ∀ x ∈ A, Bd x.2)
    (he : μ e = some (.lst (t.map encQ))) (ht : isT t = false) (h3 : t.length ≤ 3) (bt : Bd t) (i0 : 0 ≤ i) :
    t_law_r10 spChoice spRow spRef spState spSt spTold spTrl spWlk { nx := fun _ μ' => Q .non μ', rt := Q } [o0, some (.ref z), some (.ref p), o3, o4, o5, o6, o7, some (.ref e), some (.int i)] μ := by
  have zz : (100 : Nat) < sizeLine := by decide
  conv => whnf
  rw [hp]
  intro r1 h1
  rw [cut_map, cut_take i0]
  refine ⟨(show 1 ≤ sizeLine by decide), fun r2 h2 => ?_⟩
  have g1 : updM (updM μ r1 (.lst ((A.take i.toNat).map rf))) r2 (.lst [.ref e]) r1 = some (.lst ((A.take i.toNat).map rf)) := Ext.new h2 _ _ updM_same
  have g2 : updM (updM μ r1 (.lst ((A.take i.toNat).map rf))) r2 (.lst [.ref e]) r2 = some (.lst [.ref e]) := updM_same
  have ex2 : Ext μ (updM (updM μ r1 (.lst ((A.take i.toNat).map rf))) r2 (.lst [.ref e])) := (Ext.new h1).trans (Ext.new h2)
  have tl : (A.take i.toNat).length ≤ A.length := by rw [List.length_take]; omega
  have dl : (A.drop i.toNat).length ≤ A.length := by rw [List.length_drop]; omega
  conv => whnf
  rw [g1, g2]
  refine ⟨by rw [List.length_map]; simp only [List.length_cons, List.length_nil]; omega, fun r3 h3' => ?_⟩
  generalize updM (updM μ r1 (.lst ((A.take i.toNat).map rf))) r2 (.lst [.ref e]) = ν at ex2 h3'
  have g3 : updM ν r3 (.lst ((A.take i.toNat).map rf ++ [.ref e])) r3 = some (.lst ((A.take i.toNat).map rf ++ [.ref e])) := updM_same
  have ex3 : Ext μ (updM ν r3 (.lst ((A.take i.toNat).map rf ++ [.ref e]))) := ex2.trans (Ext.new h3')
  generalize updM ν r3 (.lst ((A.take i.toNat).map rf ++ [.ref e])) = ν3 at ex3 g3
  have hp3 := ex3 _ _ hp
  conv => whnf
  rw [hp3]
  intro r4 h4
  rw [cut_map, cut_drop i0]
  have g4 := Ext.new (o := .lst ((A.drop i.toNat).map rf)) h4 _ _ g3
  have g5 : updM ν3 r4 (.lst ((A.drop i.toNat).map rf)) r4 = some (.lst ((A.drop i.toNat).map rf)) := updM_same
  conv => whnf
  rw [g4, g5]
  refine ⟨by rw [List.length_append, List.length_map, List.length_map]; simp only [List.length_cons, List.length_nil]; omega, fun r5 h5 => ?_⟩
  have ex5 := (ex3.trans (Ext.new (o := .lst ((A.drop i.toNat).map rf)) h4)).trans (Ext.new (o := .lst ((A.take i.toNat).map rf ++ [.ref e] ++ (A.drop i.toNat).map rf)) h5)
  have sA := sz_app (A.take i.toNat) (A.drop i.toNat)
  rw [List.take_append_drop] at sA
  refine ⟨r5, A.take i.toNat ++ [(e, t)] ++ A.drop i.toNat, rfl, ?_, fun x hx => ?_, ?_, ?_, fun x hx => ?_, fun al => ?_, fun _ r6 μ6 ex6 er6 => ?_⟩
  · rw [updM_same, List.map_append, List.map_append]; rfl
  · refine ex5 _ _ ?_
    rcases List.mem_append.mp hx with h | h
    · rcases List.mem_append.mp h with h | h
      · exact hA x (List.mem_of_mem_take h)
      · have : x = (e, t) := by simpa using h
        subst this
        exact he
    · exact hA x (List.mem_of_mem_drop h)
  · rw [List.length_append, List.length_append, List.length_singleton, List.length_take, List.length_drop]; omega
  · rw [sz_app, sz_app]
    have : sz [(e, t)] = t.length := by simp [sz]
    omega
  · rcases List.mem_append.mp hx with h | h
    · rcases List.mem_append.mp h with h | h
      · exact hb x (List.mem_of_mem_take h)
      · have : x = (e, t) := by simpa using h
        subst this
        exact bt
    · exact hb x (List.mem_of_mem_drop h)
  · have := al (e, t) (by simp)
    rw [ht] at this
    cases this
  · exact ⟨r6, rfl, er6, fun μ7 _ => q μ7⟩
theorem bad_new {Q : VK3} (q : ∀ μ', Q (.bl true) μ') {o0 o3 o4 o5 o6 o7 : Option D} {z p : Addr} {A : List Tr} {a : Int} {b : Bool} {μ : Mu} (hz : μ z = some (.lst [.int a, .bl b])) (ha : 0 ≤ a) (hp : μ p = some (.lst (A.map rf))) (hA : TRm μ A) (hl : A.length ≤ 4) (hs : sz A ≤ 36) (hb : ∀ x ∈ A, Bd x.2) :
    t_law_r8 spChoice spRow spRef spState spSt spTold spTrl spWlk { nx := fun _ μ' => Q .non μ', rt := Q } [o0, some (.ref z), some (.ref p), o3, o4, o5, o6, o7, none, none] μ := by
  refine ⟨(show 0 ≤ sizeLine by decide), fun q1 h1 => ?_⟩
  refine ⟨z2, (show 1 ≤ sizeLine by decide), fun q2 h2 => ?_⟩
  refine ⟨z2, z2, z2, fun q3 h3 => ?_⟩
  refine ⟨z2, z2, z2, fun q4 h4 => ?_⟩
  refine ⟨z2, z2, z2, z3, fun q5 h5 => ?_⟩
  refine ⟨(show 5 ≤ sizeLine by decide), fun q6 h6 => ?_⟩
  have x6 := Ext.new (o := .lst [.ref q1, .ref q2, .ref q3, .ref q4, .ref q5]) h6
  have x5 := (Ext.new (o := .lst [encQ (0, 0), encQ (0, 1), encQ (0, 3)]) h5).trans x6
  have x4 := (Ext.new (o := .lst [encQ (0, 0), encQ (1, 1)]) h4).trans x5
  have x3 := (Ext.new (o := .lst [encQ (0, 0), encQ (0, 0)]) h3).trans x4
  have x2 := (Ext.new (o := .lst [encQ (0, 0)]) h2).trans x3
  have x1 := (Ext.new (o := .lst []) h1).trans x2
  have k5 := x6 _ _ (updM_same (a := q5) (o := .lst [encQ (0, 0), encQ (0, 1), encQ (0, 3)]))
  have k4 := x5 _ _ (updM_same (a := q4) (o := .lst [encQ (0, 0), encQ (1, 1)]))
  have k3 := x4 _ _ (updM_same (a := q3) (o := .lst [encQ (0, 0), encQ (0, 0)]))
  have k2 := x3 _ _ (updM_same (a := q2) (o := .lst [encQ (0, 0)]))
  have k1 := x2 _ _ (updM_same (a := q1) (o := .lst []))
  have hz6 := x1 _ _ hz
  have hp6 := x1 _ _ hp
  have hA6 := hA.ext x1
  refine ⟨z, 5, a, b, [], rfl, by decide, by decide, hz6, ha, fun r a2 r0 r1 a2n => ?_⟩
  have k6 : updM (updM (updM (updM (updM (updM μ q1 (.lst [])) q2 (.lst [encQ (0, 0)])) q3 (.lst [encQ (0, 0), encQ (0, 0)])) q4 (.lst [encQ (0, 0), encQ (1, 1)])) q5 (.lst [encQ (0, 0), encQ (0, 1), encQ (0, 3)])) q6 (.lst [.ref q1, .ref q2, .ref q3, .ref q4, .ref q5]) q6 = some (.lst [.ref q1, .ref q2, .ref q3, .ref q4, .ref q5]) := updM_same
  have nz6 : z ≠ q6 := fun e => by subst e; exact nomatch (k6.symm.trans hz6)
  have key : ∀ (ν : Mu) (e : Addr) (t : List Pt), ν z = some (.lst [.int a, .bl b]) → ν p = some (.lst (A.map rf)) → TRm ν A → ν e = some (.lst (t.map encQ)) → isT t = false → t.length ≤ 3 → Bd t →
      t_law_r9 spChoice spRow spRef spState spSt spTold spTrl spWlk { nx := fun _ μ' => Q .non μ', rt := Q } [o0, some (.ref z), some (.ref p), o3, o4, o5, o6, o7, some (.ref e), none] (updM ν z (.lst [.int a2, .bl b])) := by
    intro ν e t gz gp' gA ge it l3 bt
    have up : ∀ c o, ν c = some o → c ≠ z → ∀ a3, updM (updM ν z (.lst [.int a2, .bl b])) z (.lst [.int a3, .bl b]) c = some o := fun c o h n a3 => by rw [updM_ne n, updM_ne n]; exact h
    have gp2 : updM ν z (.lst [.int a2, .bl b]) p = some (.lst (A.map rf)) := by rw [updM_ne (Ne.symm (ne_zf gz gp'))]; exact gp'
    conv => whnf
    rw [gp2]
    refine ⟨z, ((A.map rf).length : Int) + 1, a2, b, [], rfl, by omega, by rw [List.length_map]; omega, updM_same, a2n, fun i a3 i0 i1 a3n => ?_⟩
    exact bad_end q (b := b) (a := a) (up p _ gp' (Ne.symm (ne_zf gz gp')) a3) (fun x hx => up _ _ (gA x hx) (Ne.symm (ne_zx gz (gA x hx))) a3) hl hs hb (up e _ ge (Ne.symm (ne_zx gz ge)) a3) it l3 bt i0
  have bq : ∀ {t : List Pt}, (∀ q ∈ t, (0 ≤ q.1 ∧ q.1 ≤ 3) ∧ 0 ≤ q.2 ∧ q.2 ≤ 3) → Bd t := fun h q hq => by have := h q hq; omega
  have u6 := updM_ne (μ := updM (updM (updM (updM (updM (updM μ q1 (.lst [])) q2 (.lst [encQ (0, 0)])) q3 (.lst [encQ (0, 0), encQ (0, 0)])) q4 (.lst [encQ (0, 0), encQ (1, 1)])) q5 (.lst [encQ (0, 0), encQ (0, 1), encQ (0, 3)])) q6 (.lst [.ref q1, .ref q2, .ref q3, .ref q4, .ref q5])) (o := .lst [.int a2, .bl b]) (Ne.symm nz6)
  have k7 := u6.trans k6
  rcases (show r = 0 ∨ r = 1 ∨ r = 2 ∨ r = 3 ∨ r = 4 by omega) with rfl | rfl | rfl | rfl | rfl
  · exact ix_ref k7 rfl (key _ q1 [] hz6 hp6 hA6 k1 rfl (by simp) (bq (by simp)))
  · exact ix_ref k7 rfl (key _ q2 [(0, 0)] hz6 hp6 hA6 k2 rfl (by simp) (bq (by simp)))
  · exact ix_ref k7 rfl (key _ q3 [(0, 0), (0, 0)] hz6 hp6 hA6 k3 rfl (by simp) (bq (by simp)))
  · exact ix_ref k7 rfl (key _ q4 [(0, 0), (1, 1)] hz6 hp6 hA6 k4 rfl (by simp) (bq (by simp)))
  · exact ix_ref k7 rfl (key _ q5 [(0, 0), (0, 1), (0, 3)] hz6 hp6 hA6 k5 rfl (by simp) (bq (by simp)))
noncomputable def WDue (p z : Addr) (o0 : Option D) (A : List Tr) (μ : Mu) : List D → St3 → Mu → Prop := fun l ρ μ' => ∃ (B : List Tr) (vs : List T3) (g : Addr) (d4 : Option D), l = B.map rf ∧ ρ = [o0, some (.ref z), some (.ref p), some (.ref g), d4, none, none, none, none, none] ∧ Ext μ μ' ∧ μ' g = some (.lst (vs.map encT)) ∧ vs ++ flat B = flat A ∧ ∀ x ∈ B, x ∈ A
theorem rd_law (ds : List D) (μ : Mu) (Q : VK3) (h : spLaw ds μ Q) : t_law spChoice spRow spRef spState spSt spTold spTrl spWlk { nx := fun _ μ' => Q .non μ', rt := Q } (start3 N_law ds) μ := by
  obtain ⟨ns, rfl, hn, q⟩ := h
  have zz : (100 : Nat) < sizeLine := by decide
  refine ⟨ns, 0, rfl, by decide, fun a b z ha hz => ?_⟩
  refine ⟨z, 5, a, b, [], rfl, by decide, by decide, updM_same, ha, fun m a1 m0 m1 a1n => ⟨⟨by omega, by omega⟩, fun c hc => ?_⟩⟩
  refine comp_tr (z := z) (a := a1) (b := b) updM_same a1n (by omega) hc fun A a2 μ1 a2n hz1 hc1 hA hl hs al => ?_
  refine ⟨(show 0 ≤ sizeLine by decide), fun f hf => ?_⟩
  have hc2 := Ext.new (o := .lst []) hf _ _ hc1
  conv => whnf
  rw [hc2]
  refine for_inv (WDue c z (some (.fls (ns.map D.int))) A μ1) ?_ ?_ ?_ ?_
  · exact ⟨A, [], f, none, rfl, rfl, Ext.new hf, updM_same, rfl, fun _ h => h⟩
  · rintro l ρ μ2 ⟨B, vs, g, d4, _, _, ex, _⟩
    exact ex _ _ hc1
  · rintro ρ μ2 ⟨B, vs, g, d4, el, rfl, ex, eg, fl, _⟩
    cases B with
    | cons _ _ => cases el
    | nil =>
      have fl2 : vs = flat A := by rw [← fl]; exact (List.append_nil vs).symm
      subst fl2
      have hc3 := ex _ _ hc1
      have hA3 := hA.ext ex
      have hfl := flat_len A
      conv => whnf
      rw [hc3]
      intro d hd
      refine comp_cp hc3 hA3 (by omega) hd fun B μ3 ex3 ec tb nd es => ?_
      have lB : B.length = A.length := by have := congrArg List.length es; simpa using this
      have sB : sz B = sz A := by
        have e : ∀ L : List Tr, sz L = ((L.map (·.2)).map List.length).sum := fun L => by unfold sz; rw [List.map_map]; rfl
        rw [e, e, es]
      have fB : flat B = flat A := by
        have e : ∀ L : List Tr, flat L = (L.map (·.2)).flatMap along := fun L => by unfold flat; rw [List.flatMap_map]
        rw [e, e, es]
      have mB : ∀ x ∈ B, isT x.2 = true ∧ Bd x.2 := fun x hx => by
        have hm : x.2 ∈ A.map (·.2) := by rw [← es]; exact List.mem_map_of_mem hx
        obtain ⟨y, hy, e⟩ := List.mem_map.mp hm
        rw [← e]; exact al y hy
      refine ⟨d, B, rfl, ec, tb, by omega, by omega, fun x hx => (mB x hx).2, fun _ q0 r0 ds0 μ4 ex4 eq0 w ok er0 => ?_, fun nal => absurd (fun x hx => (mB x hx).1) nal⟩
      rw [fB] at w ok
      refine ⟨rfl, ?_⟩
      refine ⟨(show 0 ≤ sizeLine by decide), fun e0 he0 => ?_⟩
      have ex5 := ex4.trans (Ext.new (o := .lst []) he0)
      have g1 : updM μ4 e0 (.lst []) r0 = some (.lst []) := Ext.new he0 _ _ er0
      have g2 : updM μ4 e0 (.lst []) e0 = some (.lst []) := updM_same
      have g3 := Ext.new (o := .lst []) he0 _ _ eq0
      show neR (.ref r0) (.ref e0) _ _
      rw [ne_nil g1 g2]
      generalize updM μ4 e0 (.lst []) = ν at ex5 g3
      have D1 := dat_N (ex5 _ _ ec) (tb.ext ex5)
      have D2 := dat_N ((ex3.trans ex5) _ _ hc3) (hA3.ext (ex3.trans ex5))
      have ev : PyData.eqv (.list (B.map dP)) (.list (A.map dP)) = true := by simp only [PyData.eqv, eqv_M B A es]
      have hdp : ∀ A : List Tr, (PyData.list (A.map dP)).depth ≤ 64 := fun A => by
        have := depth_M A
        simp only [PyData.depth]
        omega
      conv => whnf
      rw [D1, D2]
      refine ⟨⟨hdp _, hdp _⟩, ?_⟩
      rw [ev]
      refine ⟨q0, ds0, rfl, g3, ok.mono (by omega), fun μ5 ex6 => ?_⟩
      refine ⟨z3, q0, ds0, rfl, ex6 _ _ g3, ok.mono (by omega), by rw [w]; omega, fun r7 μ7 ex7 er7 => ?_⟩
      rw [w] at er7
      conv => whnf
      rw [er7]
      dsimp only
      rw [t3s_enc]
      dsimp only
      refine ⟨by omega, fun us u1 u2 r8 h8 => ?_⟩
      have eg8 : updM μ7 r8 (.lst (us.map encT)) g = some (.lst ((flat A).map encT)) := Ext.new h8 _ _ (ex7 _ _ (ex6 _ _ ((ex3.trans ex5) _ _ eg)))
      conv => whnf
      rw [eg8]
      dsimp only
      rw [t3s_enc]
      dsimp only
      refine ⟨by omega, fun us2 v1 v2 r9 h9 => ?_⟩
      have n1 : updM (updM μ7 r8 (.lst (us.map encT))) r9 (.lst (us2.map encT)) r8 = some (.lst (us.map encT)) := Ext.new h9 _ _ updM_same
      show neR (.ref r8) (.ref r9) _ _
      rw [ne_LT n1 updM_same, decide_eq_true (uniq (u1.trans v1.symm) u2 v2)]
      have exA : Ext μ1 (updM (updM μ7 r8 (.lst (us.map encT))) r9 (.lst (us2.map encT))) := ((((ex.trans (ex3.trans ex5)).trans ex6).trans ex7).trans (Ext.new h8)).trans (Ext.new h9)
      exact bad_new q (exA _ _ hz1) a2n (exA _ _ hc1) (hA.ext exA) hl hs fun x hx => (al x hx).2
  · rintro d rest ρ μ2 ⟨B, vs, g, d4, el, rfl, ex, eg, fl, hB⟩
    cases B with
    | nil => cases el
    | cons y B =>
      rw [List.map_cons] at el
      injection el with e1 e2
      subst e1 e2
      have hy := hB y (List.mem_cons_self ..)
      have an := ((isT_iff _).mp (al y hy).1).2
      refine ⟨y.1, y.2, rfl, ex _ _ (hA y hy), by have := sz_mem hy; omega, fun _ r μ3 ex3 hr er => ?_, fun n => absurd an n⟩
      have eg3 := ex3 _ _ eg
      conv => whnf
      rw [eg3, er]
      have hfl := flat_len A
      have e3 : vs ++ (along y.2 ++ flat B) = flat A := fl
      have e4 := congrArg List.length e3
      rw [List.length_append, List.length_append] at e4
      refine ⟨by rw [List.length_map, List.length_map]; omega, fun r2 hr2 => ?_⟩
      exact ⟨B, vs ++ along y.2, r2, _, rfl, rfl, (ex.trans ex3).trans (Ext.new hr2), by rw [updM_same, List.map_append], by rw [List.append_assoc]; exact fl, fun x hx => hB x (List.mem_cons_of_mem _ hx)⟩
end Pv

namespace Pv
open PySem PySem.Spec PyProof.Rows L2
noncomputable def top (i : Nat) : Stmt := PySem.Challenge.pw_penwright_k28_deeds_of_trails.main.body.getD i (.Pass ⟨0, 0, 0, 0⟩)
noncomputable def mth (i j : Nat) : Stmt := match top i with
  | .ClassDef _ _ _ b _ _ _ _ _ _ _ => b.getD j (.Pass ⟨0, 0, 0, 0⟩)
  | _ => .Pass ⟨0, 0, 0, 0⟩
section
variable {P : Program} {w : World} {K : Fg} {mg : Str → Option Value} {base : Heap}
noncomputable abbrev s_led : Stmt := top 12
theorem sc_led : FnScope N_led ["pen", "part"] (defScope s_led) := ⟨rfl, rfl, rfl, by decide +kernel, rfl, by decide +kernel, by decide +kernel⟩
theorem rs_led {k : Nat} {f : Addr} {cdv : Value} {A : Around} {outer : List Env} {s : Shared} {H : Hp} {E : XK} (g_AHEAD : Gd K mg "AHEAD" k_AHEAD) (hr : Room k (A.deeper (envOfC "led" (defScope s_led) s.heap.objs.size f cdv))) :
    RSs (cxOf CX0 P w K mg base N_led "led" (defScope s_led) f cdv A outer s H E).nox (defBody s_led) (t_led) :=
  (rss_cons (rs_set (i := 2) sc_led.nd (re_ix q_ix (re_g g_AHEAD) (re_ix q_ix (re_var 0) re_int))) (rss_cons (rs_set (i := 3) sc_led.nd (re_op q_sub (re_op q_add (re_ix q_ix (re_var 0) re_int) (re_op q_mul (re_ix q_ix (re_var 1) re_int) (re_ix q_ix (re_var 2) re_int))) (re_op q_mul (re_ix q_ix (re_var 1) re_int) (re_ix q_ix (re_var 2) re_int)))) (rss_cons (rs_set (i := 4) sc_led.nd (re_op q_add (re_op q_add (re_ix q_ix (re_var 0) re_int) (re_op q_mul (re_ix q_ix (re_var 1) re_int) (re_ix q_ix (re_var 2) re_int))) (re_op q_mul (re_ix q_ix (re_var 1) re_int) (re_ix q_ix (re_var 2) re_int)))) (rss_one (rs_ret (re_tup (ra_cons (re_var 3) (ra_cons (re_var 4) (ra_cons (re_op q_mod (re_op q_add (re_ix q_ix (re_var 0) re_int) (re_ix q_ix (re_var 1) re_int)) re_int) ra_nil)))))))))
noncomputable abbrev s_is_trail : Stmt := top 15
theorem sc_is_trail : FnScope N_is_trail ["trail"] (defScope s_is_trail) := ⟨rfl, rfl, rfl, by decide +kernel, rfl, by decide +kernel, by decide +kernel⟩
theorem rs_is_trail {k : Nat} {f : Addr} {cdv : Value} {A : Around} {outer : List Env} {s : Shared} {H : Hp} {E : XK} {sp_are_next : Sp3} {k_are_next : Nat} (c_are_next : Cal P w K mg base k_are_next "are_next" ["point", "other"] sp_are_next) (l_are_next : k_are_next ≤ k) (z_all : mg "all" = none) (z_len : mg "len" = none) (z_range : mg "range" = none) (hr : Room k (A.deeper (envOfC "is_trail" (defScope s_is_trail) s.heap.objs.size f cdv))) :
    RSs (cxOf CX0 P w K mg base N_is_trail "is_trail" (defScope s_is_trail) f cdv A outer s H E).nox (defBody s_is_trail) (t_is_trail sp_are_next) :=
  (rss_one (rs_ret (re_and (re_cmp q_gt (re_callB q_len z_len bz_len (ra_cons (re_var 0) ra_nil)) re_int) (re_one (re_callB q_all z_all bz_all (ra_cons (re_compG (NN := ["place", "trail"]) (js := [none, some 0]) rfl comp_sc (ri_range2 z_range re_int (re_callB q_len z_len bz_len (ra_cons (re_var 0) ra_nil))) (fun _ _ _ _ _ => (rg_name (i := 0) (show List.Nodup (["place", "trail"] : List Str) by decide +kernel))) (fun _ _ _ _ _ => rts_nil) (fun _ _ _ _ _ => (re_call (c_are_next.mono l_are_next) hr (ra_cons (re_ix q_ix (re_var 1) (re_op q_sub (re_var 0) re_int)) (ra_cons (re_ix q_ix (re_var 1) (re_var 0)) ra_nil)))) (by intro _; rfl)) ra_nil))))))
noncomputable abbrev s_are_next : Stmt := top 16
theorem sc_are_next : FnScope N_are_next ["point", "other"] (defScope s_are_next) := ⟨rfl, rfl, rfl, by decide +kernel, rfl, by decide +kernel, by decide +kernel⟩
theorem rs_are_next {k : Nat} {f : Addr} {cdv : Value} {A : Around} {outer : List Env} {s : Shared} {H : Hp} {E : XK} (z_abs : mg "abs" = none) (hr : Room k (A.deeper (envOfC "are_next" (defScope s_are_next) s.heap.objs.size f cdv))) :
    RSs (cxOf CX0 P w K mg base N_are_next "are_next" (defScope s_are_next) f cdv A outer s H E).nox (defBody s_are_next) (t_are_next) :=
  (rss_one (rs_ret (re_cmp (q_eq (hu64 hr)) (re_op q_add (re_callB q_abs z_abs bz_abs (ra_cons (re_op q_sub (re_ix q_ix (re_var 0) re_int) (re_ix q_ix (re_var 1) re_int)) ra_nil)) (re_callB q_abs z_abs bz_abs (ra_cons (re_op q_sub (re_ix q_ix (re_var 0) re_int) (re_ix q_ix (re_var 1) re_int)) ra_nil))) re_int)))
noncomputable abbrev s_deeds_of : Stmt := top 17
theorem sc_deeds_of : FnScope N_deeds_of ["trails"] (defScope s_deeds_of) := ⟨rfl, rfl, rfl, by decide +kernel, rfl, by decide +kernel, by decide +kernel⟩
theorem rs_deeds_of {k : Nat} {f : Addr} {cdv : Value} {A : Around} {outer : List Env} {s : Shared} {H : Hp} {E : XK} {XE : XE3} (EX : EXok K mg XE E) {C_Scribe : Addr} {sp_Scribe___init__ : Sp3} {k_Scribe___init__ : Nat} (c_Scribe___init__ : CalT P w K mg base k_Scribe___init__ C_Scribe "__init__" ["self"] sp_Scribe___init__) (l_Scribe___init__ : k_Scribe___init__ < k) {sp_Scribe_go_to : Sp3} {k_Scribe_go_to : Nat} (c_Scribe_go_to : CalT P w K mg base k_Scribe_go_to C_Scribe "go_to" ["self", "point"] sp_Scribe_go_to) (l_Scribe_go_to : k_Scribe_go_to ≤ k) {sp_Scribe_jump_to : Sp3} {k_Scribe_jump_to : Nat} (c_Scribe_jump_to : CalT P w K mg base k_Scribe_jump_to C_Scribe "jump_to" ["self", "point"] sp_Scribe_jump_to) (l_Scribe_jump_to : k_Scribe_jump_to ≤ k) {sp_is_trail : Sp3} {k_is_trail : Nat} (c_is_trail : Cal P w K mg base k_is_trail "is_trail" ["trail"] sp_is_trail) (l_is_trail : k_is_trail ≤ k) (oc_Scribe : ObjC K "Scribe" C_Scribe) (na_Scribe_deeds : NoAttr K C_Scribe "deeds") (mk_Scribe : PySem.W.makesIn K C_Scribe = true) (kp_Scribe : PySem.W.keepIn K (.ref C_Scribe) = true) (m_Scribe : mg "Scribe" = some (.ref C_Scribe)) {C_NoPicture : Addr} (O_NoPicture : OwnCls "NoPicture" C_NoPicture [.type "ValueError", .type "Exception", .type "BaseException", .type "object"] "ValueError.__new__" mg base) (z_all : mg "all" = none) (hr : Room k (A.deeper (envOfC "deeds_of" (defScope s_deeds_of) s.heap.objs.size f cdv))) :
    RSs (cxOf (CXn P w) P w K mg base N_deeds_of "deeds_of" (defScope s_deeds_of) f cdv A outer s H E) (defBody s_deeds_of) (t_deeds_of XE sp_Scribe___init__ sp_Scribe_go_to sp_Scribe_jump_to sp_is_trail) :=
  (rss_cons (rs_if (rt_not (rt_val (re_callB q_all z_all bz_all (ra_cons (re_comp (NN := ["trail"]) (by decide +kernel) (by decide +kernel) (by decide +kernel) (ri_seq (re_var 0)) (fun _ _ _ _ _ => (rg_name (i := 0) (show List.Nodup (["trail"] : List Str) by decide +kernel))) (fun _ _ _ _ _ => rts_nil) (fun _ _ _ _ _ => (re_call (c_is_trail.mono l_is_trail) hr (ra_cons (re_var 0) ra_nil)))) ra_nil)))) (rss_one (rs_raise EX O_NoPicture PySem.F.excBase_ValueError (by decide) PySem.F.excBase_ValueError (ra_cons re_str ra_nil))) rss_nil) (rss_cons (rs_set (i := 1) sc_deeds_of.nd (re_make0 oc_Scribe mk_Scribe kp_Scribe c_Scribe___init__ m_Scribe (hr.mono l_Scribe___init__))) (rss_cons (rs_for PassesOwn.leaving rfl (ri_seq (re_var 0)) (rg_name (i := 2) sc_deeds_of.nd) (rss_cons (rs_expr (re_meth (re_var 1) oc_Scribe (c_Scribe_jump_to.mono l_Scribe_jump_to) hr (ra_cons (re_ix q_ix (re_var 2) re_int) ra_nil))) (rss_one (rs_for PassesOwn.leaving rfl (ri_seq (re_slice q_sl (re_var 2) (ro_some re_int) ro_none)) (rg_name (i := 3) sc_deeds_of.nd) (rss_one (rs_expr (re_meth (re_var 1) oc_Scribe (c_Scribe_go_to.mono l_Scribe_go_to) hr (ra_cons (re_var 3) ra_nil)))))))) (rss_one (rs_ret (re_fld (re_var 1) oc_Scribe na_Scribe_deeds))))))
noncomputable abbrev s_jumps_over : Stmt := top 19
theorem sc_jumps_over : FnScope N_jumps_over ["far"] (defScope s_jumps_over) := ⟨rfl, rfl, rfl, by decide +kernel, rfl, by decide +kernel, by decide +kernel⟩
theorem rs_jumps_over {k : Nat} {f : Addr} {cdv : Value} {A : Around} {outer : List Env} {s : Shared} {H : Hp} {E : XK} (z_abs : mg "abs" = none) (g_GREATEST_NUMBER : Gd K mg "GREATEST_NUMBER" k_GREATEST_NUMBER) (g_MOST_PARTS : Gd K mg "MOST_PARTS" k_MOST_PARTS) (hr : Room k (A.deeper (envOfC "jumps_over" (defScope s_jumps_over) s.heap.objs.size f cdv))) :
    RSs (cxOf CX0 P w K mg base N_jumps_over "jumps_over" (defScope s_jumps_over) f cdv A outer s H E).nox (defBody s_jumps_over) (t_jumps_over) :=
  (rss_cons (rs_set (i := 1) sc_jumps_over.nd (re_op q_fdiv (re_callB q_abs z_abs bz_abs (ra_cons (re_var 0) ra_nil)) (re_g g_GREATEST_NUMBER))) (rss_cons (rs_if (rt_cmp q_gt (re_var 1) (re_g g_MOST_PARTS)) (rss_one (rs_ret (re_lst (ra_cons (re_var 0) ra_nil)))) rss_nil) (rss_cons (rs_set (i := 2) sc_jumps_over.nd (re_if (rt_cmp q_gt (re_var 0) re_int) re_int (re_un q_neg re_int))) (rss_cons (rs_set (i := 3) sc_jumps_over.nd (re_op q_sub (re_var 0) (re_op q_mul (re_op q_mul (re_var 2) (re_var 1)) (re_g g_GREATEST_NUMBER)))) (rss_one (rs_ret (re_op q_add (re_op q_mul (re_lst (ra_cons (re_op q_mul (re_var 2) (re_g g_GREATEST_NUMBER)) ra_nil)) (re_var 1)) (re_if (rt_cmp (q_ne (hu64 hr)) (re_var 3) re_int) (re_lst (ra_cons (re_var 3) ra_nil)) (re_lst ra_nil)))))))))
noncomputable abbrev s__law_cell_at : Stmt := top 21
theorem sc__law_cell_at : FnScope N__law_cell_at ["script", "k"] (defScope s__law_cell_at) := ⟨rfl, rfl, rfl, by decide +kernel, rfl, by decide +kernel, by decide +kernel⟩
theorem rs__law_cell_at {k : Nat} {f : Addr} {cdv : Value} {A : Around} {outer : List Env} {s : Shared} {H : Hp} {E : XK} (z_len : mg "len" = none) (hr : Room k (A.deeper (envOfC "_law_cell_at" (defScope s__law_cell_at) s.heap.objs.size f cdv))) :
    RSs (cxOf CX0 P w K mg base N__law_cell_at "_law_cell_at" (defScope s__law_cell_at) f cdv A outer s H E).nox (defBody s__law_cell_at) (t__law_cell_at) :=
  (rss_cons (rs_if (rt_cmp q_lt (re_var 1) (re_callB q_len z_len bz_len (ra_cons (re_var 0) ra_nil))) (rss_one (rs_ret (re_ix q_ix (re_var 0) (re_var 1)))) rss_nil) (rss_one (rs_ret re_int)))
noncomputable abbrev s__law_whole : Stmt := top 22
theorem sc__law_whole : FnScope N__law_whole ["found"] (defScope s__law_whole) := ⟨rfl, rfl, rfl, by decide +kernel, rfl, by decide +kernel, by decide +kernel⟩
theorem rs__law_whole {k : Nat} {f : Addr} {cdv : Value} {A : Around} {outer : List Env} {s : Shared} {H : Hp} {E : XK} (z_bool : mg "bool" = none) (z_int : mg "int" = none) (z_isinstance : mg "isinstance" = none) (hr : Room k (A.deeper (envOfC "_law_whole" (defScope s__law_whole) s.heap.objs.size f cdv))) :
    RSs (cxOf CX0 P w K mg base N__law_whole "_law_whole" (defScope s__law_whole) f cdv A outer s H E).nox (defBody s__law_whole) (t__law_whole) :=
  (rss_one (rs_ret (re_and (re_callB q_isi z_isinstance bz_isinstance (ra_cons (re_var 0) (ra_cons (re_ty z_int bz_int) ra_nil))) (re_one (re_not (re_callB q_isi z_isinstance bz_isinstance (ra_cons (re_var 0) (ra_cons (re_ty z_bool bz_bool) ra_nil))))))))
noncomputable abbrev s__law_state : Stmt := top 23
theorem sc__law_state : FnScope N__law_state ["script", "k"] (defScope s__law_state) := ⟨rfl, rfl, rfl, by decide +kernel, rfl, by decide +kernel, by decide +kernel⟩
theorem rs__law_state {k : Nat} {f : Addr} {cdv : Value} {A : Around} {outer : List Env} {s : Shared} {H : Hp} {E : XK} {sp__law_cell_at : Sp3} {k__law_cell_at : Nat} (c__law_cell_at : Cal P w K mg base k__law_cell_at "_law_cell_at" ["script", "k"] sp__law_cell_at) (l__law_cell_at : k__law_cell_at ≤ k) (hr : Room k (A.deeper (envOfC "_law_state" (defScope s__law_state) s.heap.objs.size f cdv))) :
    RSs (cxOf CX0 P w K mg base N__law_state "_law_state" (defScope s__law_state) f cdv A outer s H E).nox (defBody s__law_state) (t__law_state sp__law_cell_at) :=
  (rss_cons (rs_set (i := 2) sc__law_state.nd (re_call (c__law_cell_at.mono l__law_cell_at) hr (ra_cons (re_var 0) (ra_cons (re_var 1) ra_nil)))) (rss_cons (rs_if (rt_cmp q_ge (re_var 2) (re_op q_pow re_int re_int)) (rss_one (rs_ret (re_lst (ra_cons (re_op q_sub (re_var 2) (re_op q_pow re_int re_int)) (ra_cons re_bl ra_nil))))) rss_nil) (rss_one (rs_ret (re_lst (ra_cons (re_op q_mod (re_var 2) re_int) (ra_cons re_bl ra_nil)))))))
noncomputable abbrev s__law_choice : Stmt := top 24
theorem sc__law_choice : FnScope N__law_choice ["state", "many"] (defScope s__law_choice) := ⟨rfl, rfl, rfl, by decide +kernel, rfl, by decide +kernel, by decide +kernel⟩
theorem rs__law_choice {k : Nat} {f : Addr} {cdv : Value} {A : Around} {outer : List Env} {s : Shared} {H : Hp} {E : XK} (hr : Room k (A.deeper (envOfC "_law_choice" (defScope s__law_choice) s.heap.objs.size f cdv))) :
    RSs (cxOf CX0 P w K mg base N__law_choice "_law_choice" (defScope s__law_choice) f cdv A outer s H E).nox (defBody s__law_choice) (t__law_choice) :=
  (rss_cons (rs_if (rt_val (re_ix q_ix (re_var 0) re_int)) (rss_cons (rs_set (i := 2) sc__law_choice.nd (re_op q_mod (re_ix q_ix (re_var 0) re_int) (re_var 1))) (rss_cons (rs_asg (re_op q_fdiv (re_ix q_ix (re_var 0) re_int) (re_var 1)) (rg_sub (re_var 0) re_int)) (rss_one (rs_ret (re_var 2))))) rss_nil) (rss_cons (rs_asg (re_op q_mod (re_op q_add (re_op q_mul (re_ix q_ix (re_var 0) re_int) re_int) re_int) re_int) (rg_sub (re_var 0) re_int)) (rss_cons (rs_set (i := 3) sc__law_choice.nd (re_op q_mod (re_op q_add (re_op q_add (re_op q_mul (re_ix q_ix (re_var 0) re_int) (re_ix q_ix (re_var 0) re_int)) (re_op q_mul re_int (re_ix q_ix (re_var 0) re_int))) re_int) re_int)) (rss_cons (rs_set (i := 3) sc__law_choice.nd (re_op q_mod (re_op q_add (re_op q_mul (re_var 3) (re_var 3)) (re_op q_mul re_int (re_var 3))) re_int)) (rss_one (rs_ret (re_op q_mod (re_op q_fdiv (re_var 3) re_int) (re_var 1))))))))
noncomputable abbrev s__law_walked : Stmt := top 25
theorem sc__law_walked : FnScope N__law_walked ["deeds", "pen"] (defScope s__law_walked) := ⟨rfl, rfl, rfl, by decide +kernel, rfl, by decide +kernel, by decide +kernel⟩
theorem rs__law_walked {k : Nat} {f : Addr} {cdv : Value} {A : Around} {outer : List Env} {s : Shared} {H : Hp} {E : XK} (z_min : mg "min" = none) (z_range : mg "range" = none) (hr : Room k (A.deeper (envOfC "_law_walked" (defScope s__law_walked) s.heap.objs.size f cdv))) :
    RSs (cxOf CX0 P w K mg base N__law_walked "_law_walked" (defScope s__law_walked) f cdv A outer s H E).nox (defBody s__law_walked) (t__law_walked) :=
  (rss_cons (rs_asg (re_var 1) (rg_tup rfl (rgs_cons (rg_name (i := 2) sc__law_walked.nd) (rgs_cons (rg_name (i := 3) sc__law_walked.nd) (rgs_cons (rg_name (i := 4) sc__law_walked.nd) rgs_nil))))) (rss_cons (rs_set (i := 5) sc__law_walked.nd (re_lst ra_nil)) (rss_cons (rs_for PassesOwn.never rfl (ri_seq (re_var 0)) (rg_tup rfl (rgs_cons (rg_name (i := 6) sc__law_walked.nd) (rgs_cons (rg_name (i := 7) sc__law_walked.nd) rgs_nil))) (rss_cons (rs_set (i := 8) sc__law_walked.nd (re_ix q_ix (re_lst (ra_cons (re_tup (ra_cons re_int (ra_cons re_int ra_nil))) (ra_cons (re_tup (ra_cons re_int (ra_cons re_int ra_nil))) (ra_cons (re_tup (ra_cons (re_un q_neg re_int) (ra_cons re_int ra_nil))) (ra_cons (re_tup (ra_cons re_int (ra_cons (re_un q_neg re_int) ra_nil))) ra_nil))))) (re_var 4))) (rss_one (rs_if (rt_cmp (q_eq (hu64 hr)) (re_var 6) re_str) (rss_one (rs_set (i := 4) sc__law_walked.nd (re_op q_mod (re_op q_add (re_var 4) (re_var 7)) re_int))) (rss_one (rs_if (rt_cmp (q_eq (hu64 hr)) (re_var 6) re_str) (rss_cons (rs_set (i := 2) sc__law_walked.nd (re_op q_add (re_var 2) (re_op q_mul (re_ix q_ix (re_var 8) re_int) (re_var 7)))) (rss_one (rs_set (i := 3) sc__law_walked.nd (re_op q_add (re_var 3) (re_op q_mul (re_ix q_ix (re_var 8) re_int) (re_var 7)))))) (rss_one (rs_for PassesOwn.never rfl (ri_range1 z_range (re_var 7)) (rg_name (i := 9) sc__law_walked.nd) (rss_cons (rs_set (i := 10) sc__law_walked.nd (re_callB (q_min rfl (hu64 hr)) z_min bz_min (ra_cons (re_tup (ra_cons (re_var 2) (ra_cons (re_var 3) ra_nil))) (ra_cons (re_tup (ra_cons (re_op q_add (re_var 2) (re_ix q_ix (re_var 8) re_int)) (ra_cons (re_op q_add (re_var 3) (re_ix q_ix (re_var 8) re_int)) ra_nil))) ra_nil)))) (rss_cons (rs_expr (re_append (re_var 5) (ra_cons (re_tup (ra_cons (re_ix q_ix (re_var 10) re_int) (ra_cons (re_ix q_ix (re_var 10) re_int) (ra_cons (re_op q_mod (re_var 4) re_int) ra_nil)))) ra_nil))) (rss_cons (rs_set (i := 2) sc__law_walked.nd (re_op q_add (re_var 2) (re_ix q_ix (re_var 8) re_int))) (rss_one (rs_set (i := 3) sc__law_walked.nd (re_op q_add (re_var 3) (re_ix q_ix (re_var 8) re_int))))))))))))))) (rss_one (rs_ret (re_tup (ra_cons (re_tup (ra_cons (re_var 2) (ra_cons (re_var 3) (ra_cons (re_var 4) ra_nil)))) (ra_cons (re_var 5) ra_nil))))))))
noncomputable abbrev s__law_marks : Stmt := top 26
theorem sc__law_marks : FnScope N__law_marks ["e"] (defScope s__law_marks) := ⟨rfl, rfl, rfl, by decide +kernel, rfl, by decide +kernel, by decide +kernel⟩
theorem rs__law_marks {k : Nat} {f : Addr} {cdv : Value} {A : Around} {outer : List Env} {s : Shared} {H : Hp} {E : XK} {C_BadNote : Addr} (m_BadNote : mg "BadNote" = some (.ref C_BadNote)) (x_BadNote : ∀ c C b, subX "BadNote" c = some b → PySem.W.nsIn K mainGlobals c = some (some (.ref C)) → ExcK K C ∧ PySem.W.kitOne K (.ref C) (.ref C_BadNote) = some b) {C_NoNumber : Addr} (m_NoNumber : mg "NoNumber" = some (.ref C_NoNumber)) (x_NoNumber : ∀ c C b, subX "NoNumber" c = some b → PySem.W.nsIn K mainGlobals c = some (some (.ref C)) → ExcK K C ∧ PySem.W.kitOne K (.ref C) (.ref C_NoNumber) = some b) {C_NoPicture : Addr} (m_NoPicture : mg "NoPicture" = some (.ref C_NoPicture)) (x_NoPicture : ∀ c C b, subX "NoPicture" c = some b → PySem.W.nsIn K mainGlobals c = some (some (.ref C)) → ExcK K C ∧ PySem.W.kitOne K (.ref C) (.ref C_NoPicture) = some b) {C_NoRoom : Addr} (m_NoRoom : mg "NoRoom" = some (.ref C_NoRoom)) (x_NoRoom : ∀ c C b, subX "NoRoom" c = some b → PySem.W.nsIn K mainGlobals c = some (some (.ref C)) → ExcK K C ∧ PySem.W.kitOne K (.ref C) (.ref C_NoRoom) = some b) {C_NoStep : Addr} (m_NoStep : mg "NoStep" = some (.ref C_NoStep)) (x_NoStep : ∀ c C b, subX "NoStep" c = some b → PySem.W.nsIn K mainGlobals c = some (some (.ref C)) → ExcK K C ∧ PySem.W.kitOne K (.ref C) (.ref C_NoStep) = some b) {C_NoWord : Addr} (m_NoWord : mg "NoWord" = some (.ref C_NoWord)) (x_NoWord : ∀ c C b, subX "NoWord" c = some b → PySem.W.nsIn K mainGlobals c = some (some (.ref C)) → ExcK K C ∧ PySem.W.kitOne K (.ref C) (.ref C_NoWord) = some b) (x_ValueError : ∀ c C b, subX "ValueError" c = some b → PySem.W.nsIn K mainGlobals c = some (some (.ref C)) → ExcK K C ∧ PySem.W.kitOne K (.ref C) (.type "ValueError") = some b) (z_ValueError : mg "ValueError" = none) (z_isinstance : mg "isinstance" = none) (hr : RoomM k (A.deeper (envOfC "_law_marks" (defScope s__law_marks) s.heap.objs.size f cdv))) :
    RSs (cxM CX0 P w K mg base N__law_marks "_law_marks" (defScope s__law_marks) f cdv A outer s H E).nox (defBody s__law_marks) (t__law_marks) :=
  (rss_cons (rs_set (i := 1) sc__law_marks.nd (re_lst (ra_cons (re_isx (re_var 0) (pe_cls rfl m_NoWord) (fun _ h => h) x_NoWord z_isinstance) (ra_cons (re_isx (re_var 0) (pe_cls rfl m_NoRoom) (fun _ h => h) x_NoRoom z_isinstance) (ra_cons (re_isx (re_var 0) (pe_cls rfl m_NoStep) (fun _ h => h) x_NoStep z_isinstance) (ra_cons (re_isx (re_var 0) (pe_cls rfl m_NoPicture) (fun _ h => h) x_NoPicture z_isinstance) ra_nil)))))) (rss_one (rs_ret (re_op q_add (re_var 1) (re_lst (ra_cons (re_isx (re_var 0) (pe_cls rfl m_NoNumber) (fun _ h => h) x_NoNumber z_isinstance) (ra_cons (re_isx (re_var 0) (pe_cls rfl m_BadNote) (fun _ h => h) x_BadNote z_isinstance) (ra_cons (re_isx (re_var 0) (pe_bltn rfl z_ValueError bz_ValueError (show RelV (.ty "ValueError") (.type "ValueError") from rfl)) (fun _ h => h) x_ValueError z_isinstance) ra_nil))))))))
noncomputable abbrev s__law_refused : Stmt := top 27
theorem sc__law_refused : FnScope N__law_refused ["marks", "which"] (defScope s__law_refused) := ⟨rfl, rfl, rfl, by decide +kernel, rfl, by decide +kernel, by decide +kernel⟩
theorem rs__law_refused {k : Nat} {f : Addr} {cdv : Value} {A : Around} {outer : List Env} {s : Shared} {H : Hp} {E : XK} (z_range : mg "range" = none) (hr : Room k (A.deeper (envOfC "_law_refused" (defScope s__law_refused) s.heap.objs.size f cdv))) :
    RSs (cxOf CX0 P w K mg base N__law_refused "_law_refused" (defScope s__law_refused) f cdv A outer s H E).nox (defBody s__law_refused) (t__law_refused) :=
  (rss_one (rs_ret (re_cmp (q_eq (hu64 hr)) (re_var 0) (re_op q_add (re_compG (NN := ["k", "which"]) (js := [none, some 1]) rfl comp_sc (ri_range1 z_range re_int) (fun _ _ _ _ _ => (rg_name (i := 0) (show List.Nodup (["k", "which"] : List Str) by decide +kernel))) (fun _ _ _ _ _ => rts_nil) (fun _ _ _ _ _ => (re_cmp (q_eq (hu64 hr)) (re_var 0) (re_var 1))) (by intro _; rfl)) (re_lst (ra_cons re_bl ra_nil))))))
noncomputable abbrev s__law_from_ends : Stmt := top 29
theorem sc__law_from_ends : FnScope N__law_from_ends ["one", "other"] (defScope s__law_from_ends) := ⟨rfl, rfl, rfl, by decide +kernel, rfl, by decide +kernel, by decide +kernel⟩
theorem rs__law_from_ends {k : Nat} {f : Addr} {cdv : Value} {A : Around} {outer : List Env} {s : Shared} {H : Hp} {E : XK} (z_max : mg "max" = none) (z_min : mg "min" = none) (hr : Room k (A.deeper (envOfC "_law_from_ends" (defScope s__law_from_ends) s.heap.objs.size f cdv))) :
    RSs (cxOf CX0 P w K mg base N__law_from_ends "_law_from_ends" (defScope s__law_from_ends) f cdv A outer s H E).nox (defBody s__law_from_ends) (t__law_from_ends) :=
  (rss_cons (rs_set (i := 2) sc__law_from_ends.nd (re_callB (q_min rfl (hu64 hr)) z_min bz_min (ra_cons (re_var 0) (ra_cons (re_var 1) ra_nil)))) (rss_cons (rs_set (i := 3) sc__law_from_ends.nd (re_callB (q_maxP rfl (hu64 hr)) z_max bz_max (ra_cons (re_var 0) (ra_cons (re_var 1) ra_nil)))) (rss_one (rs_ret (re_tup (ra_cons (re_ix q_ix (re_var 2) re_int) (ra_cons (re_ix q_ix (re_var 2) re_int) (ra_cons (re_op q_sub (re_ix q_ix (re_var 3) re_int) (re_ix q_ix (re_var 2) re_int)) ra_nil))))))))
noncomputable abbrev s__law_strokes : Stmt := top 30
theorem sc__law_strokes : FnScope N__law_strokes ["trail"] (defScope s__law_strokes) := ⟨rfl, rfl, rfl, by decide +kernel, rfl, by decide +kernel, by decide +kernel⟩
theorem rs__law_strokes {k : Nat} {f : Addr} {cdv : Value} {A : Around} {outer : List Env} {s : Shared} {H : Hp} {E : XK} {sp__law_from_ends : Sp3} {k__law_from_ends : Nat} (c__law_from_ends : Cal P w K mg base k__law_from_ends "_law_from_ends" ["one", "other"] sp__law_from_ends) (l__law_from_ends : k__law_from_ends ≤ k) (z_abs : mg "abs" = none) (z_len : mg "len" = none) (z_range : mg "range" = none) (hr : Room k (A.deeper (envOfC "_law_strokes" (defScope s__law_strokes) s.heap.objs.size f cdv))) :
    RSs (cxOf CX0 P w K mg base N__law_strokes "_law_strokes" (defScope s__law_strokes) f cdv A outer s H E).nox (defBody s__law_strokes) (t__law_strokes sp__law_from_ends) :=
  (rss_cons (rs_set (i := 1) sc__law_strokes.nd (re_lst ra_nil)) (rss_cons (rs_for PassesOwn.never rfl (ri_range1 z_range (re_op q_sub (re_callB q_len z_len bz_len (ra_cons (re_var 0) ra_nil)) re_int)) (rg_name (i := 2) sc__law_strokes.nd) (rss_cons (rs_set (i := 3) sc__law_strokes.nd (re_ix q_ix (re_var 0) (re_var 2))) (rss_cons (rs_set (i := 4) sc__law_strokes.nd (re_ix q_ix (re_var 0) (re_op q_add (re_var 2) re_int))) (rss_cons (rs_if (rt_cmp (q_ne (hu64 hr)) (re_op q_add (re_callB q_abs z_abs bz_abs (ra_cons (re_op q_sub (re_ix q_ix (re_var 3) re_int) (re_ix q_ix (re_var 4) re_int)) ra_nil)) (re_callB q_abs z_abs bz_abs (ra_cons (re_op q_sub (re_ix q_ix (re_var 3) re_int) (re_ix q_ix (re_var 4) re_int)) ra_nil))) re_int) (rss_one (rs_ret re_non)) rss_nil) (rss_one (rs_expr (re_append (re_var 1) (ra_cons (re_call (c__law_from_ends.mono l__law_from_ends) hr (ra_cons (re_var 3) (ra_cons (re_var 4) ra_nil))) ra_nil)))))))) (rss_one (rs_ret (re_var 1)))))
noncomputable abbrev s__law_trail : Stmt := top 32
theorem sc__law_trail : FnScope N__law_trail ["state"] (defScope s__law_trail) := ⟨rfl, rfl, rfl, by decide +kernel, rfl, by decide +kernel, by decide +kernel⟩
theorem rs__law_trail {k : Nat} {f : Addr} {cdv : Value} {A : Around} {outer : List Env} {s : Shared} {H : Hp} {E : XK} {sp__law_choice : Sp3} {k__law_choice : Nat} (c__law_choice : Cal P w K mg base k__law_choice "_law_choice" ["state", "many"] sp__law_choice) (l__law_choice : k__law_choice ≤ k) (z_range : mg "range" = none) (hr : Room k (A.deeper (envOfC "_law_trail" (defScope s__law_trail) s.heap.objs.size f cdv))) :
    RSs (cxOf CX0 P w K mg base N__law_trail "_law_trail" (defScope s__law_trail) f cdv A outer s H E).nox (defBody s__law_trail) (t__law_trail sp__law_choice) :=
  (rss_cons (rs_set (i := 1) sc__law_trail.nd (re_ix q_ix (re_lst (ra_cons re_int (ra_cons re_int (ra_cons (re_op q_pow re_int re_int) ra_nil)))) (re_call (c__law_choice.mono l__law_choice) hr (ra_cons (re_var 0) (ra_cons re_int ra_nil))))) (rss_cons (rs_set (i := 2) sc__law_trail.nd (re_lst (ra_cons (re_tup (ra_cons (re_op q_sub (re_call (c__law_choice.mono l__law_choice) hr (ra_cons (re_var 0) (ra_cons (re_var 1) ra_nil))) re_int) (ra_cons (re_op q_sub (re_call (c__law_choice.mono l__law_choice) hr (ra_cons (re_var 0) (ra_cons (re_var 1) ra_nil))) re_int) ra_nil))) ra_nil))) (rss_cons (rs_for PassesOwn.never rfl (ri_range1 z_range (re_op q_add re_int (re_call (c__law_choice.mono l__law_choice) hr (ra_cons (re_var 0) (ra_cons re_int ra_nil))))) (rg_name (i := 3) sc__law_trail.nd) (rss_cons (rs_asg (re_ix q_ix (re_var 2) (re_un q_neg re_int)) (rg_tup rfl (rgs_cons (rg_name (i := 4) sc__law_trail.nd) (rgs_cons (rg_name (i := 5) sc__law_trail.nd) rgs_nil)))) (rss_cons (rs_set (i := 6) sc__law_trail.nd (re_ix q_ix (re_lst (ra_cons (re_tup (ra_cons re_int (ra_cons re_int ra_nil))) (ra_cons (re_tup (ra_cons re_int (ra_cons re_int ra_nil))) (ra_cons (re_tup (ra_cons (re_un q_neg re_int) (ra_cons re_int ra_nil))) (ra_cons (re_tup (ra_cons re_int (ra_cons (re_un q_neg re_int) ra_nil))) ra_nil))))) (re_call (c__law_choice.mono l__law_choice) hr (ra_cons (re_var 0) (ra_cons re_int ra_nil))))) (rss_one (rs_expr (re_append (re_var 2) (ra_cons (re_tup (ra_cons (re_op q_add (re_var 4) (re_ix q_ix (re_var 6) re_int)) (ra_cons (re_op q_add (re_var 5) (re_ix q_ix (re_var 6) re_int)) ra_nil))) ra_nil))))))) (rss_one (rs_ret (re_var 2))))))
noncomputable abbrev s__law_is_row : Stmt := top 33
theorem sc__law_is_row : FnScope N__law_is_row ["deeds"] (defScope s__law_is_row) := ⟨rfl, rfl, rfl, by decide +kernel, rfl, by decide +kernel, by decide +kernel⟩
theorem rs__law_is_row {k : Nat} {f : Addr} {cdv : Value} {A : Around} {outer : List Env} {s : Shared} {H : Hp} {E : XK} {sp__law_whole : Sp3} {k__law_whole : Nat} (c__law_whole : Cal P w K mg base k__law_whole "_law_whole" ["found"] sp__law_whole) (l__law_whole : k__law_whole ≤ k) (z_isinstance : mg "isinstance" = none) (z_len : mg "len" = none) (z_list : mg "list" = none) (z_tuple : mg "tuple" = none) (hr : Room k (A.deeper (envOfC "_law_is_row" (defScope s__law_is_row) s.heap.objs.size f cdv))) :
    RSs (cxOf CX0 P w K mg base N__law_is_row "_law_is_row" (defScope s__law_is_row) f cdv A outer s H E).nox (defBody s__law_is_row) (t__law_is_row sp__law_whole) :=
  (rss_cons (rs_if (rt_not (rt_val (re_callB q_isi z_isinstance bz_isinstance (ra_cons (re_var 0) (ra_cons (re_ty z_list bz_list) ra_nil))))) (rss_one (rs_ret re_bl)) rss_nil) (rss_cons (rs_for PassesOwn.never rfl (ri_seq (re_var 0)) (rg_name (i := 1) sc__law_is_row.nd) (rss_cons (rs_if (rw_pt (rw_or (rt_not (rt_val (re_callB q_isi z_isinstance bz_isinstance (ra_cons (re_var 1) (ra_cons (re_ty z_tuple bz_tuple) ra_nil))))) (rw_or (rt_cmp (q_ne (hu64 hr)) (re_callB q_len z_len bz_len (ra_cons (re_var 1) ra_nil)) re_int) (rw_or1 (rt_cmp (q_notin (hu65 hr)) (re_ix q_ix (re_var 1) re_int) (re_lst (ra_cons re_str (ra_cons re_str (ra_cons re_str ra_nil))))))))) (rss_one (rs_ret re_bl)) rss_nil) (rss_one (rs_if (rw_pt (rw_or (rt_not (rt_val (re_call (c__law_whole.mono l__law_whole) hr (ra_cons (re_ix q_ix (re_var 1) re_int) ra_nil)))) (rw_or1 (rw_pt (rw_and (rt_cmp (q_eq (hu64 hr)) (re_ix q_ix (re_var 1) re_int) re_str) (rw_and1 (rt_not (rt_chain q_le q_lt re_int (re_ix q_ix (re_var 1) re_int) re_int)))))))) (rss_one (rs_ret re_bl)) rss_nil)))) (rss_one (rs_ret re_bl))))
noncomputable abbrev s__law_told : Stmt := top 34
theorem sc__law_told : FnScope N__law_told ["trails"] (defScope s__law_told) := ⟨rfl, rfl, rfl, by decide +kernel, rfl, by decide +kernel, by decide +kernel⟩
theorem rs__law_told {k : Nat} {f : Addr} {cdv : Value} {A : Around} {outer : List Env} {s : Shared} {H : Hp} {E : XK} {sp__law_marks : Sp3} {k__law_marks : Nat} (c__law_marks : CalM P w K mg base k__law_marks "_law_marks" ["e"] sp__law_marks) (l__law_marks : k__law_marks ≤ k) {spx_deeds_of : XE3 → Sp3} {k_deeds_of : Nat} (c_deeds_of : CalX P w K mg base k_deeds_of "deeds_of" ["trails"] spx_deeds_of) (l_deeds_of : k_deeds_of ≤ k) {C_PenError : Addr} (m_PenError : mg "PenError" = some (.ref C_PenError)) (k2_PenError : PySem.W.kitCls K (.ref C_PenError) (.type "BaseException") = some true) (k3 : PySem.W.kitCls K (.type "type") (.type "tuple") = some false) (ok_PenError : ∀ c, okX c = true → ∃ C, PySem.W.nsIn K mainGlobals c = some (some (.ref C)) ∧ mg c = some (.ref C) ∧ PySem.W.kitCls K (.ref C) (.ref C_PenError) = some true) (hr : Room k (A.deeper (envOfC "_law_told" (defScope s__law_told) s.heap.objs.size f cdv))) :
    RSs (cxOf CX0 P w K mg base N__law_told "_law_told" (defScope s__law_told) f cdv A outer s H E).nox (defBody s__law_told) (t__law_told sp__law_marks spx_deeds_of) :=
  (rss_cons (rs_set (i := 1) sc__law_told.nd re_non) (rss_cons (rs_set (i := 2) sc__law_told.nd (re_lst ra_nil)) (rss_cons (rs_tryA (i := 3) (j := 1) (c_deeds_of.mono l_deeds_of) hr (ra_cons (re_var 0) ra_nil) (fun _ => (rss_one (rs_set (i := 2) sc__law_told.nd (re_callM (c__law_marks.mono l__law_marks) (RoomM.of hr _) (ra_cons (re_var 3) ra_nil))))) sc__law_told.nd m_PenError k2_PenError k3 ok_PenError) (rss_one (rs_ret (re_tup (ra_cons (re_var 1) (ra_cons (re_var 2) ra_nil))))))))
noncomputable abbrev s_law : Stmt := top 35
theorem sc_law : FnScope N_law ["script"] (defScope s_law) := ⟨rfl, rfl, rfl, by decide +kernel, rfl, by decide +kernel, by decide +kernel⟩
theorem rs_law {k : Nat} {f : Addr} {cdv : Value} {A : Around} {outer : List Env} {s : Shared} {H : Hp} {E : XK} {sp__law_choice : Sp3} {k__law_choice : Nat} (c__law_choice : Cal P w K mg base k__law_choice "_law_choice" ["state", "many"] sp__law_choice) (l__law_choice : k__law_choice ≤ k) {sp__law_is_row : Sp3} {k__law_is_row : Nat} (c__law_is_row : Cal P w K mg base k__law_is_row "_law_is_row" ["deeds"] sp__law_is_row) (l__law_is_row : k__law_is_row ≤ k) {sp__law_refused : Sp3} {k__law_refused : Nat} (c__law_refused : Cal P w K mg base k__law_refused "_law_refused" ["marks", "which"] sp__law_refused) (l__law_refused : k__law_refused ≤ k) {sp__law_state : Sp3} {k__law_state : Nat} (c__law_state : Cal P w K mg base k__law_state "_law_state" ["script", "k"] sp__law_state) (l__law_state : k__law_state ≤ k) {sp__law_strokes : Sp3} {k__law_strokes : Nat} (c__law_strokes : Cal P w K mg base k__law_strokes "_law_strokes" ["trail"] sp__law_strokes) (l__law_strokes : k__law_strokes ≤ k) {sp__law_told : Sp3} {k__law_told : Nat} (c__law_told : Cal P w K mg base k__law_told "_law_told" ["trails"] sp__law_told) (l__law_told : k__law_told ≤ k) {sp__law_trail : Sp3} {k__law_trail : Nat} (c__law_trail : Cal P w K mg base k__law_trail "_law_trail" ["state"] sp__law_trail) (l__law_trail : k__law_trail ≤ k) {sp__law_walked : Sp3} {k__law_walked : Nat} (c__law_walked : Cal P w K mg base k__law_walked "_law_walked" ["deeds", "pen"] sp__law_walked) (l__law_walked : k__law_walked ≤ k) (z_len : mg "len" = none) (z_list : mg "list" = none) (z_range : mg "range" = none) (z_sorted : mg "sorted" = none) (hr : Room k (A.deeper (envOfC "law" (defScope s_law) s.heap.objs.size f cdv))) :
    RSs (cxOf CX0 P w K mg base N_law "law" (defScope s_law) f cdv A outer s H E).nox (defBody s_law) (t_law sp__law_choice sp__law_is_row sp__law_refused sp__law_state sp__law_strokes sp__law_told sp__law_trail sp__law_walked) :=
  (rss_cons (rs_set (i := 1) sc_law.nd (re_call (c__law_state.mono l__law_state) hr (ra_cons (re_var 0) (ra_cons re_int ra_nil)))) (rss_cons (rs_setCG (i := 2) sc_law.nd (NN := ["k", "state"]) (js := [none, some 1]) rfl comp_sc (ri_range1 z_range (re_call (c__law_choice.mono l__law_choice) hr (ra_cons (re_var 1) (ra_cons re_int ra_nil)))) (fun _ _ _ _ _ => (rg_name (i := 0) (show List.Nodup (["k", "state"] : List Str) by decide +kernel))) (fun _ _ _ _ _ => rts_nil) (fun _ _ _ _ _ => (re_call (c__law_trail.mono l__law_trail) hr (ra_cons (re_var 1) ra_nil))) (by intro _; rfl)) (rss_cons (rs_set (i := 3) sc_law.nd (re_lst ra_nil)) (rss_cons (rs_for PassesOwn.never rfl (ri_seq (re_var 2)) (rg_name (i := 4) sc_law.nd) (rss_one (rs_set (i := 3) sc_law.nd (re_op q_add (re_var 3) (re_call (c__law_strokes.mono l__law_strokes) hr (ra_cons (re_var 4) ra_nil)))))) (rss_cons (rs_setC0 (i := 5) sc_law.nd (NN := ["trail"]) (by decide +kernel) (by decide +kernel) (by decide +kernel) (ri_seq (re_var 2)) (fun _ _ _ _ _ => (rg_name (i := 0) (show List.Nodup (["trail"] : List Str) by decide +kernel))) (fun _ _ _ _ _ => rts_nil) (fun _ _ _ _ _ => (re_callTy q_list z_list bz_list (ra_cons (re_var 0) ra_nil)))) (rss_cons (rs_asg (re_call (c__law_told.mono l__law_told) hr (ra_cons (re_var 5) ra_nil)) (rg_tup rfl (rgs_cons (rg_name (i := 6) sc_law.nd) (rgs_cons (rg_name (i := 7) sc_law.nd) rgs_nil)))) (rss_cons (rs_if (rw_pt (rw_or (rt_cmp (q_ne (hu64 hr)) (re_var 7) (re_lst ra_nil)) (rw_or (rt_cmp (q_neN (hu64 hr)) (re_var 5) (re_var 2)) (rw_or1 (rt_not (rt_val (re_call (c__law_is_row.mono l__law_is_row) hr (ra_cons (re_var 6) ra_nil)))))))) (rss_one (rs_ret re_bl)) rss_nil) (rss_cons (rs_if (rt_cmp (q_ne (hu64 hr)) (re_callB q_sorted z_sorted bz_sorted (ra_cons (re_ix q_ix (re_call (c__law_walked.mono l__law_walked) hr (ra_cons (re_var 6) (ra_cons (re_tup (ra_cons re_int (ra_cons re_int (ra_cons re_int ra_nil)))) ra_nil))) re_int) ra_nil)) (re_callB q_sorted z_sorted bz_sorted (ra_cons (re_var 3) ra_nil))) (rss_one (rs_ret re_bl)) rss_nil) (rss_cons (rs_set (i := 8) sc_law.nd (re_ix q_ix (re_lst (ra_cons (re_lst ra_nil) (ra_cons (re_lst (ra_cons (re_tup (ra_cons re_int (ra_cons re_int ra_nil))) ra_nil)) (ra_cons (re_lst (ra_cons (re_tup (ra_cons re_int (ra_cons re_int ra_nil))) (ra_cons (re_tup (ra_cons re_int (ra_cons re_int ra_nil))) ra_nil))) (ra_cons (re_lst (ra_cons (re_tup (ra_cons re_int (ra_cons re_int ra_nil))) (ra_cons (re_tup (ra_cons re_int (ra_cons re_int ra_nil))) ra_nil))) (ra_cons (re_lst (ra_cons (re_tup (ra_cons re_int (ra_cons re_int ra_nil))) (ra_cons (re_tup (ra_cons re_int (ra_cons re_int ra_nil))) (ra_cons (re_tup (ra_cons re_int (ra_cons re_int ra_nil))) ra_nil)))) ra_nil)))))) (re_call (c__law_choice.mono l__law_choice) hr (ra_cons (re_var 1) (ra_cons re_int ra_nil))))) (rss_cons (rs_set (i := 9) sc_law.nd (re_call (c__law_choice.mono l__law_choice) hr (ra_cons (re_var 1) (ra_cons (re_op q_add (re_callB q_len z_len bz_len (ra_cons (re_var 2) ra_nil)) re_int) ra_nil)))) (rss_one (rs_ret (re_call (c__law_refused.mono l__law_refused) hr (ra_cons (re_ix q_ix (re_call (c__law_told.mono l__law_told) hr (ra_cons (re_op q_add (re_op q_add (re_slice q_sl (re_var 2) ro_none (ro_some (re_var 9))) (re_lst (ra_cons (re_var 8) ra_nil))) (re_slice q_sl (re_var 2) (ro_some (re_var 9)) ro_none)) ra_nil)) re_int) (ra_cons re_int ra_nil)))))))))))))))
noncomputable abbrev s_Scribe___init__ : Stmt := mth 18 0
theorem sc_Scribe___init__ : FnScope N_Scribe___init__ ["self"] (defScope s_Scribe___init__) := ⟨rfl, rfl, rfl, by decide +kernel, rfl, by decide +kernel, by decide +kernel⟩
theorem rs_Scribe___init__ {k : Nat} {f : Addr} {cdv : Value} {A : Around} {outer : List Env} {s : Shared} {H : Hp} {E : XK} {C_Scribe : Addr} (oc_Scribe : ObjC K "Scribe" C_Scribe) (na_Scribe_deeds : NoAttr K C_Scribe "deeds") (na_Scribe_pen : NoAttr K C_Scribe "pen") (g_START : Gd K mg "START" k_START) (hr : Room k (A.deeper (envOfC "Scribe.__init__" (defScope s_Scribe___init__) s.heap.objs.size f cdv))) :
    RSs (cxOf CX0 P w K mg base N_Scribe___init__ "Scribe.__init__" (defScope s_Scribe___init__) f cdv A outer s H E).nox (defBody s_Scribe___init__) (t_Scribe___init__) :=
  (rss_cons (rs_fld (re_var 0) (re_g g_START) oc_Scribe na_Scribe_pen) (rss_one (rs_fld (re_var 0) (re_lst ra_nil) oc_Scribe na_Scribe_deeds)))
noncomputable abbrev s_Scribe_turn_to : Stmt := mth 18 1
theorem sc_Scribe_turn_to : FnScope N_Scribe_turn_to ["self", "heading"] (defScope s_Scribe_turn_to) := ⟨rfl, rfl, rfl, by decide +kernel, rfl, by decide +kernel, by decide +kernel⟩
theorem rs_Scribe_turn_to {k : Nat} {f : Addr} {cdv : Value} {A : Around} {outer : List Env} {s : Shared} {H : Hp} {E : XK} {sp_led : Sp3} {k_led : Nat} (c_led : Cal P w K mg base k_led "led" ["pen", "part"] sp_led) (l_led : k_led ≤ k) {C_Scribe : Addr} (oc_Scribe : ObjC K "Scribe" C_Scribe) (na_Scribe_deeds : NoAttr K C_Scribe "deeds") (na_Scribe_pen : NoAttr K C_Scribe "pen") (hr : Room k (A.deeper (envOfC "Scribe.turn_to" (defScope s_Scribe_turn_to) s.heap.objs.size f cdv))) :
    RSs (cxOf CX0 P w K mg base N_Scribe_turn_to "Scribe.turn_to" (defScope s_Scribe_turn_to) f cdv A outer s H E).nox (defBody s_Scribe_turn_to) (t_Scribe_turn_to sp_led) :=
  (rss_cons (rs_set (i := 2) sc_Scribe_turn_to.nd (re_op q_mod (re_op q_sub (re_var 1) (re_ix q_ix (re_fld (re_var 0) oc_Scribe na_Scribe_pen) re_int)) re_int)) (rss_one (rs_if (rt_cmp (q_ne (hu64 hr)) (re_var 2) re_int) (rss_cons (rs_expr (re_append (re_fld (re_var 0) oc_Scribe na_Scribe_deeds) (ra_cons (re_tup (ra_cons re_str (ra_cons (re_var 2) ra_nil))) ra_nil))) (rss_one (rs_fld (re_var 0) (re_call (c_led.mono l_led) hr (ra_cons (re_fld (re_var 0) oc_Scribe na_Scribe_pen) (ra_cons (re_tup (ra_cons re_int (ra_cons re_int (ra_cons (re_var 2) ra_nil)))) ra_nil))) oc_Scribe na_Scribe_pen))) rss_nil)))
noncomputable abbrev s_Scribe_jump_to : Stmt := mth 18 2
theorem sc_Scribe_jump_to : FnScope N_Scribe_jump_to ["self", "point"] (defScope s_Scribe_jump_to) := ⟨rfl, rfl, rfl, by decide +kernel, rfl, by decide +kernel, by decide +kernel⟩
theorem rs_Scribe_jump_to {k : Nat} {f : Addr} {cdv : Value} {A : Around} {outer : List Env} {s : Shared} {H : Hp} {E : XK} {C_Scribe : Addr} {sp_Scribe_jump : Sp3} {k_Scribe_jump : Nat} (c_Scribe_jump : CalT P w K mg base k_Scribe_jump C_Scribe "jump" ["self", "heading", "far"] sp_Scribe_jump) (l_Scribe_jump : k_Scribe_jump ≤ k) (oc_Scribe : ObjC K "Scribe" C_Scribe) (na_Scribe_pen : NoAttr K C_Scribe "pen") (hr : Room k (A.deeper (envOfC "Scribe.jump_to" (defScope s_Scribe_jump_to) s.heap.objs.size f cdv))) :
    RSs (cxOf CX0 P w K mg base N_Scribe_jump_to "Scribe.jump_to" (defScope s_Scribe_jump_to) f cdv A outer s H E).nox (defBody s_Scribe_jump_to) (t_Scribe_jump_to sp_Scribe_jump) :=
  (rss_cons (rs_expr (re_meth (re_var 0) oc_Scribe (c_Scribe_jump.mono l_Scribe_jump) hr (ra_cons re_int (ra_cons (re_op q_sub (re_ix q_ix (re_var 1) re_int) (re_ix q_ix (re_fld (re_var 0) oc_Scribe na_Scribe_pen) re_int)) ra_nil)))) (rss_one (rs_expr (re_meth (re_var 0) oc_Scribe (c_Scribe_jump.mono l_Scribe_jump) hr (ra_cons re_int (ra_cons (re_op q_sub (re_ix q_ix (re_var 1) re_int) (re_ix q_ix (re_fld (re_var 0) oc_Scribe na_Scribe_pen) re_int)) ra_nil))))))
noncomputable abbrev s_Scribe_jump : Stmt := mth 18 3
theorem sc_Scribe_jump : FnScope N_Scribe_jump ["self", "heading", "far"] (defScope s_Scribe_jump) := ⟨rfl, rfl, rfl, by decide +kernel, rfl, by decide +kernel, by decide +kernel⟩
theorem rs_Scribe_jump {k : Nat} {f : Addr} {cdv : Value} {A : Around} {outer : List Env} {s : Shared} {H : Hp} {E : XK} {C_Scribe : Addr} {sp_Scribe_turn_to : Sp3} {k_Scribe_turn_to : Nat} (c_Scribe_turn_to : CalT P w K mg base k_Scribe_turn_to C_Scribe "turn_to" ["self", "heading"] sp_Scribe_turn_to) (l_Scribe_turn_to : k_Scribe_turn_to ≤ k) {sp_jumps_over : Sp3} {k_jumps_over : Nat} (c_jumps_over : Cal P w K mg base k_jumps_over "jumps_over" ["far"] sp_jumps_over) (l_jumps_over : k_jumps_over ≤ k) {sp_led : Sp3} {k_led : Nat} (c_led : Cal P w K mg base k_led "led" ["pen", "part"] sp_led) (l_led : k_led ≤ k) (oc_Scribe : ObjC K "Scribe" C_Scribe) (na_Scribe_deeds : NoAttr K C_Scribe "deeds") (na_Scribe_pen : NoAttr K C_Scribe "pen") (hr : Room k (A.deeper (envOfC "Scribe.jump" (defScope s_Scribe_jump) s.heap.objs.size f cdv))) :
    RSs (cxOf CX0 P w K mg base N_Scribe_jump "Scribe.jump" (defScope s_Scribe_jump) f cdv A outer s H E).nox (defBody s_Scribe_jump) (t_Scribe_jump sp_Scribe_turn_to sp_jumps_over sp_led) :=
  (rss_one (rs_if (rt_cmp (q_ne (hu64 hr)) (re_var 2) re_int) (rss_cons (rs_expr (re_meth (re_var 0) oc_Scribe (c_Scribe_turn_to.mono l_Scribe_turn_to) hr (ra_cons (re_var 1) ra_nil))) (rss_cons (rs_expr (re_extend (re_fld (re_var 0) oc_Scribe na_Scribe_deeds) (ra_cons (re_comp (NN := ["part"]) (by decide +kernel) (by decide +kernel) (by decide +kernel) (ri_seq (re_call (c_jumps_over.mono l_jumps_over) hr (ra_cons (re_var 2) ra_nil))) (fun _ _ _ _ _ => (rg_name (i := 0) (show List.Nodup (["part"] : List Str) by decide +kernel))) (fun _ _ _ _ _ => rts_nil) (fun _ _ _ _ _ => (re_tup (ra_cons re_str (ra_cons (re_var 0) ra_nil))))) ra_nil))) (rss_one (rs_fld (re_var 0) (re_call (c_led.mono l_led) hr (ra_cons (re_fld (re_var 0) oc_Scribe na_Scribe_pen) (ra_cons (re_tup (ra_cons (re_var 2) (ra_cons re_int (ra_cons re_int ra_nil)))) ra_nil))) oc_Scribe na_Scribe_pen)))) rss_nil))
noncomputable abbrev s_Scribe_go_to : Stmt := mth 18 4
theorem sc_Scribe_go_to : FnScope N_Scribe_go_to ["self", "point"] (defScope s_Scribe_go_to) := ⟨rfl, rfl, rfl, by decide +kernel, rfl, by decide +kernel, by decide +kernel⟩
theorem rs_Scribe_go_to {k : Nat} {f : Addr} {cdv : Value} {A : Around} {outer : List Env} {s : Shared} {H : Hp} {E : XK} {C_Scribe : Addr} {sp_Scribe_turn_to : Sp3} {k_Scribe_turn_to : Nat} (c_Scribe_turn_to : CalT P w K mg base k_Scribe_turn_to C_Scribe "turn_to" ["self", "heading"] sp_Scribe_turn_to) (l_Scribe_turn_to : k_Scribe_turn_to ≤ k) {sp_led : Sp3} {k_led : Nat} (c_led : Cal P w K mg base k_led "led" ["pen", "part"] sp_led) (l_led : k_led ≤ k) (oc_Scribe : ObjC K "Scribe" C_Scribe) (na_Scribe_deeds : NoAttr K C_Scribe "deeds") (na_Scribe_pen : NoAttr K C_Scribe "pen") (z_len : mg "len" = none) (gt_AHEAD : GdT K mg "AHEAD" kl_AHEAD) (hr : Room k (A.deeper (envOfC "Scribe.go_to" (defScope s_Scribe_go_to) s.heap.objs.size f cdv))) :
    RSs (cxOf CX0 P w K mg base N_Scribe_go_to "Scribe.go_to" (defScope s_Scribe_go_to) f cdv A outer s H E).nox (defBody s_Scribe_go_to) (t_Scribe_go_to sp_Scribe_turn_to sp_led) :=
  (rss_cons (rs_expr (re_meth (re_var 0) oc_Scribe (c_Scribe_turn_to.mono l_Scribe_turn_to) hr (ra_cons (re_index (hu65 hr) gt_AHEAD (ra_cons (re_tup (ra_cons (re_op q_sub (re_ix q_ix (re_var 1) re_int) (re_ix q_ix (re_fld (re_var 0) oc_Scribe na_Scribe_pen) re_int)) (ra_cons (re_op q_sub (re_ix q_ix (re_var 1) re_int) (re_ix q_ix (re_fld (re_var 0) oc_Scribe na_Scribe_pen) re_int)) ra_nil))) ra_nil)) ra_nil))) (rss_cons (rs_set (i := 2) sc_Scribe_go_to.nd re_int) (rss_cons (rs_if (rw_pt (rw_and (rt_cmp q_gt (re_callB q_len z_len bz_len (ra_cons (re_fld (re_var 0) oc_Scribe na_Scribe_deeds) ra_nil)) re_int) (rw_and1 (rt_cmp (q_eq (hu64 hr)) (re_ix q_ix (re_ix q_ix (re_fld (re_var 0) oc_Scribe na_Scribe_deeds) (re_un q_neg re_int)) re_int) re_str)))) (rss_one (rs_set (i := 2) sc_Scribe_go_to.nd (re_op q_add (re_ix q_ix (re_pop (re_fld (re_var 0) oc_Scribe na_Scribe_deeds)) re_int) re_int))) rss_nil) (rss_cons (rs_expr (re_append (re_fld (re_var 0) oc_Scribe na_Scribe_deeds) (ra_cons (re_tup (ra_cons re_str (ra_cons (re_var 2) ra_nil))) ra_nil))) (rss_one (rs_fld (re_var 0) (re_call (c_led.mono l_led) hr (ra_cons (re_fld (re_var 0) oc_Scribe na_Scribe_pen) (ra_cons (re_tup (ra_cons re_int (ra_cons re_int (ra_cons re_int ra_nil)))) ra_nil))) oc_Scribe na_Scribe_pen))))))

end
end Pv

namespace Pv
open PySem PySem.Spec PyProof.Rows L2
theorem bn1 {P : List Value → Prop} (h : ∀ a, P [a]) (us : List Value) (e : us.length = 1) : P us := by
  match us, e with
  | [a], _ => exact h a
theorem bn2 {P : List Value → Prop} (h : ∀ a b, P [a, b]) (us : List Value) (e : us.length = 2) : P us := by
  match us, e with
  | [a, b], _ => exact h a b
theorem bn3 {P : List Value → Prop} (h : ∀ a b c, P [a, b, c]) (us : List Value) (e : us.length = 3) : P us := by
  match us, e with
  | [a, b, c], _ => exact h a b c
theorem x_mk1 {K : Fg} {r cn : Str} {Cr : Addr} {T : Value} {b0 : Bool} (hs : xnames = [r] ∧ subX cn r = some b0) (ac : PySem.W.nsIn K mainGlobals r = some (some (.ref Cr))) (E : ExcK K Cr) (kk : PySem.W.kitOne K (.ref Cr) T = some b0) (c : Str) (C : Addr) (b : Bool) (h : subX cn c = some b) (hn : PySem.W.nsIn K mainGlobals c = some (some (.ref C))) : ExcK K C ∧ PySem.W.kitOne K (.ref C) T = some b := by
  have hin := subX_in h
  rw [hs.1, List.mem_singleton] at hin
  subst hin
  rw [ac] at hn
  cases hn
  rw [hs.2] at h
  cases h
  exact ⟨E, kk⟩
noncomputable abbrev NsR (K : Fg) (x : Str) (p : Addr) : Prop := PySem.W.nsIn K mainGlobals x = some (some (.ref p))
noncomputable def FnA (K : Fg) (x : Str) (st : Stmt) (p : Addr) : Prop := ∃ oc od sl kV dc pm an cd ct, K.lookup p = some ⟨oc, od, .func (PySem.W.fnOf x x (defArgs st) (defBody st) (defScope st) .none kV dc pm an cd ct), sl⟩ ∧ PySem.W.codeIn K cd x = true ∧ PySem.W.keepIn K (.ref p) = true
theorem fnA_mk {K : Fg} {x : Str} {st : Stmt} {p : Addr} {oc kV dc pm cd ct : Value} {od an : Option Addr} {sl : Array (Option Value)} (l : K.lookup p = some ⟨oc, od, .func (PySem.W.fnOf x x (defArgs st) (defBody st) (defScope st) .none kV dc pm an cd ct), sl⟩) (c : PySem.W.codeIn K cd x = true) (k : PySem.W.keepIn K (.ref p) = true) : FnA K x st p := ⟨_, _, _, _, _, _, _, _, _, l, c, k⟩
theorem FnA.fn {K : Fg} {x : Str} {st : Stmt} {p : Addr} (h : FnA K x st p) : ∃ fd, Fun K x x st p fd := by
  obtain ⟨_, _, _, _, _, _, _, _, _, l, c, k⟩ := h
  exact ⟨_, fun_mk (st := st) l c k⟩
theorem all_mk {l : PySem.W.OpenLaw} {w : World} {K : Fg} {h : Heap} {mg : Str → Option Value} {fa : Addr} (X : K.In h) (G : h.Ns mainGlobals mg) (hfa : mg "law" = some (.ref fa))
    {p_led : Addr}
    {p_is_trail : Addr}
    {p_are_next : Addr}
    {p_deeds_of : Addr}
    {p_jumps_over : Addr}
    {p__law_cell_at : Addr}
    {p__law_whole : Addr}
    {p__law_state : Addr}
    {p__law_choice : Addr}
    {p__law_walked : Addr}
    {p__law_marks : Addr}
    {p__law_refused : Addr}
    {p__law_from_ends : Addr}
    {p__law_strokes : Addr}
    {p__law_trail : Addr}
    {p__law_is_row : Addr}
    {p__law_told : Addr}
    {p_law : Addr}
    {C_Scribe : Addr}
    {p_Scribe___init__ : Addr} {od_Scribe___init__ an_Scribe___init__ : Option Addr} {sl_Scribe___init__ : Array (Option Value)} {oc_Scribe___init__ kV_Scribe___init__ dc_Scribe___init__ pm_Scribe___init__ cd_Scribe___init__ ct_Scribe___init__ : Value}
    {p_Scribe_turn_to : Addr} {od_Scribe_turn_to an_Scribe_turn_to : Option Addr} {sl_Scribe_turn_to : Array (Option Value)} {oc_Scribe_turn_to kV_Scribe_turn_to dc_Scribe_turn_to pm_Scribe_turn_to cd_Scribe_turn_to ct_Scribe_turn_to : Value}
    {p_Scribe_jump_to : Addr} {od_Scribe_jump_to an_Scribe_jump_to : Option Addr} {sl_Scribe_jump_to : Array (Option Value)} {oc_Scribe_jump_to kV_Scribe_jump_to dc_Scribe_jump_to pm_Scribe_jump_to cd_Scribe_jump_to ct_Scribe_jump_to : Value}
    {p_Scribe_jump : Addr} {od_Scribe_jump an_Scribe_jump : Option Addr} {sl_Scribe_jump : Array (Option Value)} {oc_Scribe_jump kV_Scribe_jump dc_Scribe_jump pm_Scribe_jump cd_Scribe_jump ct_Scribe_jump : Value}
    {p_Scribe_go_to : Addr} {od_Scribe_go_to an_Scribe_go_to : Option Addr} {sl_Scribe_go_to : Array (Option Value)} {oc_Scribe_go_to kV_Scribe_go_to dc_Scribe_go_to pm_Scribe_go_to cd_Scribe_go_to ct_Scribe_go_to : Value}
    {t_1 : Tok}
    {t_3 : Tok}
    {t_4 : Tok}
    {t_5 : Tok}
    {q_2 : Addr} {qo_2 : Option Addr} {qn_2 : Nat} {qs_2 : Array (Option Value)}
    {t_8 : Tok}
    {t_9 : Tok}
    {q_7 : Addr} {qo_7 : Option Addr} {qn_7 : Nat} {qs_7 : Array (Option Value)}
    {t_11 : Tok}
    {t_12 : Tok}
    {q_10 : Addr} {qo_10 : Option Addr} {qn_10 : Nat} {qs_10 : Array (Option Value)}
    {t_14 : Tok}
    {t_15 : Tok}
    {q_13 : Addr} {qo_13 : Option Addr} {qn_13 : Nat} {qs_13 : Array (Option Value)}
    {t_17 : Tok}
    {t_18 : Tok}
    {q_16 : Addr} {qo_16 : Option Addr} {qn_16 : Nat} {qs_16 : Array (Option Value)}
    {q_6 : Addr} {qn_6 : Nat} {qs_6 : Array (Option Value)}
    {t_19 : Tok}
    {C_BadNote : Addr} {cdt_BadNote : ClassData}
    {C_NoNumber : Addr} {cdt_NoNumber : ClassData}
    {C_NoPicture : Addr} {cdt_NoPicture : ClassData}
    {C_NoRoom : Addr} {cdt_NoRoom : ClassData}
    {C_NoStep : Addr} {cdt_NoStep : ClassData}
    {C_NoWord : Addr} {cdt_NoWord : ClassData}
    {C_PenError : Addr} {cdt_PenError : ClassData}
    (a_led : NsR K "led" p_led) (A_led : FnA K "led" s_led p_led)
    (a_is_trail : NsR K "is_trail" p_is_trail) (A_is_trail : FnA K "is_trail" s_is_trail p_is_trail)
    (a_are_next : NsR K "are_next" p_are_next) (A_are_next : FnA K "are_next" s_are_next p_are_next)
    (a_deeds_of : NsR K "deeds_of" p_deeds_of) (A_deeds_of : FnA K "deeds_of" s_deeds_of p_deeds_of)
    (a_jumps_over : NsR K "jumps_over" p_jumps_over) (A_jumps_over : FnA K "jumps_over" s_jumps_over p_jumps_over)
    (a__law_cell_at : NsR K "_law_cell_at" p__law_cell_at) (A__law_cell_at : FnA K "_law_cell_at" s__law_cell_at p__law_cell_at)
    (a__law_whole : NsR K "_law_whole" p__law_whole) (A__law_whole : FnA K "_law_whole" s__law_whole p__law_whole)
    (a__law_state : NsR K "_law_state" p__law_state) (A__law_state : FnA K "_law_state" s__law_state p__law_state)
    (a__law_choice : NsR K "_law_choice" p__law_choice) (A__law_choice : FnA K "_law_choice" s__law_choice p__law_choice)
    (a__law_walked : NsR K "_law_walked" p__law_walked) (A__law_walked : FnA K "_law_walked" s__law_walked p__law_walked)
    (a__law_marks : NsR K "_law_marks" p__law_marks) (A__law_marks : FnA K "_law_marks" s__law_marks p__law_marks)
    (a__law_refused : NsR K "_law_refused" p__law_refused) (A__law_refused : FnA K "_law_refused" s__law_refused p__law_refused)
    (a__law_from_ends : NsR K "_law_from_ends" p__law_from_ends) (A__law_from_ends : FnA K "_law_from_ends" s__law_from_ends p__law_from_ends)
    (a__law_strokes : NsR K "_law_strokes" p__law_strokes) (A__law_strokes : FnA K "_law_strokes" s__law_strokes p__law_strokes)
    (a__law_trail : NsR K "_law_trail" p__law_trail) (A__law_trail : FnA K "_law_trail" s__law_trail p__law_trail)
    (a__law_is_row : NsR K "_law_is_row" p__law_is_row) (A__law_is_row : FnA K "_law_is_row" s__law_is_row p__law_is_row)
    (a__law_told : NsR K "_law_told" p__law_told) (A__law_told : FnA K "_law_told" s__law_told p__law_told)
    (a_law : NsR K "law" p_law) (A_law : FnA K "law" s_law p_law)
    (ac_Scribe : PySem.W.nsIn K mainGlobals "Scribe" = some (some (.ref C_Scribe)))
    (pg_Scribe : PySem.W.plainGet K C_Scribe Str.empty = true)
    (hd_Scribe : PySem.W.hasDictIn K C_Scribe = true)
    (po_Scribe : PySem.W.plainOver K C_Scribe = true)
    (sa_Scribe : PySem.W.findIn K (.ref C_Scribe) "__setattr__" = some (some (.builtin "object.__setattr__")))
    (mk_Scribe : PySem.W.makesIn K C_Scribe = true)
    (kp_Scribe : PySem.W.keepIn K (.ref C_Scribe) = true)
    (na_Scribe_deeds : PySem.W.findIn K (.ref C_Scribe) "deeds" = some none)
    (na_Scribe_pen : PySem.W.findIn K (.ref C_Scribe) "pen" = some none)
    (a_Scribe___init__ : PySem.W.findIn K (.ref C_Scribe) "__init__" = some (some (.ref p_Scribe___init__)))
    (i_Scribe___init__ : PySem.W.isFn K (.ref p_Scribe___init__) = true)
    (l_Scribe___init__ : K.lookup p_Scribe___init__ = some ⟨oc_Scribe___init__, od_Scribe___init__, .func (PySem.W.fnOf "__init__" "Scribe.__init__" (defArgs s_Scribe___init__) (defBody s_Scribe___init__) (defScope s_Scribe___init__) .none kV_Scribe___init__ dc_Scribe___init__ pm_Scribe___init__ an_Scribe___init__ cd_Scribe___init__ ct_Scribe___init__), sl_Scribe___init__⟩)
    (c_Scribe___init__ : PySem.W.codeIn K cd_Scribe___init__ "Scribe.__init__" = true)
    (k_Scribe___init__ : PySem.W.keepIn K (.ref p_Scribe___init__) = true)
    (a_Scribe_turn_to : PySem.W.findIn K (.ref C_Scribe) "turn_to" = some (some (.ref p_Scribe_turn_to)))
    (i_Scribe_turn_to : PySem.W.isFn K (.ref p_Scribe_turn_to) = true)
    (l_Scribe_turn_to : K.lookup p_Scribe_turn_to = some ⟨oc_Scribe_turn_to, od_Scribe_turn_to, .func (PySem.W.fnOf "turn_to" "Scribe.turn_to" (defArgs s_Scribe_turn_to) (defBody s_Scribe_turn_to) (defScope s_Scribe_turn_to) .none kV_Scribe_turn_to dc_Scribe_turn_to pm_Scribe_turn_to an_Scribe_turn_to cd_Scribe_turn_to ct_Scribe_turn_to), sl_Scribe_turn_to⟩)
    (c_Scribe_turn_to : PySem.W.codeIn K cd_Scribe_turn_to "Scribe.turn_to" = true)
    (k_Scribe_turn_to : PySem.W.keepIn K (.ref p_Scribe_turn_to) = true)
    (a_Scribe_jump_to : PySem.W.findIn K (.ref C_Scribe) "jump_to" = some (some (.ref p_Scribe_jump_to)))
    (i_Scribe_jump_to : PySem.W.isFn K (.ref p_Scribe_jump_to) = true)
    (l_Scribe_jump_to : K.lookup p_Scribe_jump_to = some ⟨oc_Scribe_jump_to, od_Scribe_jump_to, .func (PySem.W.fnOf "jump_to" "Scribe.jump_to" (defArgs s_Scribe_jump_to) (defBody s_Scribe_jump_to) (defScope s_Scribe_jump_to) .none kV_Scribe_jump_to dc_Scribe_jump_to pm_Scribe_jump_to an_Scribe_jump_to cd_Scribe_jump_to ct_Scribe_jump_to), sl_Scribe_jump_to⟩)
    (c_Scribe_jump_to : PySem.W.codeIn K cd_Scribe_jump_to "Scribe.jump_to" = true)
    (k_Scribe_jump_to : PySem.W.keepIn K (.ref p_Scribe_jump_to) = true)
    (a_Scribe_jump : PySem.W.findIn K (.ref C_Scribe) "jump" = some (some (.ref p_Scribe_jump)))
    (i_Scribe_jump : PySem.W.isFn K (.ref p_Scribe_jump) = true)
    (l_Scribe_jump : K.lookup p_Scribe_jump = some ⟨oc_Scribe_jump, od_Scribe_jump, .func (PySem.W.fnOf "jump" "Scribe.jump" (defArgs s_Scribe_jump) (defBody s_Scribe_jump) (defScope s_Scribe_jump) .none kV_Scribe_jump dc_Scribe_jump pm_Scribe_jump an_Scribe_jump cd_Scribe_jump ct_Scribe_jump), sl_Scribe_jump⟩)
    (c_Scribe_jump : PySem.W.codeIn K cd_Scribe_jump "Scribe.jump" = true)
    (k_Scribe_jump : PySem.W.keepIn K (.ref p_Scribe_jump) = true)
    (a_Scribe_go_to : PySem.W.findIn K (.ref C_Scribe) "go_to" = some (some (.ref p_Scribe_go_to)))
    (i_Scribe_go_to : PySem.W.isFn K (.ref p_Scribe_go_to) = true)
    (l_Scribe_go_to : K.lookup p_Scribe_go_to = some ⟨oc_Scribe_go_to, od_Scribe_go_to, .func (PySem.W.fnOf "go_to" "Scribe.go_to" (defArgs s_Scribe_go_to) (defBody s_Scribe_go_to) (defScope s_Scribe_go_to) .none kV_Scribe_go_to dc_Scribe_go_to pm_Scribe_go_to an_Scribe_go_to cd_Scribe_go_to ct_Scribe_go_to), sl_Scribe_go_to⟩)
    (c_Scribe_go_to : PySem.W.codeIn K cd_Scribe_go_to "Scribe.go_to" = true)
    (k_Scribe_go_to : PySem.W.keepIn K (.ref p_Scribe_go_to) = true)
    (e_GREATEST_NUMBER : PySem.W.nsIn K mainGlobals "GREATEST_NUMBER" = some (some (.int (99999999999999999999) t_1)))
    (e_START : PySem.W.nsIn K mainGlobals "START" = some (some (.ref q_2)))
    (ql_2 : K.lookup q_2 = some ⟨.type "tuple", qo_2, .seq #[.int (0) t_3, .int (0) t_4, .int (0) t_5] qn_2, qs_2⟩)
    (e_AHEAD : PySem.W.nsIn K mainGlobals "AHEAD" = some (some (.ref q_6)))
    (ql_6 : K.lookup q_6 = some ⟨.type "tuple", none, .seq #[.ref q_7, .ref q_10, .ref q_13, .ref q_16] qn_6, qs_6⟩)
    (ql_16 : K.lookup q_16 = some ⟨.type "tuple", qo_16, .seq #[.int (0) t_17, .int (-1) t_18] qn_16, qs_16⟩)
    (ql_13 : K.lookup q_13 = some ⟨.type "tuple", qo_13, .seq #[.int (-1) t_14, .int (0) t_15] qn_13, qs_13⟩)
    (ql_10 : K.lookup q_10 = some ⟨.type "tuple", qo_10, .seq #[.int (0) t_11, .int (1) t_12] qn_10, qs_10⟩)
    (ql_7 : K.lookup q_7 = some ⟨.type "tuple", qo_7, .seq #[.int (1) t_8, .int (0) t_9] qn_7, qs_7⟩)
    (e_MOST_PARTS : PySem.W.nsIn K mainGlobals "MOST_PARTS" = some (some (.int (1000) t_19)))
    (ac_BadNote : PySem.W.nsIn K mainGlobals "BadNote" = some (some (.ref C_BadNote)))
    (cl_BadNote : PySem.W.clsIn K C_BadNote = some cdt_BadNote)
    (tc_BadNote : PySem.W.typeIn K (.ref C_BadNote) = some (.type "type"))
    (ac_NoNumber : PySem.W.nsIn K mainGlobals "NoNumber" = some (some (.ref C_NoNumber)))
    (cl_NoNumber : PySem.W.clsIn K C_NoNumber = some cdt_NoNumber)
    (tc_NoNumber : PySem.W.typeIn K (.ref C_NoNumber) = some (.type "type"))
    (ac_NoPicture : PySem.W.nsIn K mainGlobals "NoPicture" = some (some (.ref C_NoPicture)))
    (cl_NoPicture : PySem.W.clsIn K C_NoPicture = some cdt_NoPicture)
    (tc_NoPicture : PySem.W.typeIn K (.ref C_NoPicture) = some (.type "type"))
    (ac_NoRoom : PySem.W.nsIn K mainGlobals "NoRoom" = some (some (.ref C_NoRoom)))
    (cl_NoRoom : PySem.W.clsIn K C_NoRoom = some cdt_NoRoom)
    (tc_NoRoom : PySem.W.typeIn K (.ref C_NoRoom) = some (.type "type"))
    (ac_NoStep : PySem.W.nsIn K mainGlobals "NoStep" = some (some (.ref C_NoStep)))
    (cl_NoStep : PySem.W.clsIn K C_NoStep = some cdt_NoStep)
    (tc_NoStep : PySem.W.typeIn K (.ref C_NoStep) = some (.type "type"))
    (ac_NoWord : PySem.W.nsIn K mainGlobals "NoWord" = some (some (.ref C_NoWord)))
    (cl_NoWord : PySem.W.clsIn K C_NoWord = some cdt_NoWord)
    (tc_NoWord : PySem.W.typeIn K (.ref C_NoWord) = some (.type "type"))
    (ac_PenError : PySem.W.nsIn K mainGlobals "PenError" = some (some (.ref C_PenError)))
    (cl_PenError : PySem.W.clsIn K C_PenError = some cdt_PenError)
    (tc_PenError : PySem.W.typeIn K (.ref C_PenError) = some (.type "type"))
    (q_NoPicture : PySem.W.excIn K C_NoPicture [.type "ValueError", .type "Exception", .type "BaseException", .type "object"] "ValueError.__new__" = true)
    (ek0_NoPicture : PySem.W.findIn K (.ref C_NoPicture) "__getattribute__" = some (some (.builtin "BaseException.__getattribute__")))
    (ek1_NoPicture : PySem.W.findIn K (.ref C_NoPicture) "__getattr__" = some none)
    (ek2_NoPicture : PySem.W.mroIn K C_NoPicture (.type "BaseException") = some true)
    (ek4_NoPicture : PySem.W.findIn K (.ref C_NoPicture) "__class__" = some (some (.builtin "object.__class__")))
    (ek5_NoPicture : PySem.W.specialIn K (.builtin "object.__class__") "__get__" = some (some (.builtin "getset_descriptor.__get__")))
    (ek6_NoPicture : PySem.W.takesIn K (.builtin "object.__class__") = some true)
    (ek7_NoPicture : PySem.W.mroIn K C_NoPicture (.type "object") = some true)
    (sb_NoPicture_BadNote : PySem.W.subIn K (.ref C_NoPicture) (.ref C_BadNote) = some false)
    (ne_NoPicture_BadNote : (Value.ref C_NoPicture == Value.ref C_BadNote) = false)
    (sb_NoPicture_NoNumber : PySem.W.subIn K (.ref C_NoPicture) (.ref C_NoNumber) = some false)
    (ne_NoPicture_NoNumber : (Value.ref C_NoPicture == Value.ref C_NoNumber) = false)
    (sb_NoPicture_NoRoom : PySem.W.subIn K (.ref C_NoPicture) (.ref C_NoRoom) = some false)
    (ne_NoPicture_NoRoom : (Value.ref C_NoPicture == Value.ref C_NoRoom) = false)
    (sb_NoPicture_NoStep : PySem.W.subIn K (.ref C_NoPicture) (.ref C_NoStep) = some false)
    (ne_NoPicture_NoStep : (Value.ref C_NoPicture == Value.ref C_NoStep) = false)
    (sb_NoPicture_NoWord : PySem.W.subIn K (.ref C_NoPicture) (.ref C_NoWord) = some false)
    (ne_NoPicture_NoWord : (Value.ref C_NoPicture == Value.ref C_NoWord) = false)
    (sb_NoPicture_ValueError : PySem.W.subIn K (.ref C_NoPicture) (.type "ValueError") = some true)
    (k3s : PySem.W.subIn K (.type "type") (.type "tuple") = some false)
    (k2s_PenError : PySem.W.subIn K (.ref C_PenError) (.type "BaseException") = some true)
    (sb_NoPicture_PenError : PySem.W.subIn K (.ref C_NoPicture) (.ref C_PenError) = some true)
    (zz_ValueError : PySem.W.nsIn K mainGlobals "ValueError" = some none)
    (zz_abs : PySem.W.nsIn K mainGlobals "abs" = some none)
    (zz_all : PySem.W.nsIn K mainGlobals "all" = some none)
    (zz_bool : PySem.W.nsIn K mainGlobals "bool" = some none)
    (zz_int : PySem.W.nsIn K mainGlobals "int" = some none)
    (zz_isinstance : PySem.W.nsIn K mainGlobals "isinstance" = some none)
    (zz_len : PySem.W.nsIn K mainGlobals "len" = some none)
    (zz_list : PySem.W.nsIn K mainGlobals "list" = some none)
    (zz_max : PySem.W.nsIn K mainGlobals "max" = some none)
    (zz_min : PySem.W.nsIn K mainGlobals "min" = some none)
    (zz_range : PySem.W.nsIn K mainGlobals "range" = some none)
    (zz_sorted : PySem.W.nsIn K mainGlobals "sorted" = some none)
    (zz_tuple : PySem.W.nsIn K mainGlobals "tuple" = some none) :
    ∃ fd : FuncData, (∀ (s : Shared) (v : Value), BindsTo s fd ⟨[v], []⟩ [("script", v)]) ∧ ∀ base : Heap, K.In base → base.Ns mainGlobals mg → FnOk l.prog w K mg base CX0 7 fa fd ["script"] (lift K spLaw) := by
  have e := hfa.symm.trans (PySem.W.mg_of X G a_law)
  cases e
  have m_Scribe := PySem.W.mg_of X G ac_Scribe
  have oc_Scribe : ObjC K "Scribe" C_Scribe := ⟨ac_Scribe, ⟨pg_Scribe, hd_Scribe, po_Scribe, sa_Scribe⟩⟩
  have g_GREATEST_NUMBER : Gd K mg "GREATEST_NUMBER" k_GREATEST_NUMBER := gd_int X G e_GREATEST_NUMBER
  have g_START : Gd K mg "START" k_START := gd_tup X G e_START (TupK.mk ql_2 (show 3 ≤ sizeLine by decide) (.int (.int (.int .nil))))
  have g_AHEAD : Gd K mg "AHEAD" k_AHEAD := gd_tup X G e_AHEAD (TupK.mk ql_6 (show 4 ≤ sizeLine by decide) (.tup (TupK.mk ql_7 (show 2 ≤ sizeLine by decide) (.int (.int .nil))) (.tup (TupK.mk ql_10 (show 2 ≤ sizeLine by decide) (.int (.int .nil))) (.tup (TupK.mk ql_13 (show 2 ≤ sizeLine by decide) (.int (.int .nil))) (.tup (TupK.mk ql_16 (show 2 ≤ sizeLine by decide) (.int (.int .nil))) .nil)))))
  have gt_AHEAD : GdT K mg "AHEAD" kl_AHEAD := gdt_mk X G e_AHEAD ql_6 (TupK.mk ql_6 (show 4 ≤ sizeLine by decide) (.tup (TupK.mk ql_7 (show 2 ≤ sizeLine by decide) (.int (.int .nil))) (.tup (TupK.mk ql_10 (show 2 ≤ sizeLine by decide) (.int (.int .nil))) (.tup (TupK.mk ql_13 (show 2 ≤ sizeLine by decide) (.int (.int .nil))) (.tup (TupK.mk ql_16 (show 2 ≤ sizeLine by decide) (.int (.int .nil))) .nil)))))
  have g_MOST_PARTS : Gd K mg "MOST_PARTS" k_MOST_PARTS := gd_int X G e_MOST_PARTS
  have m_BadNote := PySem.W.mg_of X G ac_BadNote
  have m_NoNumber := PySem.W.mg_of X G ac_NoNumber
  have m_NoPicture := PySem.W.mg_of X G ac_NoPicture
  have m_NoRoom := PySem.W.mg_of X G ac_NoRoom
  have m_NoStep := PySem.W.mg_of X G ac_NoStep
  have m_NoWord := PySem.W.mg_of X G ac_NoWord
  have m_PenError := PySem.W.mg_of X G ac_PenError
  have EK_NoPicture : ExcK K C_NoPicture := ⟨ek0_NoPicture, ek1_NoPicture, ek2_NoPicture, (by rw [cl_NoPicture]; rfl), ek4_NoPicture, ek5_NoPicture, ek6_NoPicture, ek7_NoPicture⟩
  have kk_NoPicture_BadNote : PySem.W.kitOne K (.ref C_NoPicture) (.ref C_BadNote) = some false := kitO_of ne_NoPicture_BadNote (kitC_ref cl_BadNote tc_BadNote sb_NoPicture_BadNote)
  have x_BadNote := x_mk1 (cn := "BadNote") ⟨rfl, by decide⟩ ac_NoPicture EK_NoPicture kk_NoPicture_BadNote
  have kk_NoPicture_NoNumber : PySem.W.kitOne K (.ref C_NoPicture) (.ref C_NoNumber) = some false := kitO_of ne_NoPicture_NoNumber (kitC_ref cl_NoNumber tc_NoNumber sb_NoPicture_NoNumber)
  have x_NoNumber := x_mk1 (cn := "NoNumber") ⟨rfl, by decide⟩ ac_NoPicture EK_NoPicture kk_NoPicture_NoNumber
  have kk_NoPicture_NoPicture : PySem.W.kitOne K (.ref C_NoPicture) (.ref C_NoPicture) = some true := kitO_same
  have x_NoPicture := x_mk1 (cn := "NoPicture") ⟨rfl, by decide⟩ ac_NoPicture EK_NoPicture kk_NoPicture_NoPicture
  have kk_NoPicture_NoRoom : PySem.W.kitOne K (.ref C_NoPicture) (.ref C_NoRoom) = some false := kitO_of ne_NoPicture_NoRoom (kitC_ref cl_NoRoom tc_NoRoom sb_NoPicture_NoRoom)
  have x_NoRoom := x_mk1 (cn := "NoRoom") ⟨rfl, by decide⟩ ac_NoPicture EK_NoPicture kk_NoPicture_NoRoom
  have kk_NoPicture_NoStep : PySem.W.kitOne K (.ref C_NoPicture) (.ref C_NoStep) = some false := kitO_of ne_NoPicture_NoStep (kitC_ref cl_NoStep tc_NoStep sb_NoPicture_NoStep)
  have x_NoStep := x_mk1 (cn := "NoStep") ⟨rfl, by decide⟩ ac_NoPicture EK_NoPicture kk_NoPicture_NoStep
  have kk_NoPicture_NoWord : PySem.W.kitOne K (.ref C_NoPicture) (.ref C_NoWord) = some false := kitO_of ne_NoPicture_NoWord (kitC_ref cl_NoWord tc_NoWord sb_NoPicture_NoWord)
  have x_NoWord := x_mk1 (cn := "NoWord") ⟨rfl, by decide⟩ ac_NoPicture EK_NoPicture kk_NoPicture_NoWord
  have kk_NoPicture_ValueError : PySem.W.kitOne K (.ref C_NoPicture) (.type "ValueError") = some true := kitO_of rfl (kitC_ty (by decide +kernel) sb_NoPicture_ValueError)
  have x_ValueError := x_mk1 (cn := "ValueError") ⟨rfl, by decide⟩ ac_NoPicture EK_NoPicture kk_NoPicture_ValueError
  have k3 : PySem.W.kitCls K (.type "type") (.type "tuple") = some false := kitC_ty (by decide +kernel) k3s
  have k2_PenError := kitC_ty (T := "BaseException") (by decide +kernel) k2s_PenError
  have kc_NoPicture_PenError := kitC_ref cl_PenError tc_PenError sb_NoPicture_PenError
  have ok_PenError : ∀ c, okX c = true → ∃ C, PySem.W.nsIn K mainGlobals c = some (some (.ref C)) ∧ mg c = some (.ref C) ∧ PySem.W.kitCls K (.ref C) (.ref C_PenError) = some true := by
    intro c h
    have hin : c ∈ xnames := by simpa [okX] using h
    simp only [xnames, List.mem_cons, List.not_mem_nil, or_false] at hin
    rcases hin with rfl
    · exact ⟨C_NoPicture, ac_NoPicture, m_NoPicture, kc_NoPicture_PenError⟩
  have z_ValueError := PySem.W.mg_none_of X G zz_ValueError
  have z_abs := PySem.W.mg_none_of X G zz_abs
  have z_all := PySem.W.mg_none_of X G zz_all
  have z_bool := PySem.W.mg_none_of X G zz_bool
  have z_int := PySem.W.mg_none_of X G zz_int
  have z_isinstance := PySem.W.mg_none_of X G zz_isinstance
  have z_len := PySem.W.mg_none_of X G zz_len
  have z_list := PySem.W.mg_none_of X G zz_list
  have z_max := PySem.W.mg_none_of X G zz_max
  have z_min := PySem.W.mg_none_of X G zz_min
  have z_range := PySem.W.mg_none_of X G zz_range
  have z_sorted := PySem.W.mg_none_of X G zz_sorted
  have z_tuple := PySem.W.mg_none_of X G zz_tuple
  obtain ⟨_, F_led⟩ := A_led.fn
  have b_led := F_led.binds (ps := ["pen", "part"]) fun _ _ _ _ _ _ => bn2 fun _ _ => rfl
  have m_led := PySem.W.mg_of X G a_led
  obtain ⟨_, F_is_trail⟩ := A_is_trail.fn
  have b_is_trail := F_is_trail.binds (ps := ["trail"]) fun _ _ _ _ _ _ => bn1 fun _ => rfl
  have m_is_trail := PySem.W.mg_of X G a_is_trail
  obtain ⟨_, F_are_next⟩ := A_are_next.fn
  have b_are_next := F_are_next.binds (ps := ["point", "other"]) fun _ _ _ _ _ _ => bn2 fun _ _ => rfl
  have m_are_next := PySem.W.mg_of X G a_are_next
  obtain ⟨_, F_deeds_of⟩ := A_deeds_of.fn
  have b_deeds_of := F_deeds_of.binds (ps := ["trails"]) fun _ _ _ _ _ _ => bn1 fun _ => rfl
  have m_deeds_of := PySem.W.mg_of X G a_deeds_of
  obtain ⟨_, F_jumps_over⟩ := A_jumps_over.fn
  have b_jumps_over := F_jumps_over.binds (ps := ["far"]) fun _ _ _ _ _ _ => bn1 fun _ => rfl
  have m_jumps_over := PySem.W.mg_of X G a_jumps_over
  obtain ⟨_, F__law_cell_at⟩ := A__law_cell_at.fn
  have b__law_cell_at := F__law_cell_at.binds (ps := ["script", "k"]) fun _ _ _ _ _ _ => bn2 fun _ _ => rfl
  have m__law_cell_at := PySem.W.mg_of X G a__law_cell_at
  obtain ⟨_, F__law_whole⟩ := A__law_whole.fn
  have b__law_whole := F__law_whole.binds (ps := ["found"]) fun _ _ _ _ _ _ => bn1 fun _ => rfl
  have m__law_whole := PySem.W.mg_of X G a__law_whole
  obtain ⟨_, F__law_state⟩ := A__law_state.fn
  have b__law_state := F__law_state.binds (ps := ["script", "k"]) fun _ _ _ _ _ _ => bn2 fun _ _ => rfl
  have m__law_state := PySem.W.mg_of X G a__law_state
  obtain ⟨_, F__law_choice⟩ := A__law_choice.fn
  have b__law_choice := F__law_choice.binds (ps := ["state", "many"]) fun _ _ _ _ _ _ => bn2 fun _ _ => rfl
  have m__law_choice := PySem.W.mg_of X G a__law_choice
  obtain ⟨_, F__law_walked⟩ := A__law_walked.fn
  have b__law_walked := F__law_walked.binds (ps := ["deeds", "pen"]) fun _ _ _ _ _ _ => bn2 fun _ _ => rfl
  have m__law_walked := PySem.W.mg_of X G a__law_walked
  obtain ⟨_, F__law_marks⟩ := A__law_marks.fn
  have b__law_marks := F__law_marks.binds (ps := ["e"]) fun _ _ _ _ _ _ => bn1 fun _ => rfl
  have m__law_marks := PySem.W.mg_of X G a__law_marks
  obtain ⟨_, F__law_refused⟩ := A__law_refused.fn
  have b__law_refused := F__law_refused.binds (ps := ["marks", "which"]) fun _ _ _ _ _ _ => bn2 fun _ _ => rfl
  have m__law_refused := PySem.W.mg_of X G a__law_refused
  obtain ⟨_, F__law_from_ends⟩ := A__law_from_ends.fn
  have b__law_from_ends := F__law_from_ends.binds (ps := ["one", "other"]) fun _ _ _ _ _ _ => bn2 fun _ _ => rfl
  have m__law_from_ends := PySem.W.mg_of X G a__law_from_ends
  obtain ⟨_, F__law_strokes⟩ := A__law_strokes.fn
  have b__law_strokes := F__law_strokes.binds (ps := ["trail"]) fun _ _ _ _ _ _ => bn1 fun _ => rfl
  have m__law_strokes := PySem.W.mg_of X G a__law_strokes
  obtain ⟨_, F__law_trail⟩ := A__law_trail.fn
  have b__law_trail := F__law_trail.binds (ps := ["state"]) fun _ _ _ _ _ _ => bn1 fun _ => rfl
  have m__law_trail := PySem.W.mg_of X G a__law_trail
  obtain ⟨_, F__law_is_row⟩ := A__law_is_row.fn
  have b__law_is_row := F__law_is_row.binds (ps := ["deeds"]) fun _ _ _ _ _ _ => bn1 fun _ => rfl
  have m__law_is_row := PySem.W.mg_of X G a__law_is_row
  obtain ⟨_, F__law_told⟩ := A__law_told.fn
  have b__law_told := F__law_told.binds (ps := ["trails"]) fun _ _ _ _ _ _ => bn1 fun _ => rfl
  have m__law_told := PySem.W.mg_of X G a__law_told
  obtain ⟨_, _, _, kV_law, dc_law, pm_law, an_law, cd_law, ct_law, l_law, c_law, k_law⟩ := A_law
  have F_law := fun_mk (st := s_law) l_law c_law k_law
  have b_law := F_law.binds (ps := ["script"]) fun _ _ _ _ _ _ => bn1 fun _ => rfl
  have m_law := PySem.W.mg_of X G a_law
  have F_Scribe___init__ := fun_mk (st := s_Scribe___init__) l_Scribe___init__ c_Scribe___init__ k_Scribe___init__
  have b_Scribe___init__ := F_Scribe___init__.binds (ps := ["self"]) fun _ _ _ _ _ _ => bn1 fun _ => rfl
  have F_Scribe_turn_to := fun_mk (st := s_Scribe_turn_to) l_Scribe_turn_to c_Scribe_turn_to k_Scribe_turn_to
  have b_Scribe_turn_to := F_Scribe_turn_to.binds (ps := ["self", "heading"]) fun _ _ _ _ _ _ => bn2 fun _ _ => rfl
  have F_Scribe_jump_to := fun_mk (st := s_Scribe_jump_to) l_Scribe_jump_to c_Scribe_jump_to k_Scribe_jump_to
  have b_Scribe_jump_to := F_Scribe_jump_to.binds (ps := ["self", "point"]) fun _ _ _ _ _ _ => bn2 fun _ _ => rfl
  have F_Scribe_jump := fun_mk (st := s_Scribe_jump) l_Scribe_jump c_Scribe_jump k_Scribe_jump
  have b_Scribe_jump := F_Scribe_jump.binds (ps := ["self", "heading", "far"]) fun _ _ _ _ _ _ => bn3 fun _ _ _ => rfl
  have F_Scribe_go_to := fun_mk (st := s_Scribe_go_to) l_Scribe_go_to c_Scribe_go_to k_Scribe_go_to
  have b_Scribe_go_to := F_Scribe_go_to.binds (ps := ["self", "point"]) fun _ _ _ _ _ _ => bn2 fun _ _ => rfl
  refine ⟨PySem.W.fnOf "law" "law" (defArgs s_law) (defBody s_law) (defScope s_law) .none kV_law dc_law pm_law an_law cd_law ct_law, fun s v => .of_eq rfl, fun base KB GB => ?_⟩
  have O_NoPicture := own_mk KB GB ac_NoPicture q_NoPicture
  have h_led : Cal l.prog w K mg base (1) "led" ["pen", "part"] spLed := cal_of F_led m_led b_led sc_led (by rintro _ _ _ ⟨_, _, rfl, _⟩; rfl) (k := 0) (fun cdv A outer s H E hr => rs_led g_AHEAD hr) rd_led
  have h_are_next : Cal l.prog w K mg base (1) "are_next" ["point", "other"] spNx := cal_of F_are_next m_are_next b_are_next sc_are_next (by rintro _ _ _ ⟨_, _, rfl, _⟩; rfl) (k := 0) (fun cdv A outer s H E hr => rs_are_next z_abs hr) rd_are_next
  have h_is_trail : Cal l.prog w K mg base (2) "is_trail" ["trail"] spTr := cal_of F_is_trail m_is_trail b_is_trail sc_is_trail (by rintro _ _ _ ⟨_, _, rfl, _⟩; rfl) (k := 1) (fun cdv A outer s H E hr => rs_is_trail h_are_next (by decide) z_all z_len z_range hr) rd_is_trail
  have h_jumps_over : Cal l.prog w K mg base (1) "jumps_over" ["far"] spJo := cal_of F_jumps_over m_jumps_over b_jumps_over sc_jumps_over (by rintro _ _ _ ⟨_, rfl, _⟩; rfl) (k := 0) (fun cdv A outer s H E hr => rs_jumps_over z_abs g_GREATEST_NUMBER g_MOST_PARTS hr) rd_jumps_over
  have h_Scribe___init__ : CalT l.prog w K mg base (1) C_Scribe "__init__" ["self"] spInit := calT_of F_Scribe___init__ a_Scribe___init__ i_Scribe___init__ b_Scribe___init__ sc_Scribe___init__ (by rintro _ _ _ ⟨_, rfl, _⟩; rfl) (k := 0) (fun cdv A outer s H E hr => rs_Scribe___init__ oc_Scribe na_Scribe_deeds na_Scribe_pen g_START hr) rd_Scribe___init__
  have h_Scribe_turn_to : CalT l.prog w K mg base (2) C_Scribe "turn_to" ["self", "heading"] spTurn := calT_of F_Scribe_turn_to a_Scribe_turn_to i_Scribe_turn_to b_Scribe_turn_to sc_Scribe_turn_to (by rintro _ _ _ ⟨_, _, _, _, _, _, rfl, _⟩; rfl) (k := 1) (fun cdv A outer s H E hr => rs_Scribe_turn_to h_led (by decide) oc_Scribe na_Scribe_deeds na_Scribe_pen hr) rd_Scribe_turn_to
  have h_Scribe_jump : CalT l.prog w K mg base (3) C_Scribe "jump" ["self", "heading", "far"] spJump := calT_of F_Scribe_jump a_Scribe_jump i_Scribe_jump b_Scribe_jump sc_Scribe_jump (by rintro _ _ _ ⟨_, _, _, _, _, _, _, rfl, _⟩; rfl) (k := 2) (fun cdv A outer s H E hr => rs_Scribe_jump h_Scribe_turn_to (by decide) h_jumps_over (by decide) h_led (by decide) oc_Scribe na_Scribe_deeds na_Scribe_pen hr) rd_Scribe_jump
  have h_Scribe_jump_to : CalT l.prog w K mg base (4) C_Scribe "jump_to" ["self", "point"] spJt := calT_of F_Scribe_jump_to a_Scribe_jump_to i_Scribe_jump_to b_Scribe_jump_to sc_Scribe_jump_to (by rintro _ _ _ ⟨_, _, _, _, _, _, rfl, _⟩; rfl) (k := 3) (fun cdv A outer s H E hr => rs_Scribe_jump_to h_Scribe_jump (by decide) oc_Scribe na_Scribe_pen hr) rd_Scribe_jump_to
  have h_Scribe_go_to : CalT l.prog w K mg base (3) C_Scribe "go_to" ["self", "point"] spGo := calT_of F_Scribe_go_to a_Scribe_go_to i_Scribe_go_to b_Scribe_go_to sc_Scribe_go_to (by rintro _ _ _ ⟨_, _, _, _, _, _, rfl, _⟩; rfl) (k := 2) (fun cdv A outer s H E hr => rs_Scribe_go_to h_Scribe_turn_to (by decide) h_led (by decide) oc_Scribe na_Scribe_deeds na_Scribe_pen z_len gt_AHEAD hr) rd_Scribe_go_to
  have h_deeds_of : CalX l.prog w K mg base (5) "deeds_of" ["trails"] spxDo := calX_of F_deeds_of m_deeds_of b_deeds_of sc_deeds_of (by rintro _ _ _ _ ⟨_, _, rfl, _⟩; rfl) (k := 4) (fun cdv A outer s H E XE hr EX => rs_deeds_of EX h_Scribe___init__ (by decide) h_Scribe_go_to (by decide) h_Scribe_jump_to (by decide) h_is_trail (by decide) oc_Scribe na_Scribe_deeds mk_Scribe kp_Scribe m_Scribe O_NoPicture z_all hr) rd_deeds_of
  have h__law_cell_at : Cal l.prog w K mg base (1) "_law_cell_at" ["script", "k"] spCell := cal_of F__law_cell_at m__law_cell_at b__law_cell_at sc__law_cell_at (by rintro _ _ _ ⟨_, _, rfl, _⟩; rfl) (k := 0) (fun cdv A outer s H E hr => rs__law_cell_at z_len hr) rd__law_cell_at
  have h__law_state : Cal l.prog w K mg base (2) "_law_state" ["script", "k"] spState := cal_of F__law_state m__law_state b__law_state sc__law_state (by rintro _ _ _ ⟨_, _, rfl, _⟩; rfl) (k := 1) (fun cdv A outer s H E hr => rs__law_state h__law_cell_at (by decide) hr) rd__law_state
  have h__law_choice : Cal l.prog w K mg base (1) "_law_choice" ["state", "many"] spChoice := cal_of F__law_choice m__law_choice b__law_choice sc__law_choice (by rintro _ _ _ ⟨_, _, _, _, _, rfl, _⟩; rfl) (k := 0) (fun cdv A outer s H E hr => rs__law_choice hr) rd__law_choice
  have h__law_whole : Cal l.prog w K mg base (1) "_law_whole" ["found"] spWhole := cal_of F__law_whole m__law_whole b__law_whole sc__law_whole (by rintro _ _ _ ⟨_, rfl, _⟩; rfl) (k := 0) (fun cdv A outer s H E hr => rs__law_whole z_bool z_int z_isinstance hr) rd__law_whole
  have h__law_walked : Cal l.prog w K mg base (1) "_law_walked" ["deeds", "pen"] spWlk := cal_of F__law_walked m__law_walked b__law_walked sc__law_walked (by rintro _ _ _ ⟨_, _, rfl, _⟩; rfl) (k := 0) (fun cdv A outer s H E hr => rs__law_walked z_min z_range hr) rd__law_walked
  have h__law_marks : CalM l.prog w K mg base (1) "_law_marks" ["e"] spMk := calM_of F__law_marks m__law_marks b__law_marks sc__law_marks (by rintro _ _ _ ⟨rfl, _⟩; rfl) (k := 0) (fun cdv A outer s H E hr => rs__law_marks m_BadNote x_BadNote m_NoNumber x_NoNumber m_NoPicture x_NoPicture m_NoRoom x_NoRoom m_NoStep x_NoStep m_NoWord x_NoWord x_ValueError z_ValueError z_isinstance hr) rd__law_marks
  have h__law_refused : Cal l.prog w K mg base (1) "_law_refused" ["marks", "which"] spRef := cal_of F__law_refused m__law_refused b__law_refused sc__law_refused (by rintro _ _ _ ⟨_, rfl, _⟩; rfl) (k := 0) (fun cdv A outer s H E hr => rs__law_refused z_range hr) rd__law_refused
  have h__law_from_ends : Cal l.prog w K mg base (1) "_law_from_ends" ["one", "other"] spFe := cal_of F__law_from_ends m__law_from_ends b__law_from_ends sc__law_from_ends (by rintro _ _ _ ⟨_, _, rfl, _⟩; rfl) (k := 0) (fun cdv A outer s H E hr => rs__law_from_ends z_max z_min hr) rd__law_from_ends
  have h__law_strokes : Cal l.prog w K mg base (2) "_law_strokes" ["trail"] spSt := cal_of F__law_strokes m__law_strokes b__law_strokes sc__law_strokes (by rintro _ _ _ ⟨_, _, rfl, _⟩; rfl) (k := 1) (fun cdv A outer s H E hr => rs__law_strokes h__law_from_ends (by decide) z_abs z_len z_range hr) rd__law_strokes
  have h__law_trail : Cal l.prog w K mg base (2) "_law_trail" ["state"] spTrl := cal_of F__law_trail m__law_trail b__law_trail sc__law_trail (by rintro _ _ _ ⟨_, _, _, rfl, _⟩; rfl) (k := 1) (fun cdv A outer s H E hr => rs__law_trail h__law_choice (by decide) z_range hr) rd__law_trail
  have h__law_is_row : Cal l.prog w K mg base (2) "_law_is_row" ["deeds"] spRow := cal_of F__law_is_row m__law_is_row b__law_is_row sc__law_is_row (by rintro _ _ _ ⟨_, _, rfl, _⟩; rfl) (k := 1) (fun cdv A outer s H E hr => rs__law_is_row h__law_whole (by decide) z_isinstance z_len z_list z_tuple hr) rd__law_is_row
  have h__law_told : Cal l.prog w K mg base (6) "_law_told" ["trails"] spTold := cal_of F__law_told m__law_told b__law_told sc__law_told (by rintro _ _ _ ⟨_, _, rfl, _⟩; rfl) (k := 5) (fun cdv A outer s H E hr => rs__law_told h__law_marks (by decide) h_deeds_of (by decide) m_PenError k2_PenError k3 ok_PenError hr) rd__law_told
  exact fnok_of F_law sc_law (by rintro _ _ _ ⟨_, rfl, _⟩; rfl) (k := 6) (fun cdv A outer s H E hr => rs_law h__law_choice (by decide) h__law_is_row (by decide) h__law_refused (by decide) h__law_state (by decide) h__law_strokes (by decide) h__law_told (by decide) h__law_trail (by decide) h__law_walked (by decide) z_len z_list z_range z_sorted hr) rd_law
theorem walk {l : PySem.W.OpenLaw} {q : Program} {loose : List Str} {XP : (Str → Option Value) → Heap → Prop} {YP : World → Heap → Prop} {d : DefRec} {K : Params → Fg} (hn : l.most = some 63) (hdf : d.params.defaults = [])
    (hY : ∀ (w : World) (h : Heap), YP w h → (K w.params).In h)
    (F : ∀ (w : World) (mg : Str → Option Value) (fa : Addr) (h : Heap), (K w.params).In h → h.Ns mainGlobals mg → mg d.name = some (.ref fa) →
      ∃ fd : FuncData, (∀ (s : Shared) (u : Value), BindsTo s fd ⟨[u], []⟩ [("script", u)]) ∧ ∀ base : Heap, (K w.params).In base → base.Ns mainGlobals mg → FnOk l.prog w (K w.params) mg base CX0 7 fa fd ["script"] (lift (K w.params) spLaw)) :
    PySem.W.WalkO q loose XP YP l.row.toRowW d [] (fun f vs => PySem.call f vs) :=
  L2.walk_of (n := 63) (k := 7) (x := "script") (CX := fun _ => CX0) (sp := fun w => lift (K w.params) spLaw) hn (by decide) hdf ⟨rfl, by decide, by decide⟩ hY F (fun _ _ a ns hl hO hS => law_lift hO hS ⟨ns, rfl, hl, fun _ => rfl⟩) fun _ _ _ _ _ z => z
end Pv
open PySem PySem.W PyProof.Rows
set_option maxRecDepth 100000 in
set_option maxHeartbeats 0 in
theorem PySem.Challenge.cw_penwright_k28_deeds_of_trails_holds : PySem.Challenge.rw_penwright_k28_deeds_of_trails.Holds := by
  w_on; o_law; k_head; (case hw => w_witness2)
  k_fill
  refine Pv.walk (l := PySem.Challenge.rw_penwright_k28_deeds_of_trails) rfl rfl (fun w h Y => PySem.W.kIn_of Y) ?F
  case F =>
    intro w mg fa h KX G hmg
    refine' Pv.all_mk KX G hmg ?a_led ?A_led ?a_is_trail ?A_is_trail ?a_are_next ?A_are_next ?a_deeds_of ?A_deeds_of ?a_jumps_over ?A_jumps_over ?a__law_cell_at ?A__law_cell_at ?a__law_whole ?A__law_whole ?a__law_state ?A__law_state ?a__law_choice ?A__law_choice ?a__law_walked ?A__law_walked ?a__law_marks ?A__law_marks ?a__law_refused ?A__law_refused ?a__law_from_ends ?A__law_from_ends ?a__law_strokes ?A__law_strokes ?a__law_trail ?A__law_trail ?a__law_is_row ?A__law_is_row ?a__law_told ?A__law_told ?a_law ?A_law ?ac_Scribe ?pg_Scribe ?hd_Scribe ?po_Scribe ?sa_Scribe ?mk_Scribe ?kp_Scribe ?na_Scribe_deeds ?na_Scribe_pen ?a_Scribe___init__ ?i_Scribe___init__ ?l_Scribe___init__ ?c_Scribe___init__ ?k_Scribe___init__ ?a_Scribe_turn_to ?i_Scribe_turn_to ?l_Scribe_turn_to ?c_Scribe_turn_to ?k_Scribe_turn_to ?a_Scribe_jump_to ?i_Scribe_jump_to ?l_Scribe_jump_to ?c_Scribe_jump_to ?k_Scribe_jump_to ?a_Scribe_jump ?i_Scribe_jump ?l_Scribe_jump ?c_Scribe_jump ?k_Scribe_jump ?a_Scribe_go_to ?i_Scribe_go_to ?l_Scribe_go_to ?c_Scribe_go_to ?k_Scribe_go_to ?e_GREATEST_NUMBER ?e_START ?ql_2 ?e_AHEAD ?ql_6 ?ql_16 ?ql_13 ?ql_10 ?ql_7 ?e_MOST_PARTS ?ac_BadNote ?cl_BadNote ?tc_BadNote ?ac_NoNumber ?cl_NoNumber ?tc_NoNumber ?ac_NoPicture ?cl_NoPicture ?tc_NoPicture ?ac_NoRoom ?cl_NoRoom ?tc_NoRoom ?ac_NoStep ?cl_NoStep ?tc_NoStep ?ac_NoWord ?cl_NoWord ?tc_NoWord ?ac_PenError ?cl_PenError ?tc_PenError ?q_NoPicture ?ek0_NoPicture ?ek1_NoPicture ?ek2_NoPicture ?ek4_NoPicture ?ek5_NoPicture ?ek6_NoPicture ?ek7_NoPicture ?sb_NoPicture_BadNote ?ne_NoPicture_BadNote ?sb_NoPicture_NoNumber ?ne_NoPicture_NoNumber ?sb_NoPicture_NoRoom ?ne_NoPicture_NoRoom ?sb_NoPicture_NoStep ?ne_NoPicture_NoStep ?sb_NoPicture_NoWord ?ne_NoPicture_NoWord ?sb_NoPicture_ValueError ?k3s ?k2s_PenError ?sb_NoPicture_PenError ?zz_ValueError ?zz_abs ?zz_all ?zz_bool ?zz_int ?zz_isinstance ?zz_len ?zz_list ?zz_max ?zz_min ?zz_range ?zz_sorted ?zz_tuple
    (case ac_Scribe | pg_Scribe | hd_Scribe | po_Scribe | sa_Scribe | mk_Scribe | kp_Scribe | na_Scribe_deeds | na_Scribe_pen | a_Scribe___init__ | i_Scribe___init__ | l_Scribe___init__ | c_Scribe___init__ | k_Scribe___init__ | a_Scribe_turn_to | i_Scribe_turn_to | l_Scribe_turn_to | c_Scribe_turn_to | k_Scribe_turn_to | a_Scribe_jump_to | i_Scribe_jump_to | l_Scribe_jump_to | c_Scribe_jump_to | k_Scribe_jump_to | a_Scribe_jump | i_Scribe_jump | l_Scribe_jump | c_Scribe_jump | k_Scribe_jump | a_Scribe_go_to | i_Scribe_go_to | l_Scribe_go_to | c_Scribe_go_to | k_Scribe_go_to | e_GREATEST_NUMBER | e_START | ql_2 | e_AHEAD | ql_6 | ql_16 | ql_13 | ql_10 | ql_7 | e_MOST_PARTS | ac_BadNote | cl_BadNote | tc_BadNote | ac_NoNumber | cl_NoNumber | tc_NoNumber | ac_NoPicture | cl_NoPicture | tc_NoPicture | ac_NoRoom | cl_NoRoom | tc_NoRoom | ac_NoStep | cl_NoStep | tc_NoStep | ac_NoWord | cl_NoWord | tc_NoWord | ac_PenError | cl_PenError | tc_PenError | ek0_NoPicture | ek1_NoPicture | ek2_NoPicture | ek4_NoPicture | ek5_NoPicture | ek6_NoPicture | ek7_NoPicture | sb_NoPicture_BadNote | sb_NoPicture_NoNumber | sb_NoPicture_NoRoom | sb_NoPicture_NoStep | sb_NoPicture_NoWord | sb_NoPicture_ValueError | k3s | k2s_PenError | sb_NoPicture_PenError | zz_ValueError | zz_abs | zz_all | zz_bool | zz_int | zz_isinstance | zz_len | zz_list | zz_max | zz_min | zz_range | zz_sorted | zz_tuple => k_is)
    (case a_led | a_is_trail | a_are_next | a_deeds_of | a_jumps_over | a__law_cell_at | a__law_whole | a__law_state | a__law_choice | a__law_walked | a__law_marks | a__law_refused | a__law_from_ends | a__law_strokes | a__law_trail | a__law_is_row | a__law_told | a_law => (show _ = _; k_is))
    (case A_led | A_is_trail | A_are_next | A_deeds_of | A_jumps_over | A__law_cell_at | A__law_whole | A__law_state | A__law_choice | A__law_walked | A__law_marks | A__law_refused | A__law_from_ends | A__law_strokes | A__law_trail | A__law_is_row | A__law_told | A_law => (refine' Pv.fnA_mk ?l ?c ?k; (case l => k_is); (case c => k_is); (case k => k_is)))
    (case q_NoPicture => k_exc)
    (case ne_NoPicture_BadNote | ne_NoPicture_NoNumber | ne_NoPicture_NoRoom | ne_NoPicture_NoStep | ne_NoPicture_NoWord => rfl)
