import PyProof.Rows.All
import Wide.All
import OpenK.AllK
import Wide.FinOn
import Lean
import PyProof.EqAt
import PyProof.EqKinds
import PyProof.TupleCall
import PyProof.P3Statements
import KE.KIntText
import KE.KRevIter
import KE.KIsAll
import PyProof.ExcAttrAll.ValueError
import PySem.Challenge.RW_penwright_k01_what_is_a_word
set_option Elab.async false
set_option linter.all false
set_option maxRecDepth 100000
set_option maxHeartbeats 4000000
/-! THE HAND LAYER, for ints, bools, texts, own classes, LISTS and tuples (index, slices, in, append, pop ..), calls, loops. Paste it whole ahead of your own text; what your proof does not reach may be deleted. -/
namespace L2
open PySem PySem.Spec PyProof.Rows

/-- a key: an int or a str -/
noncomputable abbrev Key := Sum Int Str
noncomputable def keyIs : Key → Value → Bool
  | .inl k, v => Value.isInt k v
  | .inr x, v => Value.isStrOf x v
noncomputable def keyH (w : World) : Key → Int
  | .inl k => hashInt k
  | .inr x => hashStr w x
theorem keyIs_shape : ∀ {k : Key} {v : Value}, keyIs k v = true → (∃ i t, k = Sum.inl i ∧ v = Value.int i t) ∨ (∃ x t, k = Sum.inr x ∧ v = Value.str x t)
  | .inl i, v, h => by
    obtain ⟨t, e⟩ := Value.isInt_shape (k := i) (v := v) h
    exact .inl ⟨i, t, rfl, e⟩
  | .inr x, v, h => by
    obtain ⟨t, e⟩ := Value.isStrOf_shape (x := x) (v := v) h
    exact .inr ⟨x, t, rfl, e⟩
theorem key_ll (a b : Int) : decide ((Sum.inl a : Key) = Sum.inl b) = (a == b) := by
  by_cases e : a = b
  · subst e; simp
  · have h : ¬ (Sum.inl a : Key) = Sum.inl b := fun q => e (Sum.inl.inj q)
    rw [decide_eq_false h]
    exact (beq_eq_false_iff_ne.mpr e).symm
theorem key_rr (a b : Str) : decide ((Sum.inr a : Key) = Sum.inr b) = decide (a = b) := by
  by_cases e : a = b
  · subst e; simp
  · have h : ¬ (Sum.inr a : Key) = Sum.inr b := fun q => e (Sum.inr.inj q)
    rw [decide_eq_false h, decide_eq_false e]
theorem key_lr (a : Int) (b : Str) : decide ((Sum.inl a : Key) = Sum.inr b) = false := decide_eq_false (fun q => nomatch q)
theorem key_rl (a : Str) (b : Int) : decide ((Sum.inr a : Key) = Sum.inl b) = false := decide_eq_false (fun q => nomatch q)

noncomputable def mixKind (prog : Program) (w : World) : PySem.KeyKind prog w Key where
  is := keyIs
  hash := keyH w
  inj := fun v a b ha hb => by
    rcases keyIs_shape ha with ⟨i, t, rfl, rfl⟩ | ⟨x, t, rfl, rfl⟩
    · rcases keyIs_shape hb with ⟨j, u, rfl, e⟩ | ⟨y, u, rfl, e⟩
      · injection e with e1 _; rw [e1]
      · exact nomatch e
    · rcases keyIs_shape hb with ⟨j, u, rfl, e⟩ | ⟨y, u, rfl, e⟩
      · exact nomatch e
      · injection e with e1 _; rw [e1]
  byValue := fun k v h => by
    rcases keyIs_shape h with ⟨i, t, rfl, rfl⟩ | ⟨x, t, rfl, rfl⟩ <;> rfl
  pyHash := fun hv h => by
    rcases keyIs_shape hv with ⟨i, t, rfl, rfl⟩ | ⟨x, t, rfl, rfl⟩
    · exact wpAny_pyHash_int h
    · exact wpAny_pyHash_str h
  eqBool := fun hu hv h => by
    rcases keyIs_shape hu with ⟨i, t, rfl, rfl⟩ | ⟨x, t, rfl, rfl⟩
    · rcases keyIs_shape hv with ⟨j, u, rfl, rfl⟩ | ⟨y, u, rfl, rfl⟩
      · rw [key_ll] at h; exact wpAny_eqBool_int h
      · rw [key_lr] at h; exact SeqAt.EqAt.int_str i t y u _ _ _ _ h
    · rcases keyIs_shape hv with ⟨j, u, rfl, rfl⟩ | ⟨y, u, rfl, rfl⟩
      · rw [key_rl] at h; exact SeqAt.EqAt.str_int x t j u _ _ _ _ h
      · rw [key_rr] at h; exact wpAny_eqBool_str h
  «strs» := fun k x t v h => by
    rcases keyIs_shape h with ⟨i, u, rfl, e⟩ | ⟨y, u, rfl, e⟩
    · exact nomatch e
    · injection e with e1 _
      subst e1
      cases v <;> rfl

end L2

namespace L2
open PySem PySem.Spec PyProof.Rows

/-- a value, without the heap -/
inductive V where
  | non | bl (b : Bool) | int (i : Int) | str (x : Str) | byt (b : Array UInt8) | flt (b : UInt64) | ref (a : Addr) | ty (n : String)
  deriving DecidableEq

noncomputable def RelV : V → Value → Prop
  | .non, u => u = Value.none
  | .bl b, u => u = Value.bool b
  | .int i, u => ∃ t, u = Value.int i t
  | .str x, u => ∃ t, u = Value.str x t
  | .byt b, u => ∃ t, u = Value.bytes b t
  | .flt b, u => ∃ t, u = Value.float b t
  | .ref a, u => u = Value.ref a
  | .ty n, u => u = Value.type n

noncomputable abbrev Vals : List V → List Value → Prop := Paired RelV
theorem Vals.length {xs : List V} {us : List Value} (r : Vals xs us) : xs.length = us.length := Paired.length r
theorem Vals.get : ∀ {xs : List V} {us : List Value} {i : Nat} {x : V}, Vals xs us → xs[i]? = some x → ∃ u, us[i]? = some u ∧ RelV x u
  | _, _, _, _, .nil, e => by simp at e
  | _, _, 0, _, .cons r _, e => by simp at e; subst e; exact ⟨_, rfl, r⟩
  | _, _, i + 1, x, .cons _ t, e => by
    obtain ⟨u, h1, h2⟩ := Vals.get (i := i) (x := x) t (by simpa using e)
    exact ⟨u, by simpa using h1, h2⟩
theorem Vals.set {x : V} {u : Value} (r : RelV x u) : ∀ {xs : List V} {us : List Value} (i : Nat), Vals xs us → Vals (xs.set i x) (us.set i u)
  | _, _, _, .nil => .nil
  | _, _, 0, .cons _ t => .cons r t
  | _, _, i + 1, .cons q t => .cons q (Vals.set r i t)
theorem Vals.append : ∀ {xs ys : List V} {us ws : List Value}, Vals xs us → Vals ys ws → Vals (xs ++ ys) (us ++ ws)
  | _, _, _, _, .nil, s => s
  | _, _, _, _, .cons r t, s => .cons r (Vals.append t s)
theorem Vals.take : ∀ {xs : List V} {us : List Value} (n : Nat), Vals xs us → Vals (xs.take n) (us.take n)
  | _, _, 0, _ => .nil
  | _, _, _ + 1, .nil => .nil
  | _, _, n + 1, .cons r t => .cons r (Vals.take n t)
theorem Vals.drop : ∀ {xs : List V} {us : List Value} (n : Nat), Vals xs us → Vals (xs.drop n) (us.drop n)
  | _, _, 0, r => r
  | _, _, _ + 1, .nil => .nil
  | _, _, n + 1, .cons _ t => Vals.drop n t
noncomputable def RelO : Option V → Option Value → Prop
  | some v, some u => RelV v u
  | none, none => True
  | _, _ => False
noncomputable def KV {κ : Type} : List (κ × V) → List (κ × Value) → Prop := Paired fun (p : κ × V) (q : κ × Value) => p.1 = q.1 ∧ RelV p.2 q.2

/-- a key of a dict (00_mix): an int or a text -/
noncomputable def kV : Key → V
  | .inl i => .int i
  | .inr x => .str x

/-- what stands at a tracked address -/
inductive HO where
  /-- a list -/
  | lst (xs : List V)
  /-- a tuple (never changes) -/
  | tup (xs : List V)
  /-- a dict whose keys are ints and texts; one whose keys are tuples of ints and texts (the empty one is both) -/
  | dK (kvs : List (Key × V)) | dT (kvs : List (List Key × V))
  /-- a set of ints: its members, its size -/
  | set (S : Int → Bool) (n : Nat)
  /-- an instance of the class at C, its dict at dx, its attributes -/
  | ins (C dx : Addr) (fs : List (Str × V))
  /-- the dict of the instance at x -/
  | own (x : Addr)
  /-- the dict of an exception -/
  | xd (fs : List (Str × V))
  /-- a bound method, f of x -/
  | met (f x : Addr)
  /-- a range object lo, lo + 1, .. below hi -/
  | rng (lo hi : Int)
  /-- a thing that is known to the object (the script; a dict while a loop walks it): read, never written while it is so -/
  | frz (o : Obj) (u : HO)
  /-- a code object's table -/
  | tbl (ps : Array Value)
  /-- any other thing, by what is true of its one object (a def of one's own: SetO a S n := HO.ext fun h => ..) -/
  | ext (φ : Heap → Prop)

noncomputable abbrev Hp := Addr → Option HO
noncomputable def upd (H : Hp) (a : Addr) (o : HO) : Hp := fun b => if b = a then some o else H b
theorem upd_same {H : Hp} {a : Addr} {o : HO} : upd H a o a = some o := by unfold upd; rw [if_pos rfl]
theorem upd_ne {H : Hp} {a b : Addr} {o : HO} (h : b ≠ a) : upd H a o b = H b := by unfold upd; rw [if_neg h]
/-- two objects of different content stand apart -/
theorem ne_of {H : Hp} {a b : Addr} {o u : HO} (h : H a = some o) (h' : H b = some u) (d : o ≠ u) : a ≠ b := by
  intro e; subst e; rw [h] at h'; exact d (Option.some.inj h')
theorem ne_of_none {H : Hp} {a b : Addr} {o : HO} (h : H a = some o) (h' : H b = none) : a ≠ b := by
  intro e; subst e; rw [h] at h'; cases h'

section
variable (P : Program) (w : World)
noncomputable def ObjOk (H : Hp) (h : Heap) (a : Addr) : HO → Prop
  | .lst xs => xs.length ≤ sizeLine ∧ ∃ (its : List Value) (n : Nat), Vals xs its ∧ h.get? a = some { cls := .type "list", data := .seq its.toArray n }
  | .tup xs => xs.length ≤ sizeLine ∧ ∃ its : List Value, Vals xs its ∧ IsTup h a its.toArray
  | .dK kvs => kvs.length ≤ sizeLine ∧ (a == sysModules) = false ∧ ∃ vs, KV kvs vs ∧ h.DictOf (mixKind P w) a vs
  | .dT kvs => kvs.length ≤ sizeLine ∧ (a == sysModules) = false ∧ ∃ xs : List (List Key × Addr × Value),
      Paired (fun (p : List Key × V) (q : List Key × Addr × Value) => p.1 = q.1 ∧ H q.2.1 = some (.tup (p.1.map kV)) ∧ RelV p.2 q.2.2) kvs xs ∧
      ∃ o es ep, h.get? a = some o ∧ o.ExactDict ∧ o.data = .dict es ep ∧ es.toList = xs.map (entryOfKey (tupleKind (mixKind P w))) ∧ (xs.map (·.1)).Nodup
  | .set S n => h.SetOf (intKind P w) a S n
  | .ins C dx fs => H dx = some (.own a) ∧ fs.length ≤ 1000 ∧ dx ≠ a ∧ h.get? a = some (PySem.W.instObj C dx) ∧
      ∃ mA, h.Ns1 dx mA ∧ (∀ f, RelO (fs.lookup f) (mA f)) ∧ PySem.Within mA (fs.map (·.1))
  | .own _ => ∃ o, h.get? a = some o
  | .xd fs => ∃ mA, h.Ns1 a mA ∧ ∀ f, RelO (fs.lookup f) (mA f)
  | .rng lo hi => ∃ t u v, h.get? a = some { cls := .type "range", data := .fields #[.int lo t, .int hi u, .int 1 v] }
  | .frz o u => h.get? a = some o ∧ ObjOk H h a u
  | .tbl ps => h.get? a = some { cls := .none, data := .fields ps }
  | .met f x => h.get? a = some (PySem.W.methodObj (.ref f) (.ref x))
  | .ext φ => φ h ∧ (∃ o, h.get? a = some o) ∧ ∀ h1 h2 : Heap, φ h1 → (∀ o, h1.get? a = some o → h2.get? a = some o) → φ h2
/-- the abstract heap is held -/
noncomputable def HOk (H : Hp) (h : Heap) : Prop := ∀ a o, H a = some o → ObjOk P w H h a o
end

section
variable {P : Program} {w : World} {H H' : Hp} {h h' : Heap} {a : Addr} {o : HO}
theorem ObjOk.lt (x : ObjOk P w H h a o) : a < h.objs.size := by
  cases o with
  | lst xs => obtain ⟨_, _, _, _, e⟩ := x; exact Heap.lt_size e
  | tup xs => obtain ⟨_, _, _, p⟩ := x; exact p.lt
  | dK kvs => obtain ⟨_, _, _, _, o, _, _, e, _⟩ := x; exact Heap.lt_size e
  | dT kvs => obtain ⟨_, _, _, _, o, _, _, e, _⟩ := x; exact Heap.lt_size e
  | set S n => obtain ⟨o, _, _, _, e, _⟩ := x; exact Heap.lt_size e
  | ins C dx fs => obtain ⟨_, _, _, e, _⟩ := x; exact Heap.lt_size e
  | own y => obtain ⟨_, e⟩ := x; exact Heap.lt_size e
  | xd fs => obtain ⟨_, ⟨_, _, _, e, _⟩, _⟩ := x; exact Heap.lt_size e
  | rng lo hi => obtain ⟨_, _, _, e⟩ := x; exact Heap.lt_size e
  | frz ob u => obtain ⟨e, _⟩ := x; exact Heap.lt_size e
  | tbl ps => exact Heap.lt_size (show h.get? a = some _ from x)
  | met f y => exact Heap.lt_size (show h.get? a = some _ from x)
  | ext φ => obtain ⟨_, ⟨_, e⟩, _⟩ := x; exact Heap.lt_size e
theorem Paired.mapP {α β : Type} {F G : α → β → Prop} : ∀ {l₁ : List α} {l₂ : List β}, Paired F l₁ l₂ → (∀ a b, F a b → G a b) → Paired G l₁ l₂
  | _, _, .nil, _ => .nil
  | _, _, .cons r t, f => .cons (f _ _ r) (Paired.mapP t f)
/-- what an object's description leans on: its own object, its own dict, the tuples -/
theorem ObjOk.stay (x : ObjOk P w H h a o) (k : ∀ b u, (b = a ∨ H b = some (.own a)) → h.get? b = some u → h'.get? b = some u)
    (ho : ∀ b, H b = some (.own a) → H' b = some (.own a)) (ht : ∀ b xs, H b = some (.tup xs) → H' b = some (.tup xs)) : ObjOk P w H' h' a o := by
  induction o with
  | lst xs => obtain ⟨z, its, n, r, e⟩ := x; exact ⟨z, its, n, r, k _ _ (.inl rfl) e⟩
  | tup xs => obtain ⟨z, its, r, ob, e, c⟩ := x; exact ⟨z, its, r, ob, k _ _ (.inl rfl) e, c⟩
  | dK kvs => obtain ⟨z, y, vs, r, ob, es, ep, e, c⟩ := x; exact ⟨z, y, vs, r, ob, es, ep, k _ _ (.inl rfl) e, c⟩
  | dT kvs =>
    obtain ⟨z, y, xs, r, ob, es, ep, e, c⟩ := x
    exact ⟨z, y, xs, Paired.mapP r fun p q z => ⟨z.1, ht _ _ z.2.1, z.2.2⟩, ob, es, ep, k _ _ (.inl rfl) e, c⟩
  | set S n => obtain ⟨ob, es, ep, t, e, c⟩ := x; exact ⟨ob, es, ep, t, k _ _ (.inl rfl) e, c⟩
  | ins C dx fs =>
    obtain ⟨d, z, ne, e, mA, ⟨od, es, ep, e2, c⟩, r⟩ := x
    exact ⟨ho _ d, z, ne, k _ _ (.inl rfl) e, mA, ⟨od, es, ep, k _ _ (.inr d) e2, c⟩, r⟩
  | own y => obtain ⟨ob, e⟩ := x; exact ⟨ob, k _ _ (.inl rfl) e⟩
  | xd fs => obtain ⟨mA, ⟨od, es, ep, e, c⟩, r⟩ := x; exact ⟨mA, ⟨od, es, ep, k _ _ (.inl rfl) e, c⟩, r⟩
  | rng lo hi => obtain ⟨t, u, v, e⟩ := x; exact ⟨t, u, v, k _ _ (.inl rfl) e⟩
  | frz ob u ih => obtain ⟨e, q⟩ := x; exact ⟨k _ _ (.inl rfl) e, ih q⟩
  | tbl ps =>
    have e : h.get? a = some { cls := .none, data := .fields ps } := x
    show h'.get? a = some { cls := .none, data := .fields ps }
    exact k a _ (.inl rfl) e
  | met f y =>
    have e : h.get? a = some (PySem.W.methodObj (.ref f) (.ref y)) := x
    show h'.get? a = some (PySem.W.methodObj (.ref f) (.ref y))
    exact k a _ (.inl rfl) e
  | ext φ => obtain ⟨p, ⟨o, e⟩, st⟩ := x; exact ⟨st _ _ p fun o q => k _ _ (.inl rfl) q, ⟨o, k _ _ (.inl rfl) e⟩, st⟩
theorem HOk.lt (x : HOk P w H h) (e : H a = some o) : a < h.objs.size := (x a o e).lt
theorem HOk.fresh (x : HOk P w H h) (e : h.objs.size ≤ a) : H a = none := by
  cases q : H a with
  | none => rfl
  | some u => exact absurd (Nat.lt_of_lt_of_le (x.lt q) e) (Nat.lt_irrefl _)
/-- every object of the heap is kept -/
theorem HOk.kept (x : HOk P w H h) (k : ∀ b u, h.get? b = some u → h'.get? b = some u) : HOk P w H h' := fun a o e =>
  (x a o e).stay (fun b u _ q => k b u q) (fun _ q => q) fun _ _ q => q
/-- a new object is laid and tracked -/
theorem HOk.laid (x : HOk P w H h) (k : ∀ b u, h.get? b = some u → h'.get? b = some u) (hp : h.objs.size ≤ a) (new : ObjOk P w (upd H a o) h' a o) : HOk P w (upd H a o) h' := fun b u e => by
  have hn := x.fresh hp
  by_cases hb : b = a
  · subst hb; rw [upd_same] at e; cases e; exact new
  · rw [upd_ne hb] at e
    exact (x b u e).stay (fun c v _ q => k c v q) (fun c q => by rw [upd_ne (ne_of_none q hn)]; exact q) fun c xs q => by rw [upd_ne (ne_of_none q hn)]; exact q
end

/-- what may be read as u: it is u, or a known u -/
noncomputable def Rd (H : Hp) (a : Addr) (u : HO) : Prop := H a = some u ∨ ∃ o, H a = some (.frz o u)
theorem Rd.of {H : Hp} {a : Addr} {u : HO} (h : H a = some u) : Rd H a u := .inl h
theorem Rd.ok {P : Program} {w : World} {H : Hp} {h : Heap} {a : Addr} {u : HO} (r : Rd H a u) (x : HOk P w H h) : ObjOk P w H h a u := by
  rcases r with r | ⟨o, r⟩
  · exact x a u r
  · obtain ⟨_, q⟩ := x a _ r
    exact q
/-- what may be written -/
noncomputable def Mut : Option HO → Prop
  | some (.lst _) => True
  | some (.dK _) => True
  | some (.dT _) => True
  | some (.set _ _) => True
  | some (.ins _ _ _) => True
  | some (.ext _) => True
  | _ => False
section
variable {P : Program} {w : World} {H : Hp} {h h' : Heap} {x e : Addr} {o' : HO}
/-- the object at e is changed: x itself, or the dict of the instance x -/
theorem HOk.write (ok : HOk P w H h) (mu : Mut (H x)) (he : e = x ∨ H e = some (.own x)) (k : ∀ b u, b ≠ e → h.get? b = some u → h'.get? b = some u) (heo : ∃ u, h'.get? e = some u)
    (new : ObjOk P w (upd H x o') h' x o') : HOk P w (upd H x o') h' := fun b u q => by
  have nown : ∀ c y, H c = some (.own y) → c ≠ x := fun c y r z => by subst z; rw [r] at mu; exact mu
  have ntup : ∀ c xs, H c = some (.tup xs) → c ≠ x := fun c xs r z => by subst z; rw [r] at mu; exact mu
  by_cases hb : b = x
  · subst hb; rw [upd_same] at q; cases q; exact new
  · rw [upd_ne hb] at q
    by_cases hbe : b = e
    · have q' : H b = some (.own x) := by
        rcases he with z | z
        · exact absurd (hbe.trans z) hb
        · rw [hbe]; exact z
      rw [q] at q'; cases q'
      obtain ⟨v, hv⟩ := heo
      exact ⟨v, by rw [hbe]; exact hv⟩
    · refine (ok b u q).stay (fun c v hc r => k c v ?_ r) (fun c r => by rw [upd_ne (nown c b r)]; exact r) fun c xs r => by rw [upd_ne (ntup c xs r)]; exact r
      rcases hc with rfl | hc
      · exact hbe
      · rintro rfl
        rcases he with z | z
        · exact nown c b hc z
        · rw [hc] at z; cases z; exact hb rfl
end

/-! ### kept unless tracked; of the frames at fs (the callers') the slots may change (an exception that passes writes there); of the records at ex (iterators) nothing is said -/
structure Un (fs ex : List Addr) (H H' : Hp) (h h' : Heap) : Prop where
  keep : ∀ b o, h.get? b = some o → H b = none → b ∉ fs → b ∉ ex → h'.get? b = some o
  slot : ∀ b o, h.get? b = some o → H b = none → b ∈ fs → b ∉ ex → ∃ sl, h'.get? b = some { o with slots := sl }
  free : ∀ b o, h.get? b = some o → H b = none → b ∉ ex → H' b = none
  there : ∀ b o, h.get? b = some o → b ∉ ex → ∃ o', h'.get? b = some o'
  tups : ∀ b xs, H b = some (.tup xs) → H' b = some (.tup xs)
  frzs : ∀ b o u, H b = some (.frz o u) → H' b = some (.frz o u)
  tbls : ∀ b ps, H b = some (.tbl ps) → ∃ more, H' b = some (.tbl (ps ++ more))
section
variable {fs fs' ex ex' : List Addr} {H H1 H2 : Hp} {h h1 h2 h' : Heap} {a x e : Addr} {o : HO}
theorem Un.any (u : Un fs ex H H1 h h1) {b : Addr} {ob : Obj} (q : h.get? b = some ob) (n : H b = none) (hx : b ∉ ex) : ∃ sl, h1.get? b = some { ob with slots := sl } := by
  by_cases hb : b ∈ fs
  · exact u.slot b ob q n hb hx
  · exact ⟨ob.slots, u.keep b ob q n hb hx⟩
theorem Un.trans (a : Un fs ex H H1 h h1) (b : Un fs ex H1 H2 h1 h2) : Un fs ex H H2 h h2 where
  keep := fun c ob q n hc hx => b.keep c ob (a.keep c ob q n hc hx) (a.free c ob q n hx) hc hx
  slot := fun c ob q n hc hx => by
    obtain ⟨sl, e1⟩ := a.slot c ob q n hc hx
    obtain ⟨sl', e2⟩ := b.slot c _ e1 (a.free c ob q n hx) hc hx
    exact ⟨sl', e2⟩
  free := fun c ob q n hx => by
    obtain ⟨o', e1⟩ := a.there c ob q hx
    exact b.free c o' e1 (a.free c ob q n hx) hx
  there := fun c ob q hx => by
    obtain ⟨o', e1⟩ := a.there c ob q hx
    exact b.there c o' e1 hx
  tups := fun c xs q => b.tups c xs (a.tups c xs q)
  frzs := fun c ob xs q => b.frzs c ob xs (a.frzs c ob xs q)
  tbls := fun c ps q => by
    obtain ⟨m1, e1⟩ := a.tbls c ps q
    obtain ⟨m2, e2⟩ := b.tbls c _ e1
    exact ⟨m1 ++ m2, by rw [e2, Array.append_assoc]⟩
theorem Un.kept (k : ∀ b u, h.get? b = some u → h'.get? b = some u) : Un fs ex H H h h' :=
  ⟨fun b ob q _ _ _ => k b ob q, fun b ob q _ _ _ => ⟨ob.slots, k b ob q⟩, fun _ _ _ n _ => n, fun b ob q _ => ⟨ob, k b ob q⟩, fun _ _ q => q, fun _ _ _ q => q, fun _ ps q => ⟨#[], by rw [q]; simp⟩⟩
theorem Un.refl : Un fs ex H H h h := Un.kept fun _ _ q => q
theorem Un.laid (k : ∀ b u, h.get? b = some u → h'.get? b = some u) (hp : h.objs.size ≤ a) (hn : H a = none) : Un fs ex H (upd H a o) h h' where
  keep := fun b u q _ _ _ => k b u q
  slot := fun b u q _ _ _ => ⟨u.slots, k b u q⟩
  free := fun b u q n _ => by rw [upd_ne (Nat.ne_of_lt (Nat.lt_of_lt_of_le (Heap.lt_size q) hp))]; exact n
  there := fun b u q _ => ⟨u, k b u q⟩
  tups := fun b xs q => by rw [upd_ne (ne_of_none q hn)]; exact q
  frzs := fun b u xs q => by rw [upd_ne (ne_of_none q hn)]; exact q
  tbls := fun b ps q => ⟨#[], by rw [upd_ne (ne_of_none q hn), q]; simp⟩
theorem Un.write (mu : Mut (H x)) (he : e = x ∨ H e = some (.own x)) (k : ∀ b u, b ≠ e → h.get? b = some u → h'.get? b = some u) (heo : ∃ u, h'.get? e = some u) : Un fs ex H (upd H x o) h h' := by
  have hx : ∀ b, H b = none → b ≠ x := fun b n z => by subst z; rw [n] at mu; exact mu
  have hb : ∀ b, H b = none → b ≠ e := fun b n z => by
    subst z
    rcases he with r | r
    · exact hx b n r
    · rw [n] at r; cases r
  have hm : ∀ b u, H b = some u → ¬ Mut (some u) → b ≠ x := fun b u q nm z => by subst z; rw [q] at mu; exact nm mu
  refine ⟨fun b u q n _ _ => k b u (hb b n) q, fun b u q n _ _ => ⟨u.slots, k b u (hb b n) q⟩, fun b u q n _ => by rw [upd_ne (hx b n)]; exact n, fun b u q _ => ?_,
    fun b xs q => by rw [upd_ne (hm b _ q fun z => z)]; exact q, fun b u xs q => by rw [upd_ne (hm b _ q fun z => z)]; exact q, fun b ps q => ⟨#[], by rw [upd_ne (hm b _ q fun z => z), q]; simp⟩⟩
  by_cases hbe : b = e
  · subst hbe; exact heo
  · exact ⟨u, k b u hbe q⟩
theorem Un.mono (u : Un fs ex H H1 h h1) (hs : ∀ b ∈ fs, b ∈ fs') (hx : ∀ b ∈ ex, b ∈ ex') : Un fs' ex' H H1 h h1 :=
  ⟨fun b ob q n hb he => u.keep b ob q n (fun z => hb (hs b z)) fun z => he (hx b z), fun _ _ q n _ he => u.any q n fun z => he (hx _ z), fun b ob q n he => u.free b ob q n fun z => he (hx b z), fun b ob q he => u.there b ob q fun z => he (hx b z), u.tups, u.frzs, u.tbls⟩
end

/-! ### the heap without what is tracked -/
noncomputable def trk (h : Heap) (H : Hp) : List Addr := (List.range h.objs.size).filter fun a => (H a).isSome
noncomputable def hidT (h : Heap) (H : Hp) : Heap := PySem.W.hideAll h (trk h H)
theorem hidT_size (h : Heap) (H : Hp) : (hidT h H).objs.size = h.objs.size := PySem.W.hideAll_size _ _
theorem hidT_get {h : Heap} {H : Hp} {b : Addr} {o : Obj} (e : h.get? b = some o) (n : H b = none) : (hidT h H).get? b = some o :=
  PySem.W.hideAll_get _ e fun hm => by
    have q : (H b).isSome = true := (List.mem_filter.mp hm).2
    rw [n] at q; simp at q
theorem of_hidT {h : Heap} {H : Hp} {b : Addr} {o : Obj} (e : (hidT h H).get? b = some o) : h.get? b = some o ∧ H b = none := by
  have e' : h.get? b = some o := PySem.W.of_hideAll (trk h H) e
  refine ⟨e', ?_⟩
  cases q : H b with
  | none => rfl
  | some x =>
    have hm : b ∈ trk h H := List.mem_filter.mpr ⟨List.mem_range.mpr (Heap.lt_size e'), by simp [q]⟩
    have z : (hidT h H).get? b = none := PySem.W.hideAll_none (trk h H) hm
    rw [z] at e; cases e

/-! ### OpenK's ledger, filled with every new object but one -/
noncomputable def allNews (g h : Heap) (L : Addr) : List (Addr × Obj) := (List.range h.objs.size).filterMap fun a => if a = L ∨ (g.get? a).isSome = true then none else (h.get? a).map fun o => (a, o)
noncomputable def rest (g h : Heap) (L d : Addr) : List (Addr × Obj) := (allNews g h L).filter fun p => decide (p.1 ≠ d)
end L2

namespace L2
open PySem PySem.Spec PyProof.Rows

/-- the module's facts, over the base: the heap at the law's entry without what is tracked there -/
structure Mod (K : PySem.W.Frag) (mg : Str → Option Value) (base : Heap) : Prop where
  kin : K.In base
  glob : base.Ns mainGlobals mg
  blt : ∃ mb, base.Ns builtinsNs mb ∧ ∀ x : Str, x ≠ "__name__" → mb x = bootBuiltins x
  nolimit : base.NoLimit

/-- the context: a def's body (or a comprehension's block) running. base: fixed through the whole law; s₀, H₀: the entry; outer: the frames whose slots others may change (a def's callers); stack: all frames that run;
   ex: iterators that were made ahead of the entry and are walked here (a comprehension's); fn: the names whose cells were made at the entry (a def: all; a comprehension's block: its own); calm: not within an except suite; pn: pins that every state bears; xe: what is wanted of an exception that leaves the code -/
structure Cx where
  prog : Program
  w : World
  K : PySem.W.Frag
  mg : Str → Option Value
  base : Heap
  A : Around
  N : List Str
  s₀ : Shared
  H₀ : Hp
  env : Env
  outer : List Env
  stack : List Env
  ex : List Addr
  fn : Str → Bool
  calm : Bool
  pn : List (Addr × Obj)
  xe : Value → Shared → Prop
/-- the callers' frames -/
noncomputable def frs (l : List Env) : List Addr := l.filterMap (·.frame)
noncomputable abbrev Cx.fs (X : Cx) : List Addr := frs X.outer

noncomputable def Vis (sc : Scope) (x : Str) : Prop := sc.names.lookup x = some .local ∨ sc.names.lookup x = some .cell ∨ sc.names.lookup x = some .free
noncomputable def Loc (sc : Scope) (x : Str) : Prop := sc.names.lookup x = some .local ∨ sc.names.lookup x = some .cell
noncomputable def Look (env : Env) (h : Heap) (m : Str → Option Value) (x : Str) (u : Value) : Prop :=
  (env.kindOf x = some .local ∧ m x = some u) ∨ ((env.kindOf x = some .cell ∨ env.kindOf x = some .free) ∧ ∃ c, env.cells.lookup x = some c ∧ h.IsCell c (some u))

structure Cx.Ok (X : Cx) : Prop where
  mod : Mod X.K X.mg X.base
  kind : X.env.scope.kind = .function
  glob : X.env.globals = mainGlobals
  blt : X.env.builtins = builtinsNs
  above : X.s₀.heap.objs.size ≤ X.env.locals
  inj : ∀ x y c, X.env.cells.lookup x = some c → X.env.cells.lookup y = some c → x = y
  has : ∀ x, (X.env.kindOf x = some .cell ∨ X.env.kindOf x = some .free) → ∃ c, X.env.cells.lookup x = some c
  cab : ∀ x c, X.fn x = true → X.env.cells.lookup x = some c → X.s₀.heap.objs.size ≤ c
  hd : X.calm = true → X.A.handled = none
  frames : X.A.frames = some X.stack
  stk : X.stack = X.outer ∨ (X.stack = X.env :: X.outer ∧ X.env.frame = some X.env.locals)
  exf : ∀ b ∈ X.ex, b ≠ X.env.locals ∧ ∀ x c, X.env.cells.lookup x = some c → c ≠ b
  bs : ∀ b o, X.base.get? b = some o → X.s₀.heap.get? b = some o ∧ X.H₀ b = none
  bsz : X.base.objs.size ≤ X.s₀.heap.objs.size
  noex : ∀ b o, X.base.get? b = some o → b ∉ X.ex
  exfs : ∀ b ∈ X.ex, b ∉ X.fs
  funs : X.s₀.heap.FunFrames X.base X.outer
  frf : ∀ b ∈ X.fs, X.H₀ b = none

structure Inv (X : Cx) (pins : List (Addr × Obj)) (σ : List (Option V)) (H : Hp) (s : Shared) : Prop where
  ok : X.Ok
  os : s.os = X.s₀.os
  bare : AllBare s.gens
  base : Un X.fs X.ex X.H₀ H X.s₀.heap s.heap
  loc : ∃ m, s.heap.Ns X.env.locals m ∧ ∀ (i : Nat) (x : Str) (v : V), X.N[i]? = some x → σ[i]? = some (some v) → Vis X.env.scope x → ∃ u, RelV v u ∧ Look X.env s.heap m x u
  cell : ∀ x c, X.env.cells.lookup x = some c → ∃ v, s.heap.IsCell c v
  free : H X.env.locals = none
  freeC : ∀ x c, X.env.cells.lookup x = some c → H c = none
  pin : ∀ p ∈ X.pn ++ pins, s.heap.get? p.1 = some p.2 ∧ H p.1 = none ∧ p.1 ≠ X.env.locals ∧ p.1 ∉ X.fs ∧ ∀ v, p.2.data ≠ .cell v
  hok : HOk X.prog X.w H s.heap
  len : σ.length = X.N.length

section
variable {X : Cx} {pins : List (Addr × Obj)} {σ : List (Option V)} {H H' : Hp} {s : Shared} {h' : Heap}

theorem Cx.Ok.nofr (ok : X.Ok) {b : Addr} {o : Obj} (e : X.base.get? b = some o) : b ∉ X.fs := fun hb => by
  have := (ok.funs.mem hb).1
  rw [e] at this; cases this
theorem Inv.bs (I : Inv X pins σ H s) : ∀ b o, X.base.get? b = some o → s.heap.get? b = some o ∧ H b = none := fun b o e =>
  ⟨I.base.keep b o (I.ok.bs b o e).1 (I.ok.bs b o e).2 (I.ok.nofr e) (I.ok.noex b o e), I.base.free b o (I.ok.bs b o e).1 (I.ok.bs b o e).2 (I.ok.noex b o e)⟩
theorem Inv.bk (I : Inv X pins σ H s) : ∀ b o, X.base.get? b = some o → s.heap.get? b = some o := fun b o e => (I.bs b o e).1
theorem Inv.mod (I : Inv X pins σ H s) : Mod X.K X.mg X.base := I.ok.mod
theorem Inv.kIn (I : Inv X pins σ H s) : X.K.In s.heap := I.ok.mod.kin.keeps I.bk
theorem Inv.nolimit (I : Inv X pins σ H s) : s.heap.NoLimit := I.ok.mod.nolimit.keeps I.bk
/-- the frame over the base: for OpenK's rules (K.In X.base is I.mod.kin) -/
theorem Inv.fr (I : Inv X pins σ H s) : ∃ m, Fr X.base X.env.locals s.heap m :=
  let ⟨m, hn, _⟩ := I.loc
  ⟨m, hn, I.bk, Nat.le_trans I.ok.bsz I.ok.above⟩
theorem Inv.lt (I : Inv X pins σ H s) : X.env.locals < s.heap.objs.size := let ⟨_, hn, _⟩ := I.loc; hn.lt
theorem Inv.sz (I : Inv X pins σ H s) : X.s₀.heap.objs.size ≤ s.heap.objs.size := Nat.le_trans I.ok.above (Nat.le_of_lt I.lt)
theorem Inv.nofs (I : Inv X pins σ H s) {a : Addr} (h : s.heap.objs.size ≤ a) : a ∉ X.fs := fun hb => by
  obtain ⟨_, o, ho, _⟩ := I.ok.funs.mem hb
  exact absurd (Nat.lt_of_lt_of_le (Heap.lt_size ho) (Nat.le_trans I.sz h)) (Nat.lt_irrefl _)
theorem Inv.cne (I : Inv X pins σ H s) : ∀ x c, X.env.cells.lookup x = some c → c ≠ X.env.locals := fun x c e z => by
  obtain ⟨v, o, ho, hd⟩ := I.cell x c e
  obtain ⟨m, ⟨o', es, ep, ho', hd', _⟩, _⟩ := I.loc
  rw [z, ho'] at ho; cases ho; rw [hd'] at hd; cases hd
theorem Inv.funs (I : Inv X pins σ H s) : s.heap.FunFrames X.base X.outer := by
  have all : ∀ (l : List Env), (∀ b ∈ frs l, b ∈ X.fs) → X.s₀.heap.FunFrames X.base l → s.heap.FunFrames X.base l := by
    intro l
    induction l with
    | nil => intro _ _; trivial
    | cons env r ih =>
      intro hs hl
      obtain ⟨hk, ⟨L, o, hf, hn, ho, hd⟩, hr⟩ := hl
      have hL : L ∈ X.fs := hs L (by unfold frs; rw [List.filterMap_cons, hf]; exact List.mem_cons_self)
      obtain ⟨sl, e⟩ := I.base.slot L o ho (I.ok.frf L hL) hL fun z => I.ok.exfs L z hL
      exact ⟨hk, ⟨L, _, hf, hn, e, hd⟩, ih (fun b hb => hs b (by unfold frs; rw [List.filterMap_cons, hf]; exact List.mem_cons_of_mem _ hb)) hr⟩
  exact all X.outer (fun _ hb => hb) I.ok.funs

/-- the frames that run, for a call -/
theorem Inv.stack (I : Inv X pins σ H s) : s.heap.FunFrames X.base X.stack := by
  rcases I.ok.stk with e | ⟨e, hf⟩
  · rw [e]; exact I.funs
  · rw [e]
    obtain ⟨m, hn, _⟩ := I.loc
    refine .cons (by rw [I.ok.kind]; decide) hf hn ?_ I.funs
    exact Heap.get?_none_of_le (Nat.le_trans I.ok.bsz I.ok.above)
theorem Inv.stkSub (I : Inv X pins σ H s) : ∀ b ∈ frs X.stack, b ∈ X.env.locals :: X.fs := fun b hb => by
  rcases I.ok.stk with e | ⟨e, hf⟩
  · rw [e] at hb; exact List.mem_cons_of_mem _ hb
  · rw [e] at hb
    unfold frs at hb
    rw [List.filterMap_cons, hf] at hb
    exact hb
theorem Inv.stkFree (I : Inv X pins σ H s) : ∀ b ∈ frs X.stack, H b = none := fun b hb => by
  rcases List.mem_cons.mp (I.stkSub b hb) with e | hb
  · rw [e]; exact I.free
  · obtain ⟨_, o, ho, _⟩ := I.ok.funs.mem hb
    exact I.base.free b o ho (I.ok.frf b hb) fun z => I.ok.exfs b z hb

/-- THE STEP: the untracked objects but the frame and the records at ch are kept (the callers' frames up to slots), the frame's map is kept, the new abstract heap is held -/
theorem Inv.step {g' : Array GenState} {t' : Nat} {d' : Drawn} {ch : List Addr} (I : Inv X pins σ H s)
    (hch : ∀ b ∈ ch, (b ∈ X.ex ∨ X.s₀.heap.objs.size ≤ b) ∧ b ≠ X.env.locals ∧ (∀ x c, X.env.cells.lookup x = some c → c ≠ b) ∧ ∀ p ∈ X.pn ++ pins, p.1 ≠ b)
    (keep : ∀ b o, b ≠ X.env.locals → b ∉ X.fs → b ∉ ch → s.heap.get? b = some o → H b = none → h'.get? b = some o)
    (slot : ∀ b o, b ≠ X.env.locals → b ∈ X.fs → b ∉ ch → s.heap.get? b = some o → H b = none → ∃ sl, h'.get? b = some { o with slots := sl }) (free : ∀ b o, b ∉ ch → s.heap.get? b = some o → H b = none → H' b = none)
    (there : ∀ b o, b ∉ ch → s.heap.get? b = some o → ∃ o', h'.get? b = some o')
    (tups : ∀ b xs, H b = some (.tup xs) → H' b = some (.tup xs)) (frzs : ∀ b o u, H b = some (.frz o u) → H' b = some (.frz o u)) (tbls : ∀ b ps, H b = some (.tbl ps) → ∃ more, H' b = some (.tbl (ps ++ more)))
    (ns : ∀ m, s.heap.Ns X.env.locals m → h'.Ns X.env.locals m) (hok : HOk X.prog X.w H' h') (hg : AllBare g') :
    Inv X pins σ H' { s with heap := h', gens := g', drawn := d', toks := t' } := by
  have neL : ∀ b o, X.s₀.heap.get? b = some o → b ≠ X.env.locals := fun b o e => Nat.ne_of_lt (Nat.lt_of_lt_of_le (Heap.lt_size e) I.ok.above)
  have neC : ∀ b o, X.s₀.heap.get? b = some o → b ∉ X.ex → b ∉ ch := fun b o e hx hb => by
    rcases (hch b hb).1 with z | z
    · exact hx z
    · exact absurd (Nat.lt_of_lt_of_le (Heap.lt_size e) z) (Nat.lt_irrefl _)
  have cellK : ∀ x c, X.env.cells.lookup x = some c → ∀ v, s.heap.IsCell c v → h'.IsCell c v := fun x c e v ⟨o, ho, hd⟩ => by
    have nch : c ∉ ch := fun z => (hch c z).2.2.1 x c e rfl
    by_cases hc : c ∈ X.fs
    · obtain ⟨sl, q⟩ := slot c o (I.cne x c e) hc nch ho (I.freeC x c e)
      exact ⟨_, q, hd⟩
    · exact ⟨o, keep c o (I.cne x c e) hc nch ho (I.freeC x c e), hd⟩
  refine ⟨I.ok, I.os, hg, ⟨fun b o e n hb hx => ?_, fun b o e n hb hx => ?_, fun b o e n hx => ?_, fun b o e hx => ?_, fun b xs e => tups b xs (I.base.tups b xs e), fun b o xs e => frzs b o xs (I.base.frzs b o xs e), fun b ps e => ?_⟩, ?_, fun x c e => ?_, ?_, fun x c e => ?_, fun p hp => ?_, hok, I.len⟩
  · exact keep b o (neL b o e) hb (neC b o e hx) (I.base.keep b o e n hb hx) (I.base.free b o e n hx)
  · obtain ⟨sl, e1⟩ := I.base.slot b o e n hb hx
    obtain ⟨sl', e2⟩ := slot b _ (neL b o e) hb (neC b o e hx) e1 (I.base.free b o e n hx)
    exact ⟨sl', e2⟩
  · obtain ⟨o', e1⟩ := I.base.there b o e hx
    exact free b o' (neC b o e hx) e1 (I.base.free b o e n hx)
  · obtain ⟨o', e1⟩ := I.base.there b o e hx
    exact there b o' (neC b o e hx) e1
  · obtain ⟨m1, e1⟩ := I.base.tbls b ps e
    obtain ⟨m2, e2⟩ := tbls b _ e1
    exact ⟨m1 ++ m2, by rw [e2, Array.append_assoc]⟩
  · obtain ⟨m, hn, hl⟩ := I.loc
    refine ⟨m, ns m hn, fun i x v e1 e2 e3 => ?_⟩
    obtain ⟨u, r, l⟩ := hl i x v e1 e2 e3
    refine ⟨u, r, ?_⟩
    rcases l with l | ⟨k, c, e, z⟩
    · exact .inl l
    · exact .inr ⟨k, c, e, cellK x c e _ z⟩
  · obtain ⟨v, z⟩ := I.cell x c e
    exact ⟨v, cellK x c e v z⟩
  · obtain ⟨m, ⟨o, _, _, ho, _⟩, _⟩ := I.loc
    exact free _ o (fun z => (hch _ z).2.1 rfl) ho I.free
  · obtain ⟨v, o, ho, hd⟩ := I.cell x c e
    exact free c o (fun z => (hch c z).2.2.1 x c e rfl) ho (I.freeC x c e)
  · obtain ⟨e, n, ne, nf, d⟩ := I.pin p hp
    have nch : p.1 ∉ ch := fun z => (hch p.1 z).2.2.2 p hp rfl
    exact ⟨keep p.1 p.2 ne nf nch e n, free p.1 p.2 nch e n, ne, nf, d⟩
/-- .. where the frame's own object is kept too -/
theorem Inv.un {t' : Nat} (I : Inv X pins σ H s) (u : Un X.fs [] H H' s.heap h') (hok : HOk X.prog X.w H' h') : Inv X pins σ H' { s with heap := h', toks := t' } := by
  obtain ⟨m, ⟨o, es, ep, ho, r⟩, _⟩ := id I.loc
  obtain ⟨sl, hL⟩ := u.any ho I.free (by simp)
  exact I.step (g' := s.gens) (d' := s.drawn) (ch := []) (fun _ z => nomatch z) (fun b o _ hb _ e n => u.keep b o e n hb (by simp)) (fun b o _ hb _ e n => u.slot b o e n hb (by simp)) (fun b o _ e n => u.free b o e n (by simp)) (fun b o _ e => u.there b o e (by simp)) u.tups u.frzs u.tbls (fun m' hm => by
    obtain ⟨o', es', ep', ho', r'⟩ := hm
    rw [ho] at ho'; cases ho'
    exact ⟨_, es', ep', hL, r'⟩) hok I.bare
/-- behind a call (or a comprehension's block): the slots of this frame may have changed too, the records at ch may have turned -/
theorem Inv.call {g' : Array GenState} {t' : Nat} {d' : Drawn} {ch : List Addr} (I : Inv X pins σ H s) (u : Un (frs X.stack) ch H H' s.heap h') (hok : HOk X.prog X.w H' h') (hg : AllBare g')
    (hch : ∀ b ∈ ch, (b ∈ X.ex ∨ X.s₀.heap.objs.size ≤ b) ∧ b ≠ X.env.locals ∧ (∀ x c, X.env.cells.lookup x = some c → c ≠ b) ∧ ∀ p ∈ X.pn ++ pins, p.1 ≠ b) :
    Inv X pins σ H' { s with heap := h', gens := g', drawn := d', toks := t' } := by
  obtain ⟨m, ⟨o, es, ep, ho, r⟩, _⟩ := id I.loc
  obtain ⟨sl, hL⟩ := u.any ho I.free fun z => (hch _ z).2.1 rfl
  exact I.step (ch := ch) hch (fun b o hL hb hc e n => u.keep b o e n (fun z => (List.mem_cons.mp (I.stkSub b z)).elim hL hb) hc) (fun b o _ _ hc e n => u.any e n hc) (fun b o hc e n => u.free b o e n hc) (fun b o hc e => u.there b o e hc) u.tups u.frzs u.tbls (fun m' hm => by
    obtain ⟨o', es', ep', ho', r'⟩ := hm
    rw [ho] at ho'; cases ho'
    exact ⟨_, es', ep', hL, r'⟩) hok hg
/-- an untracked record of ours (an iterator) has turned -/
theorem Inv.turned {t' : Nat} {it : Addr} (I : Inv X pins σ H s) (k : ∀ b o, b ≠ it → s.heap.get? b = some o → h'.get? b = some o) (hn : H it = none) (hL : it ≠ X.env.locals)
    (h1 : it ∈ X.ex ∨ X.s₀.heap.objs.size ≤ it) (h2 : ∀ x c, X.env.cells.lookup x = some c → c ≠ it) (h3 : ∀ p ∈ X.pn ++ pins, p.1 ≠ it) : Inv X pins σ H { s with heap := h', toks := t' } := by
  have nit : ∀ b u, H b = some u → b ≠ it := fun b u e z => by rw [z, hn] at e; cases e
  refine I.step (g' := s.gens) (d' := s.drawn) (ch := [it]) (fun b hb => ?_) (fun b o _ _ hc e _ => k b o (fun z => hc (by simp [z])) e) (fun b o _ _ hc e _ => ⟨o.slots, k b o (fun z => hc (by simp [z])) e⟩) (fun _ _ _ _ n => n)
    (fun b o hc e => ⟨o, k b o (fun z => hc (by simp [z])) e⟩) (fun _ _ e => e) (fun _ _ _ e => e) (fun b ps e => ⟨#[], by rw [e]; simp⟩) (fun m hm => ?_) (fun b u e => ?_) I.bare
  · have e : b = it := by simpa using hb
    subst e
    exact ⟨h1, hL, h2, h3⟩
  · obtain ⟨o, es, ep, ho, r⟩ := hm
    exact ⟨o, es, ep, k _ o (Ne.symm hL) ho, r⟩
  · refine (I.hok b u e).stay (fun c v hc q => k c v ?_ q) (fun _ q => q) fun _ _ q => q
    rcases hc with z | z
    · rw [z]; exact nit b u e
    · exact nit c _ z
theorem Inv.tok (I : Inv X pins σ H s) (t : Nat) : Inv X pins σ H { s with toks := t } := I.un (h' := s.heap) (t' := t) Un.refl I.hok
/-- all objects kept -/
theorem Inv.kept {t' : Nat} (I : Inv X pins σ H s) (k : ∀ b u, s.heap.get? b = some u → h'.get? b = some u) : Inv X pins σ H { s with heap := h', toks := t' } := I.un (Un.kept k) (I.hok.kept k)
/-- a new object laid and tracked -/
theorem Inv.laid {a : Addr} {o : HO} {t' : Nat} (I : Inv X pins σ H s) (k : ∀ b u, s.heap.get? b = some u → h'.get? b = some u) (hp : s.heap.objs.size ≤ a) (new : ObjOk X.prog X.w (upd H a o) h' a o) :
    Inv X pins σ (upd H a o) { s with heap := h', toks := t' } := I.un (Un.laid k hp (I.hok.fresh hp)) (I.hok.laid k hp new)
/-- an object written -/
theorem Inv.write {x e : Addr} {o : HO} {t' : Nat} (I : Inv X pins σ H s) (mu : Mut (H x)) (he : e = x ∨ H e = some (.own x)) (k : ∀ b u, b ≠ e → s.heap.get? b = some u → h'.get? b = some u) (heo : ∃ u, h'.get? e = some u)
    (new : ObjOk X.prog X.w (upd H x o) h' x o) : Inv X pins σ (upd H x o) { s with heap := h', toks := t' } := I.un (Un.write mu he k heo) (I.hok.write mu he k heo new)
theorem Inv.pins_of {pins' : List (Addr × Obj)} (I : Inv X pins σ H s) (h : ∀ p ∈ pins', s.heap.get? p.1 = some p.2 ∧ H p.1 = none ∧ p.1 ≠ X.env.locals ∧ p.1 ∉ X.fs ∧ ∀ v, p.2.data ≠ .cell v) : Inv X pins' σ H s :=
  ⟨I.ok, I.os, I.bare, I.base, I.loc, I.cell, I.free, I.freeC, fun p hp => (List.mem_append.mp hp).elim (fun z => I.pin p (List.mem_append_left _ z)) (h p), I.hok, I.len⟩

theorem nodup_ix {N : List Str} (hN : N.Nodup) {i j : Nat} {x : Str} (a : N[i]? = some x) (b : N[j]? = some x) : i = j := by
  obtain ⟨h1, e1⟩ := List.getElem?_eq_some_iff.mp a
  obtain ⟨h2, e2⟩ := List.getElem?_eq_some_iff.mp b
  exact (List.getElem_inj hN).mp (e1.trans e2.symm)

/-- a name is stored; what changed -/
theorem store_ok2 {M : Model} {A : Around} {E : Value → Shared → Prop} {i : Nat} {x : Str} {v : V} {u : Value} {Q : Unit → Shared → Prop} (I : Inv X pins σ H s) (hN : X.N.Nodup) (hi : X.N[i]? = some x) (hx : Loc X.env.scope x) (r : RelV v u)
    (h : ∀ s', Inv X pins (σ.set i (some v)) H s' → (∃ a, Heap.SameBut a s.heap s'.heap ∧ (a = X.env.locals ∨ X.env.cells.lookup x = some a)) → Q () s') (hf : X.fn x = true ∨ X.env.scope.names.lookup x = some .local := by first | exact .inl rfl | exact .inr rfl | assumption) : wpAny M A (storeName X.env x u) Q E s := by
  obtain ⟨m, hn, hl⟩ := id I.loc
  have hcls : (X.env.scope.kind == .class || (X.env.scope.kind == .module && X.env.locals != X.env.globals)) = false := by rw [I.ok.kind]; rfl
  have hiσ : i < σ.length := by rw [I.len]; exact (List.getElem?_eq_some_iff.mp hi).1
  have cne := I.cne
  have tracked : ∀ {a : Addr} {h' : Heap}, (∃ o, s.heap.get? a = some o ∧ H a = none) → Heap.SameBut a s.heap h' → HOk X.prog X.w H h' := fun {a h'} ha hs b ob e => by
    obtain ⟨_, _, hfree⟩ := ha
    refine (I.hok b ob e).stay (fun c w' hc q => (hs.2 c ?_).trans q) (fun _ q => q) fun _ _ q => q
    rintro rfl
    rcases hc with rfl | hc
    · rw [hfree] at e; cases e
    · rw [hfree] at hc; cases hc
  rcases hx with hk | hk
  · refine wpAny_storeName_local hk hn (fun h' hn' hs => ?_) hcls
    obtain ⟨oL, _, _, hoL, _⟩ := id hn
    refine h _ ⟨I.ok, I.os, I.bare, ⟨fun b o e n hb hx => ?_, fun b o e n hb hx => ?_, I.base.free, fun b o e hx => ?_, I.base.tups, I.base.frzs, I.base.tbls⟩, ⟨_, hn', fun j y v' e1 e2 e3 => ?_⟩, fun y c e => ?_, I.free, I.freeC, fun p hp => ?_, tracked ⟨oL, hoL, I.free⟩ hs, by simpa using I.len⟩ ⟨_, hs, .inl rfl⟩
    · exact (hs.2 b (Nat.ne_of_lt (Nat.lt_of_lt_of_le (Heap.lt_size e) I.ok.above))).trans (I.base.keep b o e n hb hx)
    · obtain ⟨sl, e1⟩ := I.base.slot b o e n hb hx
      exact ⟨sl, (hs.2 b (Nat.ne_of_lt (Nat.lt_of_lt_of_le (Heap.lt_size e) I.ok.above))).trans e1⟩
    · obtain ⟨o', e1⟩ := I.base.there b o e hx
      exact ⟨o', (hs.2 b (Nat.ne_of_lt (Nat.lt_of_lt_of_le (Heap.lt_size e) I.ok.above))).trans e1⟩
    · by_cases hj : j = i
      · subst hj
        rw [hi] at e1; cases e1
        rw [List.getElem?_set_self hiσ] at e2
        cases e2
        exact ⟨u, r, .inl ⟨hk, by simp⟩⟩
      · rw [List.getElem?_set_ne (Ne.symm hj)] at e2
        obtain ⟨u', r', q⟩ := hl j y v' e1 e2 e3
        refine ⟨u', r', ?_⟩
        rcases q with ⟨k, e⟩ | ⟨k, c, e, z⟩
        · refine .inl ⟨k, ?_⟩
          have : y ≠ x := fun e => hj (nodup_ix hN e1 (e ▸ hi))
          simp [this, e]
        · exact .inr ⟨k, c, e, z.sameBut hs (cne y c e)⟩
    · obtain ⟨w', z⟩ := I.cell y c e
      exact ⟨w', z.sameBut hs (cne y c e)⟩
    · obtain ⟨e, n, ne, nf, d⟩ := I.pin p hp
      exact ⟨(hs.2 p.1 ne).trans e, n, ne, nf, d⟩
  · have hfn : X.fn x = true := by
      rcases hf with z | z
      · exact z
      · rw [z] at hk; cases hk
    obtain ⟨c, hc⟩ := I.ok.has x (.inl hk)
    obtain ⟨w', z⟩ := I.cell x c hc
    refine wpAny_storeName_cell I.ok.kind hk hc z (fun h' hc' hs => ?_)
    obtain ⟨oc, hoc, hocd⟩ := id z
    refine h { s with heap := h' } ⟨I.ok, I.os, I.bare, ⟨fun b o e n hb hx => ?_, fun b o e n hb hx => ?_, I.base.free, fun b o e hx => ?_, I.base.tups, I.base.frzs, I.base.tbls⟩, ⟨m, hn.sameBut hs (Ne.symm (cne x c hc)), fun j y v' e1 e2 e3 => ?_⟩, fun y c' e => ?_, I.free, I.freeC, fun p hp => ?_, tracked ⟨oc, hoc, I.freeC x c hc⟩ hs, by simpa using I.len⟩ ⟨c, hs, .inr hc⟩
    · exact (hs.2 b (Nat.ne_of_lt (Nat.lt_of_lt_of_le (Heap.lt_size e) (I.ok.cab x c hfn hc)))).trans (I.base.keep b o e n hb hx)
    · obtain ⟨sl, e1⟩ := I.base.slot b o e n hb hx
      exact ⟨sl, (hs.2 b (Nat.ne_of_lt (Nat.lt_of_lt_of_le (Heap.lt_size e) (I.ok.cab x c hfn hc)))).trans e1⟩
    · obtain ⟨o', e1⟩ := I.base.there b o e hx
      exact ⟨o', (hs.2 b (Nat.ne_of_lt (Nat.lt_of_lt_of_le (Heap.lt_size e) (I.ok.cab x c hfn hc)))).trans e1⟩
    · by_cases hj : j = i
      · subst hj
        rw [hi] at e1; cases e1
        rw [List.getElem?_set_self hiσ] at e2
        cases e2
        exact ⟨u, r, .inr ⟨.inl hk, c, hc, hc'⟩⟩
      · rw [List.getElem?_set_ne (Ne.symm hj)] at e2
        obtain ⟨u', r', q⟩ := hl j y v' e1 e2 e3
        refine ⟨u', r', ?_⟩
        rcases q with q | ⟨k, c', e, z'⟩
        · exact .inl q
        · refine .inr ⟨k, c', e, z'.sameBut hs ?_⟩
          rintro rfl
          exact hj (nodup_ix hN e1 (I.ok.inj _ _ _ e hc ▸ hi))
    · by_cases hcc : c' = c
      · subst hcc; exact ⟨_, hc'⟩
      · obtain ⟨w2, z2⟩ := I.cell y c' e
        exact ⟨w2, z2.sameBut hs hcc⟩
    · obtain ⟨e, n, ne, nf, d⟩ := I.pin p hp
      refine ⟨(hs.2 p.1 ?_).trans e, n, ne, nf, d⟩
      intro q
      rw [q, hoc] at e
      have q' : oc = p.2 := Option.some.inj e
      exact d w' (by rw [← q']; exact hocd)
theorem store_ok {M : Model} {A : Around} {E : Value → Shared → Prop} {i : Nat} {x : Str} {v : V} {u : Value} {Q : Unit → Shared → Prop} (I : Inv X pins σ H s) (hN : X.N.Nodup) (hi : X.N[i]? = some x) (hx : Loc X.env.scope x) (r : RelV v u)
    (h : ∀ s', Inv X pins (σ.set i (some v)) H s' → Q () s') (hf : X.fn x = true ∨ X.env.scope.names.lookup x = some .local := by first | exact .inl rfl | exact .inr rfl | assumption) : wpAny M A (storeName X.env x u) Q E s :=
  store_ok2 I hN hi hx r (fun s' I' _ => h s' I') hf
/-- behind a call or a block, the state as it is -/
theorem Inv.call' {s' : Shared} {ch : List Addr} (I : Inv X pins σ H s) (ho : s'.os = s.os) (u : Un (frs X.stack) ch H H' s.heap s'.heap) (hok : HOk X.prog X.w H' s'.heap) (hg : AllBare s'.gens)
    (hch : ∀ b ∈ ch, (b ∈ X.ex ∨ X.s₀.heap.objs.size ≤ b) ∧ b ≠ X.env.locals ∧ (∀ x c, X.env.cells.lookup x = some c → c ≠ b) ∧ ∀ p ∈ X.pn ++ pins, p.1 ≠ b) : Inv X pins σ H' s' := by
  obtain ⟨h', g', d', t', o'⟩ := s'
  have e : o' = s.os := ho
  subst e
  exact I.call (g' := g') (t' := t') (d' := d') u hok hg hch
end

/-! ### the judgements -/
/-- an exception: its class, its own dict's address (where it has one), the abstract heap behind it -/
noncomputable abbrev XK := Value → Option Addr → Hp → Prop
noncomputable abbrev St := List (Option V)
noncomputable abbrev VK := V → Hp → Prop
/-- an expression's reading; a test's; an argument list's -/
noncomputable abbrev TE := St → Hp → VK → Prop
noncomputable abbrev TT := St → Hp → (Bool → Hp → Prop) → Prop
noncomputable abbrev TA := St → Hp → (List V → Hp → Prop) → Prop
/-- what is wanted behind a statement -/
structure Ends where
  nx : St → Hp → Prop
  rt : VK
  bk : St → Hp → Prop := fun _ _ => False
  ct : St → Hp → Prop := fun _ _ => False
noncomputable abbrev TS := Ends → St → Hp → Prop

noncomputable def EP (X : Cx) (pins : List (Addr × Obj)) (σ : St) (Q : VK) (u : Value) (s' : Shared) : Prop := ∃ v H', Inv X pins σ H' s' ∧ RelV v u ∧ Q v H'
noncomputable def TP (X : Cx) (pins : List (Addr × Obj)) (σ : St) (Q : Bool → Hp → Prop) (b : Bool) (s' : Shared) : Prop := ∃ H', Inv X pins σ H' s' ∧ Q b H'
noncomputable def AP (X : Cx) (pins : List (Addr × Obj)) (σ : St) (Q : List V → Hp → Prop) (us : List Value) (s' : Shared) : Prop := ∃ vs H', Inv X pins σ H' s' ∧ Vals vs us ∧ Q vs H'
noncomputable def SP (X : Cx) (pins : List (Addr × Obj)) (D : Ends) (f : Flow) (s' : Shared) : Prop :=
  match f with
  | .next => ∃ σ' H', Inv X pins σ' H' s' ∧ D.nx σ' H'
  | .brk => ∃ σ' H', Inv X pins σ' H' s' ∧ D.bk σ' H'
  | .cont => ∃ σ' H', Inv X pins σ' H' s' ∧ D.ct σ' H'
  | .ret u => ∃ v σ' H', Inv X pins σ' H' s' ∧ RelV v u ∧ D.rt v H'

noncomputable def PE (X : Cx) (e : Expr) (t : TE) : Prop :=
  ∀ (pins : List (Addr × Obj)) (s : Shared) (σ : St) (H : Hp) (Q : VK), Inv X pins σ H s → t σ H Q → wpAny (model X.prog X.w) X.A (eval e X.env) (EP X pins σ Q) X.xe s
noncomputable def PT (X : Cx) (e : Expr) (t : TT) : Prop :=
  ∀ (pins : List (Addr × Obj)) (s : Shared) (σ : St) (H : Hp) (Q : Bool → Hp → Prop), Inv X pins σ H s → t σ H Q → wpAny (model X.prog X.w) X.A (isTrue e X.env (eval e X.env)) (TP X pins σ Q) X.xe s
/-- a test whatever its 'whole' is (and, or) -/
noncomputable def PW (X : Cx) (e : Expr) (t : TT) : Prop :=
  ∀ (whole : Sem Value) (pins : List (Addr × Obj)) (s : Shared) (σ : St) (H : Hp) (Q : Bool → Hp → Prop), Inv X pins σ H s → t σ H Q → wpAny (model X.prog X.w) X.A (isTrue e X.env whole) (TP X pins σ Q) X.xe s
theorem PW.pt {X : Cx} {e : Expr} {t : TT} (h : PW X e t) : PT X e t := h _
/-- an argument list (no star), from the left -/
noncomputable def PA (X : Cx) (es : List Expr) (t : TA) : Prop :=
  ∀ (pos : Pos) (pins : List (Addr × Obj)) (s : Shared) (σ : St) (H : Hp) (Q : List V → Hp → Prop), Inv X pins σ H s → t σ H Q → wpAny (model X.prog X.w) X.A (spliced (backTo pos (starEach es X.env))) (AP X pins σ Q) X.xe s
noncomputable def PS (X : Cx) (st : Stmt) (t : TS) : Prop :=
  ∀ (pins : List (Addr × Obj)) (s : Shared) (σ : St) (H : Hp) (D : Ends), Inv X pins σ H s → t D σ H → wpAny (model X.prog X.w) X.A (exec st X.env) (SP X pins D) X.xe s
noncomputable def PSs (X : Cx) (st : List Stmt) (t : TS) : Prop :=
  ∀ (pins : List (Addr × Obj)) (s : Shared) (σ : St) (H : Hp) (D : Ends), Inv X pins σ H s → t D σ H → wpAny (model X.prog X.w) X.A (execs st X.env) (SP X pins D) X.xe s
/-- weaken the end -/
theorem thn {α : Type} {t : Sem α} {Q Q' : α → Shared → Prop} {M : Model} {A : Around} {E : Value → Shared → Prop} {s : Shared} (h : wpAny M A t Q E s) (hQ : ∀ a s, Q a s → Q' a s) : wpAny M A t Q' E s := wpAny_mono h hQ fun _ _ x => x
end L2

namespace L2
open PySem PySem.Spec PyProof.Rows
section
variable {X : Cx}

/-! ### names and constants -/
noncomputable def tVar (i : Nat) : TE := fun σ H Q => ∃ v, σ[i]? = some (some v) ∧ Q v H
noncomputable def tC (v : V) : TE := fun _ H Q => Q v H
theorem pe_var {i : Nat} {x : Str} {pos : Pos} (hN : X.N[i]? = some x) (hv : Vis X.env.scope x) (hd : (x == ("__debug__" : Str)) = false := by decide) (hcd : (x == ("__classdict__" : Str)) = false := by decide) : PE X (.Name x pos) (tVar i) := by
  intro pins s σ H Q I h
  obtain ⟨v, e, h⟩ := h
  obtain ⟨m, hn, hl⟩ := I.loc
  obtain ⟨u, r, l⟩ := hl i x v hN e hv
  have fin : EP X pins σ Q u s := ⟨v, H, I, r, h⟩
  rcases l with ⟨hk, hm⟩ | ⟨hk, c, hc, hcell⟩
  · exact wpAny_Name (wpAny_loadName_local I.ok.kind hk hn hm fin) hd
  · rcases hk with hk | hk
    · exact wpAny_Name (wpAny_loadName_cell I.ok.kind hk hc hcell fin) hd
    · exact wpAny_Name (wpAny_loadName_free I.ok.kind hk hc hcell fin hcd) hd
theorem pe_int {i j pos} : PE X (.Constant (.int i) j pos) (tC (.int i)) := fun _ _ _ H _ I h => wpAny_Constant_int ⟨.int i, H, I.tok _, ⟨_, rfl⟩, h⟩
theorem pe_bl {b j pos} : PE X (.Constant (.bool b) j pos) (tC (.bl b)) := fun _ _ _ H _ I h => Constant_bool ⟨.bl b, H, I, rfl, h⟩
theorem pe_str {x j pos} : PE X (.Constant (.str x) j pos) (tC (.str x)) := fun _ _ _ H _ I h => Calls.Constant_str ⟨.str x, H, I.tok _, ⟨_, rfl⟩, h⟩

/-- a global name of the def -/
noncomputable def Gl (X : Cx) (x : Str) : Prop := X.env.kindOf x = some .globalImplicit
theorem ld_glob {E : Value → Shared → Prop} {pins : List (Addr × Obj)} {s : Shared} {σ : St} {H : Hp} {x : Str} {u : Value} {pos : Pos} {Q : Value → Shared → Prop} (I : Inv X pins σ H s) (hg : Gl X x) (hm : X.mg x = some u) (h : Q u s)
    (hd : (x == ("__debug__" : Str)) = false := by decide) : wpAny (model X.prog X.w) X.A (eval (.Name x pos) X.env) Q E s :=
  Calls.Name_function_global I.ok.kind hg (Calls.loadGlobal_global (by rw [I.ok.glob]; exact I.mod.glob.keeps I.bk) hm h) hd
theorem ld_blt {E : Value → Shared → Prop} {pins : List (Addr × Obj)} {s : Shared} {σ : St} {H : Hp} {x : Str} {u : Value} {pos : Pos} {Q : Value → Shared → Prop} (I : Inv X pins σ H s) (hg : Gl X x) (hm : X.mg x = none) (hv : bootBuiltins x = some u) (h : Q u s)
    (hn : x ≠ "__name__" := by decide) (hd : (x == ("__debug__" : Str)) = false := by decide) : wpAny (model X.prog X.w) X.A (eval (.Name x pos) X.env) Q E s := by
  obtain ⟨mb, h1, h2⟩ := I.mod.blt
  exact Calls.Name_function_global I.ok.kind hg (Calls.loadGlobal_builtin (by rw [I.ok.glob]; exact I.mod.glob.keeps I.bk) hm (by rw [I.ok.blt]; exact h1.keeps I.bk) ((h2 x hn).trans hv) h) hd
/-- a module's constant, a class, a function, as a value -/
theorem pe_glob {x : Str} {v : V} {u : Value} {pos : Pos} (hg : Gl X x) (hm : X.mg x = some u) (r : RelV v u) (hd : (x == ("__debug__" : Str)) = false := by decide) : PE X (.Name x pos) (tC v) :=
  fun _ _ _ H _ I h => ld_glob I hg hm ⟨v, H, I, r, h⟩ hd
theorem pe_bltn {x : Str} {v : V} {u : Value} {pos : Pos} (hg : Gl X x) (hm : X.mg x = none) (hv : bootBuiltins x = some u) (r : RelV v u) (hn : x ≠ "__name__" := by decide) (hd : (x == ("__debug__" : Str)) = false := by decide) : PE X (.Name x pos) (tC v) :=
  fun _ _ _ H _ I h => ld_blt I hg hm hv ⟨v, H, I, r, h⟩ hn hd

variable {a b : Expr} {ta tb : TE} {pos : Pos}
/-- a comparison as a value, as a test -/
noncomputable def tB (t : TE) : TT := fun σ H Q => t σ H fun x H1 => ∃ c, x = .bl c ∧ Q c H1
/-- an expression whose value is a bool, as a test -/
theorem pt_val {e : Expr} {t : TE} (h : PE X e t) (he : ∀ whole, isTrue e X.env whole = (do let v ← whole; standAt e.pos; holding [v] (truthy v)) := by intro _; rfl) : PT X e (tB t) := by
  intro pins s σ H Q I hw
  refine isTrue_plain (thn (h pins s σ H _ I hw) fun v s1 ⟨x, H1, I1, r1, q1⟩ => ?_) (he _)
  obtain ⟨d, rfl, q⟩ := q1
  cases r1
  exact wpAny_truthy_bool ⟨H1, I1, q⟩

/-! ### and, or, not -/
variable {tA tB' : TT} {rest : List Expr}
noncomputable def tAnd (t u : TT) : TT := fun σ H Q => t σ H fun c H1 => if c = true then u σ H1 Q else Q false H1
noncomputable def tOr (t u : TT) : TT := fun σ H Q => t σ H fun c H1 => if c = true then Q true H1 else u σ H1 Q
noncomputable def tNot (t : TT) : TT := fun σ H Q => t σ H fun c H1 => Q (!c) H1
theorem pw_and1 (ha : PT X a tA) : PW X (.BoolOp .And [a] pos) tA := by
  intro wh pins s σ H Q I h
  refine isTrue_and (thn (ha pins s σ H Q I h) fun c s1 e => ?_)
  cases c with
  | true => exact isTrue_and_nil e
  | false => exact e
theorem pw_or1 (ha : PT X a tA) : PW X (.BoolOp .Or [a] pos) tA := by
  intro wh pins s σ H Q I h
  refine isTrue_or (thn (ha pins s σ H Q I h) fun c s1 e => ?_)
  cases c with
  | false => exact isTrue_or_nil e
  | true => exact e
theorem pw_and (ha : PT X a tA) (hb : PW X (.BoolOp .And (b :: rest) pos) tB') : PW X (.BoolOp .And (a :: b :: rest) pos) (tAnd tA tB') := by
  intro wh pins s σ H Q I h
  refine isTrue_and (thn (ha pins s σ H _ I h) fun c s1 ⟨H1, I1, q1⟩ => ?_)
  cases c with
  | true => exact hb wh pins s1 σ H1 Q I1 q1
  | false => exact ⟨H1, I1, q1⟩
theorem pw_or (ha : PT X a tA) (hb : PW X (.BoolOp .Or (b :: rest) pos) tB') : PW X (.BoolOp .Or (a :: b :: rest) pos) (tOr tA tB') := by
  intro wh pins s σ H Q I h
  refine isTrue_or (thn (ha pins s σ H _ I h) fun c s1 ⟨H1, I1, q1⟩ => ?_)
  cases c with
  | true => exact ⟨H1, I1, q1⟩
  | false => exact hb wh pins s1 σ H1 Q I1 q1
theorem pt_not (ha : PT X a tA) : PT X (.UnaryOp .Not a pos) (tNot tA) := by
  intro pins s σ H Q I h
  exact isTrue_not (ha pins s σ H (fun c H1 => Q (!c) H1) I h)
/-- .. as values (bools) -/
noncomputable def tAndV (ta tb : TE) : TE := fun σ H Q => ta σ H fun x H1 => ∃ c, x = .bl c ∧ if c = true then tb σ H1 Q else Q (.bl false) H1
noncomputable def tNotV (ta : TE) : TE := fun σ H Q => ta σ H fun x H1 => ∃ c, x = .bl c ∧ Q (.bl (!c)) H1
theorem pe_one {op} {t : TE} (h : PE X a t) : PE X (.BoolOp op [a] pos) t := fun pins s σ H Q I hw => BoolOp_one (h pins s σ H Q I hw)
theorem pe_and (ha : PE X a ta) (hb : PE X (.BoolOp .And (b :: rest) pos) tb) : PE X (.BoolOp .And (a :: b :: rest) pos) (tAndV ta tb) := by
  intro pins s σ H Q I h
  refine BoolOp_and (thn (ha pins s σ H _ I h) fun v s1 ⟨x, H1, I1, r1, q1⟩ => ?_)
  obtain ⟨c, rfl, q1⟩ := q1
  cases r1
  refine wpAny_truthy_bool ?_
  cases c with
  | true => exact hb pins s1 σ H1 Q I1 q1
  | false => exact ⟨.bl false, H1, I1, rfl, q1⟩
theorem pe_not (ha : PE X a ta) : PE X (.UnaryOp .Not a pos) (tNotV ta) := by
  intro pins s σ H Q I h
  refine UnaryOp_ (thn (ha pins s σ H _ I h) fun v s1 ⟨x, H1, I1, r1, q1⟩ => ?_)
  obtain ⟨c, rfl, q1⟩ := q1
  cases r1
  exact not_of (wpAny_truthy_bool ⟨.bl (!c), H1, I1, rfl, q1⟩)
end
end L2

namespace L2
open PySem PySem.Spec PyProof.Rows

/-! ### a list, a tuple that is read: tracked, frozen, or an object of the module -/
noncomputable def SqL (K : PySem.W.Frag) (H : Hp) (a : Addr) (xs : List V) : Prop :=
  Rd H a (.lst xs) ∨
    ∃ (o : Obj) (its : Array Value) (n : Nat), K.lookup a = some o ∧ o.cls = .type "list" ∧ o.dict = none ∧ o.data = .seq its n ∧ its.size ≤ sizeLine ∧ Vals xs its.toList
noncomputable def SqT (K : PySem.W.Frag) (H : Hp) (a : Addr) (xs : List V) : Prop :=
  Rd H a (.tup xs) ∨
    ∃ (o : Obj) (its : Array Value) (n : Nat), K.lookup a = some o ∧ o.cls = .type "tuple" ∧ o.data = .seq its n ∧ its.size ≤ sizeLine ∧ Vals xs its.toList
noncomputable def absV : Value → Option V
  | .none => some .non
  | .bool b => some (.bl b)
  | .int i _ => some (.int i)
  | .str x _ => some (.str x)
  | .bytes b _ => some (.byt b)
  | .float b _ => some (.flt b)
  | .ref a => some (.ref a)
  | .type n => some (.ty n)
  | _ => none
theorem RelV.abs {x : V} {u : Value} (r : RelV x u) : absV u = some x := by
  cases x with
  | non => cases r; rfl
  | bl _ => cases r; rfl
  | int _ => obtain ⟨t, rfl⟩ := r; rfl
  | str _ => obtain ⟨t, rfl⟩ := r; rfl
  | byt _ => obtain ⟨t, rfl⟩ := r; rfl
  | flt _ => obtain ⟨t, rfl⟩ := r; rfl
  | ref _ => cases r; rfl
  | ty _ => cases r; rfl
theorem RelV.inj {x y : V} {u : Value} (r : RelV x u) (q : RelV y u) : x = y := Option.some.inj (r.abs.symm.trans q.abs)
theorem Vals.inj : ∀ {xs ys : List V} {us : List Value}, Vals xs us → Vals ys us → xs = ys
  | _, _, _, .nil, .nil => rfl
  | _, _, _, .cons r t, .cons r' t' => by rw [r.inj r', Vals.inj t t']
section
variable {X : Cx} {pins : List (Addr × Obj)} {σ : St} {H : Hp} {s : Shared} {a : Addr} {xs ys : List V}
theorem SqL.of {K : PySem.W.Frag} (h : H a = some (.lst xs)) : SqL K H a xs := .inl (.inl h)
theorem SqT.of {K : PySem.W.Frag} (h : H a = some (.tup xs)) : SqT K H a xs := .inl (.inl h)
theorem Inv.list (I : Inv X pins σ H s) (h : SqL X.K H a xs) : ∃ its : List Value, Vals xs its ∧ PlainL s.heap a its.toArray ∧ xs.length ≤ sizeLine := by
  rcases h with h | ⟨o, its, n, hk, hc, hd, hs, hz, r⟩
  · obtain ⟨z, its, n, r, e⟩ := h.ok I.hok
    exact ⟨its, r, ⟨_, n, e, rfl, rfl, rfl⟩, z⟩
  · refine ⟨its.toList, r, ⟨o, n, I.kIn a o hk, hc, hd, by simpa using hs⟩, ?_⟩
    have e := r.length
    simp only [Array.length_toList] at e
    omega
theorem Inv.tuple (I : Inv X pins σ H s) (h : SqT X.K H a xs) : ∃ its : List Value, Vals xs its ∧ IsTup s.heap a its.toArray ∧ xs.length ≤ sizeLine := by
  rcases h with h | ⟨o, its, n, hk, hc, hs, hz, r⟩
  · obtain ⟨z, its, r, p⟩ := h.ok I.hok
    exact ⟨its, r, p, z⟩
  · refine ⟨its.toList, r, ⟨o, I.kIn a o hk, hc, n, by simpa using hs⟩, ?_⟩
    have e := r.length
    simp only [Array.length_toList] at e
    omega
theorem Inv.list_inj (I : Inv X pins σ H s) (h : SqL X.K H a xs) (h' : SqL X.K H a ys) : xs = ys := by
  obtain ⟨its, r, ⟨o, n, e, _, _, d⟩, _⟩ := I.list h
  obtain ⟨its', r', ⟨o', n', e', _, _, d'⟩, _⟩ := I.list h'
  rw [e] at e'; cases e'
  rw [d] at d'
  injection d' with d1 _
  have : its = its' := by simpa using congrArg Array.toList d1
  subst this
  exact r.inj r'
theorem Inv.tuple_inj (I : Inv X pins σ H s) (h : SqT X.K H a xs) (h' : SqT X.K H a ys) : xs = ys := by
  obtain ⟨its, r, ⟨o, e, _, n, d⟩, _⟩ := I.tuple h
  obtain ⟨its', r', ⟨o', e', _, n', d'⟩, _⟩ := I.tuple h'
  rw [e] at e'; cases e'
  rw [d] at d'
  injection d' with d1 _
  have : its = its' := by simpa using congrArg Array.toList d1
  subst this
  exact r.inj r'
end

/-! ### another wish about exceptions -/
noncomputable abbrev Cx.wish (X : Cx) (E : Value → Shared → Prop) : Cx := { X with xe := E }
/-- no exception leaves -/
noncomputable abbrev Cx.nox (X : Cx) : Cx := X.wish fun _ _ => False
theorem Cx.Ok.wish {X : Cx} (ok : X.Ok) (E : Value → Shared → Prop) : (X.wish E).Ok :=
  ⟨ok.mod, ok.kind, ok.glob, ok.blt, ok.above, ok.inj, ok.has, ok.cab, ok.hd, ok.frames, ok.stk, ok.exf, ok.bs, ok.bsz, ok.noex, ok.exfs, ok.funs, ok.frf⟩
theorem Cx.Ok.unwish {X : Cx} {E : Value → Shared → Prop} (ok : (X.wish E).Ok) : X.Ok :=
  ⟨ok.mod, ok.kind, ok.glob, ok.blt, ok.above, ok.inj, ok.has, ok.cab, ok.hd, ok.frames, ok.stk, ok.exf, ok.bs, ok.bsz, ok.noex, ok.exfs, ok.funs, ok.frf⟩
section
variable {X : Cx} {pins : List (Addr × Obj)} {σ : St} {H : Hp} {s : Shared} {E : Value → Shared → Prop}
theorem Inv.wish (I : Inv X pins σ H s) (E : Value → Shared → Prop) : Inv (X.wish E) pins σ H s := ⟨I.ok.wish E, I.os, I.bare, I.base, I.loc, I.cell, I.free, I.freeC, I.pin, I.hok, I.len⟩
theorem Inv.unwish (I : Inv (X.wish E) pins σ H s) : Inv X pins σ H s := ⟨I.ok.unwish, I.os, I.bare, I.base, I.loc, I.cell, I.free, I.freeC, I.pin, I.hok, I.len⟩
theorem SP.unwish {D : Ends} {f : Flow} {s' : Shared} (h : SP (X.wish E) pins D f s') : SP X pins D f s' := by
  cases f with
  | next => obtain ⟨σ', H', I, q⟩ := h; exact ⟨σ', H', I.unwish, q⟩
  | brk => obtain ⟨σ', H', I, q⟩ := h; exact ⟨σ', H', I.unwish, q⟩
  | cont => obtain ⟨σ', H', I, q⟩ := h; exact ⟨σ', H', I.unwish, q⟩
  | ret u => obtain ⟨v, σ', H', I, r, q⟩ := h; exact ⟨v, σ', H', I.unwish, r, q⟩
theorem PE.nox {e : Expr} {t : TE} (h : PE X.nox e t) : PE X e t := fun pins s σ H Q I hw =>
  wpAny_mono (h pins s σ H Q (I.wish _) hw) (fun _ _ ⟨v, H', I', r, q⟩ => ⟨v, H', I'.unwish, r, q⟩) fun _ _ z => False.elim z
theorem PT.nox {e : Expr} {t : TT} (h : PT X.nox e t) : PT X e t := fun pins s σ H Q I hw =>
  wpAny_mono (h pins s σ H Q (I.wish _) hw) (fun _ _ ⟨H', I', q⟩ => ⟨H', I'.unwish, q⟩) fun _ _ z => False.elim z
theorem PSs.nox {st : List Stmt} {t : TS} (h : PSs X.nox st t) : PSs X st t := fun pins s σ H D I hw =>
  wpAny_mono (h pins s σ H D (I.wish _) hw) (fun _ _ q => q.unwish) fun _ _ z => False.elim z
end

/-! ### blocks and small statements -/
section
variable {X : Cx} {st : Stmt} {rest : List Stmt} {t u : TS} {e : Expr} {te : TE} {pos : Pos}
noncomputable def tNext : TS := fun D σ H => D.nx σ H
noncomputable def tSeq (t u : TS) : TS := fun D σ H => t { D with nx := u D } σ H
theorem pss_nil : PSs X [] tNext := fun _ _ σ H _ I h => wpAny_execs_nil ⟨σ, H, I, h⟩
theorem pss_cons (h1 : PS X st t) (h2 : PSs X rest u) : PSs X (st :: rest) (tSeq t u) := by
  intro pins s σ H D I h
  refine wpAny_execs_cons (thn (h1 pins s σ H { D with nx := u D } I h) fun f s1 q => ?_)
  cases f with
  | next =>
    obtain ⟨σ', H', I', q⟩ := q
    exact h2 pins s1 σ' H' D I' q
  | ret v => exact q
  | brk => exact q
  | cont => exact q
theorem pss_one (h1 : PS X st t) : PSs X [st] t := by
  intro pins s σ H D I h
  refine wpAny_execs_cons (thn (h1 pins s σ H D I h) fun f s1 q => ?_)
  cases f with
  | next => exact wpAny_execs_nil q
  | ret v => exact q
  | brk => exact q
  | cont => exact q
/-- in a def's body nothing is shown -/
theorem Inv.quiet {pins : List (Addr × Obj)} {σ : St} {H : Hp} {s : Shared} (I : Inv X pins σ H s) : interactive X.env = false := by simp [interactive, I.ok.kind]
/-- an expression whose value is dropped -/
noncomputable def tDrop (te : TE) : TS := fun D σ H => te σ H fun _ H1 => D.nx σ H1
theorem ps_expr (he : PE X e te) (hs : swapsWith e none pos.line X.env = pure false := by rfl) : PS X (.Expr e pos) (tDrop te) := by
  intro pins s σ H D I h
  exact wpAny_Expr_any (thn (he pins s σ H _ I h) fun v s1 ⟨x, H1, I1, r1, q1⟩ => ⟨σ, H1, I1, q1⟩) I.quiet hs
noncomputable def tRet (te : TE) : TS := fun D σ H => te σ H D.rt
theorem ps_ret (he : PE X e te) : PS X (.Return (some e) pos) (tRet te) := by
  intro pins s σ H D I h
  exact wpAny_Return_some (thn (he pins s σ H _ I h) fun v s1 ⟨x, H1, I1, r1, q1⟩ => ⟨x, σ, H1, I1, r1, q1⟩)
noncomputable def tIfS (c : TT) (t u : TS) : TS := fun D σ H => c σ H fun b H1 => if b = true then t D σ H1 else u D σ H1
theorem ps_if {c : Expr} {a b : List Stmt} {tc : TT} (hc : PT X c tc) (ha : PSs X a t) (hb : PSs X b u) : PS X (.If c a b pos) (tIfS tc t u) := by
  intro pins s σ H D I h
  refine wpAny_If (thn (hc pins s σ H _ I h) fun d s1 ⟨H1, I1, q1⟩ => ?_)
  cases d with
  | true => exact ha pins s1 σ H1 D I1 q1
  | false => exact hb pins s1 σ H1 D I1 q1
end

/-! ### targets -/
noncomputable abbrev TG := V → St → Hp → (St → Hp → Prop) → Prop
noncomputable def PG (X : Cx) (target : Expr) (t : TG) : Prop :=
  ∀ (pins : List (Addr × Obj)) (s : Shared) (σ : St) (H : Hp) (v : V) (u : Value) (Q : St → Hp → Prop), Inv X pins σ H s → RelV v u → t v σ H Q →
    wpAny (model X.prog X.w) X.A (assign target X.env u) (fun _ s' => ∃ σ' H', Inv X pins σ' H' s' ∧ Q σ' H') X.xe s
/-- o[i] = v, by values -/
noncomputable abbrev TSet := V → V → V → Hp → (Hp → Prop) → Prop
noncomputable def PSet (X : Cx) (t : TSet) : Prop :=
  ∀ (pins : List (Addr × Obj)) (s : Shared) (σ : St) (H : Hp) (o i v : V) (ov iv u : Value) (Q : Hp → Prop), Inv X pins σ H s → RelV o ov → RelV i iv → RelV v u → t o i v H Q →
    wpAny (model X.prog X.w) X.A (setItem ov iv u) (fun _ s' => ∃ H', Inv X pins σ H' s' ∧ Q H') X.xe s
section
variable {X : Cx} {pos : Pos}
noncomputable def gName (i : Nat) : TG := fun v σ H Q => Q (σ.set i (some v)) H
theorem pg_name {i : Nat} {x : Str} (hN : X.N.Nodup) (hi : X.N[i]? = some x) (hx : Loc X.env.scope x) (hf : X.fn x = true ∨ X.env.scope.names.lookup x = some .local := by first | exact .inl rfl | exact .inr rfl | assumption) : PG X (.Name x pos) (gName i) := by
  intro pins s σ H v u Q I r h
  exact wpAny_assign_Name (store_ok I hN hi hx r (fun s' I' => ⟨_, H, I', h⟩) hf)
/-- o[i] = .. -/
noncomputable def gSub (to ti : TE) (t : TSet) : TG := fun v σ H Q => to σ H fun o H1 => ti σ H1 fun i H2 => t o i v H2 fun H3 => Q σ H3
theorem pg_sub {o i : Expr} {to ti : TE} {t : TSet} (ho : PE X o to) (hi : PE X i ti) (hs : PSet X t)
    (ha : ∀ v, assign (.Subscript o i pos) X.env v = (do
      let ov ← holding [v] (eval o X.env)
      let iv ← holding [v, ov] (eval i X.env)
      standAt pos
      holding [v, ov, iv] (setItem ov iv v)
      release [v, ov, iv] []) := by intro _; rfl) : PG X (.Subscript o i pos) (gSub to ti t) := by
  intro pins s σ H v u Q I r h
  rw [ha]
  refine wpAny_bind (wpAny_holding (thn (ho pins s σ H _ I h) fun ov s1 ⟨x, H1, I1, r1, q1⟩ => ?_))
  refine wpAny_bind (wpAny_holding (thn (hi pins s1 σ H1 _ I1 q1) fun iv s2 ⟨y, H2, I2, r2, q2⟩ => ?_))
  refine wpAny_bind (wpAny_standAt (wpAny_bind (wpAny_holding (thn (hs pins s2 σ H2 x y v ov iv u _ I2 r1 r2 r q2) fun _ s3 ⟨H3, I3, q3⟩ => ?_))))
  exact wpAny_release ⟨σ, H3, I3, q3⟩
/-- target = value -/
noncomputable def tAsg (te : TE) (g : TG) : TS := fun D σ H => te σ H fun x H1 => g x σ H1 D.nx
theorem ps_asg {tg e : Expr} {te : TE} {g : TG} (he : PE X e te) (hg : PG X tg g) (hs : swapsWithSole [tg] e pos.line X.env = pure false := by rfl) (hw : swappedStores [tg] e X.env = pure none := by rfl)
    (h1 : (assignEach [tg] X.env).map (·.2) = [assign tg X.env] := by rfl) : PS X (.Assign [tg] e pos) (tAsg te g) := by
  intro pins s σ H D I h
  refine wpAny_Assign_stores (thn (he pins s σ H _ I h) fun v s1 ⟨x, H1, I1, r1, q1⟩ => ?_) hs hw
  rw [h1]
  exact thn (hg pins s1 σ H1 x v _ I1 r1 q1) fun _ s2 q => q
/-- name = value -/
theorem ps_set {i : Nat} {x : Str} {e : Expr} {te : TE} {pos' : Pos} (hN : X.N.Nodup) (hi : X.N[i]? = some x) (hx : Loc X.env.scope x) (he : PE X e te) (hs : swapsWith e (some (.Name x pos')) pos.line X.env = pure false := by rfl) (hf : X.fn x = true ∨ X.env.scope.names.lookup x = some .local := by first | exact .inl rfl | exact .inr rfl | assumption) :
    PS X (.Assign [.Name x pos'] e pos) (tAsg te (gName i)) := by
  intro pins s σ H D I h
  refine wpAny_Assign_Name (thn (he pins s σ H _ I h) fun v s1 ⟨y, H1, I1, r1, q1⟩ => ?_) hs
  exact store_ok I1 hN hi hx r1 (fun s2 I2 => ⟨_, H1, I2, q1⟩) hf
end

/-! ### while -/
section
variable {X : Cx} {pos : Pos}
end

/-! ### what a loop or a comprehension walks -/
/-- at turn i: it yields x (the heap may grow), or it stops -/
structure It where
  go : Nat → Hp → Prop
  yld : Nat → Hp → V → Hp → Prop
  stop : Nat → Hp → Prop
/-- the iterator's own objects may turn: they are not the frame's, not pinned, younger than the entry (or a comprehension's own) -/
noncomputable def FpOk (X : Cx) (pins : List (Addr × Obj)) (H : Hp) (b : Addr) : Prop :=
  H b = none ∧ b ≠ X.env.locals ∧ b ∉ X.fs ∧ (b ∈ X.ex ∨ X.s₀.heap.objs.size ≤ b) ∧ (∀ x c, X.env.cells.lookup x = some c → c ≠ b) ∧ ∀ p ∈ X.pn ++ pins, p.1 ≠ b
theorem Inv.fpOk {X : Cx} {pins : List (Addr × Obj)} {σ : St} {H H' : Hp} {s : Shared} {b : Addr} (I : Inv X pins σ H s) (hb : s.heap.objs.size ≤ b) (hn : H' b = none) : FpOk X pins H' b := by
  refine ⟨hn, Nat.ne_of_gt (Nat.lt_of_lt_of_le I.lt hb), I.nofs hb, .inr (Nat.le_trans I.sz hb), fun x c e z => ?_, fun p hp z => ?_⟩
  · obtain ⟨v, q⟩ := I.cell x c e
    exact absurd (Nat.lt_of_lt_of_le q.lt (by rw [z]; exact hb)) (Nat.lt_irrefl _)
  · exact absurd (Nat.lt_of_lt_of_le (Heap.lt_size (I.pin p hp).1) (by rw [z]; exact hb)) (Nat.lt_irrefl _)
structure Turn (P : Program) (w : World) (K : PySem.W.Frag) (tg : Expr) (J : It) (fp : List Addr) (it : Addr) (tn : Nat → Heap → Prop) : Prop where
  mem : it ∈ fp
  obj : ∀ i h, tn i h → ∀ b ∈ fp, ∃ o, h.get? b = some o ∧ ∀ v, o.data ≠ .cell v
  keep : ∀ i h h', tn i h → (∀ b ∈ fp, ∀ o, h.get? b = some o → h'.get? b = some o) → tn i h'
  item : ∀ (X : Cx), X.prog = P → X.w = w → X.K = K → X.calm = true → ∀ (i : Nat) (pins : List (Addr × Obj)) (s : Shared) (σ : St) (H : Hp) (E : Value → Shared → Prop), Inv X pins σ H s → (∀ b ∈ fp, FpOk X pins H b) → tn i s.heap → J.go i H →
    wpAny (model P w) X.A (pyNext (.ref it)) (fun r s1 => ∃ u, r = some u ∧
      wpAny (model P w) X.A (letOwnedTupleGo tg (.ref it) u) (fun _ s2 => ∃ x H', Inv X pins σ H' s2 ∧ RelV x u ∧ J.yld i H x H' ∧ tn (i + 1) s2.heap ∧ ∀ b ∈ fp, H' b = none) E s1) E s
  done : ∀ (X : Cx), X.prog = P → X.w = w → X.K = K → X.calm = true → ∀ (i : Nat) (pins : List (Addr × Obj)) (s : Shared) (σ : St) (H : Hp) (E : Value → Shared → Prop), Inv X pins σ H s → (∀ b ∈ fp, FpOk X pins H b) → tn i s.heap → J.stop i H →
    wpAny (model P w) X.A (pyNext (.ref it)) (fun r s1 => r = none ∧ Inv X pins σ H s1) E s
  self : ∀ (A : Around) (i : Nat) (s : Shared) (Q : Value → Shared → Prop) (E : Value → Shared → Prop), tn i s.heap → Q (.ref it) s → wpAny (model P w) A (pyIter (.ref it)) Q E s
noncomputable abbrev TI := St → Hp → (It → Hp → Prop) → Prop
/-- an iterator has come -/
noncomputable def PIE (X : Cx) (pins : List (Addr × Obj)) (σ : St) (tg : Expr) (R : It → Hp → Prop) (itv : Value) (s2 : Shared) : Prop :=
  ∃ (it : Addr) (fp : List Addr) (tn : Nat → Heap → Prop) (J : It) (H' : Hp), itv = .ref it ∧ Inv X pins σ H' s2 ∧ Turn X.prog X.w X.K tg J fp it tn ∧ tn 0 s2.heap ∧ (∀ b ∈ fp, FpOk X pins H' b) ∧ R J H'
noncomputable def PI (X : Cx) (tg iter : Expr) (wi : TI) : Prop :=
  ∀ (pins : List (Addr × Obj)) (s : Shared) (σ : St) (H : Hp) (R : It → Hp → Prop), Inv X pins σ H s → wi σ H R →
    wpAny (model X.prog X.w) X.A (eval iter X.env) (fun v s1 => wpAny (model X.prog X.w) X.A (pyIter v) (PIE X pins σ tg R) X.xe s1) X.xe s

/-- the step ahead of the store is nothing for an iterator that keeps no tuple -/
theorem go_of {M : Model} {A : Around} {E : Value → Shared → Prop} {s : Shared} {tg : Expr} {it : Addr} {u : Value} {o : Obj} {n : String} {vs : Array Value} {Q : Unit → Shared → Prop} (ho : s.heap.get? it = some o) (hc : o.cls = .type n) (hd : o.data = .fields vs)
    (hn : ["enumerate", "zip", "dict_itemiterator", "dict_reverseitemiterator", "odict_iterator", "itertools.zip_longest", "itertools.pairwise"].contains n = false) (hQ : Q () s) : wpAny M A (letOwnedTupleGo tg (.ref it) u) Q E s := by
  unfold letOwnedTupleGo
  cases tg <;> first
    | exact wpAny_pure hQ
    | (cases u <;> first
        | exact wpAny_pure hQ
        | (refine wpAny_bind (wpAny_load ho ?_)
           rw [hc, hd]
           show wpAny M A (if (["enumerate", "zip", "dict_itemiterator", "dict_reverseitemiterator", "odict_iterator", "itertools.zip_longest", "itertools.pairwise"].contains n && vs[0]? == some (rawInt _)) = true then _ else _) Q E s
           rw [if_neg (by intro h; rw [hn, Bool.false_and] at h; cases h)]
           exact wpAny_pure hQ))

/-- the list at a, as it stands at each turn (a loop may append to it) -/
noncomputable def Itl (K : PySem.W.Frag) (a : Addr) : It :=
  ⟨fun i H => ∃ xs x, SqL K H a xs ∧ xs[i]? = some x, fun i H x H' => H' = H ∧ ∀ xs, SqL K H a xs → xs[i]? = some x, fun i H => ∃ xs, SqL K H a xs ∧ xs.length ≤ i⟩
noncomputable def Itt (K : PySem.W.Frag) (a : Addr) : It :=
  ⟨fun i H => ∃ xs x, SqT K H a xs ∧ xs[i]? = some x, fun i H x H' => H' = H ∧ ∀ xs, SqT K H a xs → xs[i]? = some x, fun i H => ∃ xs, SqT K H a xs ∧ xs.length ≤ i⟩
/-- lo, lo + 1, .. (n of them) -/
noncomputable def Itr (lo : Int) (n : Nat) : It := ⟨fun i _ => i < n, fun i H x H' => H' = H ∧ x = .int (lo + i), fun i _ => n ≤ i⟩
theorem turn_list {P : Program} {w : World} {K : PySem.W.Frag} {tg : Expr} (a it : Addr) : Turn P w K tg (Itl K a) [it] it (fun i h => h.IsListIter it a i) where
  mem := by simp
  obj := fun i h st b hb => by
    have e : b = it := by simpa using hb
    subst e
    obtain ⟨o, e, c, d⟩ := st
    exact ⟨o, e, fun v z => by rw [d] at z; cases z⟩
  keep := fun i h h' st k => st.at fun o e => k it (by simp) o e
  item := by
    intro X hP hw hK hc i pins s σ H E I hf st hg
    subst hP hw hK
    obtain ⟨xs, x, hq, hx⟩ := hg
    obtain ⟨its, rv, p, hz⟩ := I.list hq
    obtain ⟨u, hu, ru⟩ := rv.get hx
    obtain ⟨f0, f1, f2, f3, f4, f5⟩ := hf it (by simp)
    refine wpAny_pyNext_list_item st p.isList (x := u) (by simpa using hu) fun h' st' sb => ?_
    have I1 : Inv X pins σ H { s with heap := h' } := I.turned (t' := s.toks) (fun b o hb e => (sb.2 b hb).trans e) f0 f1 f3 f4 f5
    obtain ⟨o, e, c, d⟩ := id st'
    exact ⟨u, rfl, go_of (s := { s with heap := h' }) e c d (by decide) ⟨x, H, I1, ru, ⟨rfl, fun ys hy => by rw [I.list_inj hy hq]; exact hx⟩, st', fun b hb => (hf b hb).1⟩⟩
  done := by
    intro X hP hw hK hc i pins s σ H E I hf st hg
    subst hP hw hK
    obtain ⟨xs, hq, hx⟩ := hg
    obtain ⟨its, rv, p, hz⟩ := I.list hq
    obtain ⟨f0, f1, f2, f3, f4, f5⟩ := hf it (by simp)
    have hl := rv.length
    exact wpAny_pyNext_list_end (I.ok.hd hc) st p.isList (by simp; omega) fun h' eb => ⟨rfl, I.turned (t' := s.toks) (fun b o hb e => eb b o hb e) f0 f1 f3 f4 f5⟩
  self := fun _ _ _ _ _ st h => wpAny_pyIter_listiter st h
theorem turn_tuple {P : Program} {w : World} {K : PySem.W.Frag} {tg : Expr} (a it : Addr) : Turn P w K tg (Itt K a) [it] it (fun i h => h.IsTupleIter it a i) where
  mem := by simp
  obj := fun i h st b hb => by
    have e : b = it := by simpa using hb
    subst e
    obtain ⟨o, e, c, d⟩ := st
    exact ⟨o, e, fun v z => by rw [d] at z; cases z⟩
  keep := fun i h h' st k => st.at fun o e => k it (by simp) o e
  item := by
    intro X hP hw hK hc i pins s σ H E I hf st hg
    subst hP hw hK
    obtain ⟨xs, x, hq, hx⟩ := hg
    obtain ⟨its, rv, p, hz⟩ := I.tuple hq
    obtain ⟨u, hu, ru⟩ := rv.get hx
    obtain ⟨f0, f1, f2, f3, f4, f5⟩ := hf it (by simp)
    refine wpAny_pyNext_tuple_item st (show s.heap.IsTuple a its.toArray from p) (x := u) (by simpa using hu) fun h' st' sb => ?_
    have I1 : Inv X pins σ H { s with heap := h' } := I.turned (t' := s.toks) (fun b o hb e => (sb.2 b hb).trans e) f0 f1 f3 f4 f5
    obtain ⟨o, e, c, d⟩ := id st'
    exact ⟨u, rfl, go_of (s := { s with heap := h' }) e c d (by decide) ⟨x, H, I1, ru, ⟨rfl, fun ys hy => by rw [I.tuple_inj hy hq]; exact hx⟩, st', fun b hb => (hf b hb).1⟩⟩
  done := by
    intro X hP hw hK hc i pins s σ H E I hf st hg
    subst hP hw hK
    obtain ⟨xs, hq, hx⟩ := hg
    obtain ⟨its, rv, p, hz⟩ := I.tuple hq
    obtain ⟨f0, f1, f2, f3, f4, f5⟩ := hf it (by simp)
    have hl := rv.length
    exact wpAny_pyNext_tuple_end (I.ok.hd hc) st (show s.heap.IsTuple a its.toArray from p) (by simp; omega) fun h' eb => ⟨rfl, I.turned (t' := s.toks) (fun b o hb e => eb b o hb e) f0 f1 f3 f4 f5⟩
  self := fun _ _ _ _ _ st h => wpAny_pyIter_tupleiter st h
theorem turn_range {P : Program} {w : World} {K : PySem.W.Frag} {tg : Expr} (it : Addr) (lo : Int) (n : Nat) : Turn P w K tg (Itr lo n) [it] it (fun i h => IsRangeIter h it (lo + (i : Nat) * 1) ((n : Int) - (i : Nat)) 1) where
  mem := by simp
  obj := fun i h st b hb => by
    have e : b = it := by simpa using hb
    subst e
    exact ⟨_, st, fun v z => by
      have z' : Data.fields _ = Data.cell v := z
      cases z'⟩
  keep := fun i h h' st k => k it (by simp) _ st
  item := by
    intro X hP hw hK hc i pins s σ H E I hf st hg
    subst hP hw hK
    obtain ⟨f0, f1, f2, f3, f4, f5⟩ := hf it (by simp)
    have W := Walks.range (prog := X.prog) (w := X.w) (I.ok.hd hc) it lo 1 n
    refine W.item i s _ _ hg st fun v h' tk hv st' kk => ?_
    obtain ⟨t, rfl⟩ := hv
    have I1 : Inv X pins σ H { s with heap := h', toks := tk } := I.turned (fun b o hb e => kk b o (by simpa using hb) e) f0 f1 f3 f4 f5
    refine ⟨_, rfl, go_of (s := { s with heap := h', toks := tk }) (n := "range_iterator") st' rfl rfl (by decide) ⟨.int (lo + i), H, I1, ⟨t, ?_⟩, ⟨rfl, rfl⟩, st', fun b hb => (hf b hb).1⟩⟩
    rw [Int.mul_one]
  done := by
    intro X hP hw hK hc i pins s σ H E I hf st hg
    subst hP hw hK
    obtain ⟨f0, f1, f2, f3, f4, f5⟩ := hf it (by simp)
    exact wpAny_pyNext_range_end (I.ok.hd hc) st (by have : n ≤ i := hg; omega) fun h' eb => ⟨rfl, I.turned (t' := s.toks) (fun b o hb e => eb b o hb e) f0 f1 f3 f4 f5⟩
  self := fun _ _ _ _ _ st h => wpAny_pyIter_rangeiter st h
end L2

namespace L2
open PySem PySem.Spec PyProof.Rows
section
variable {X : Cx} {tg : Expr}
/-- a range object just made, walked -/
theorem range_it {pins : List (Addr × Obj)} {σ : St} {H : Hp} {s : Shared} {R : It → Hp → Prop} {E : Value → Shared → Prop} {lo hi : Int} {t u v : Tok} {tk : Nat} (I : Inv X pins σ H s) (h1 : -(2 ^ 62) ≤ lo) (h2 : lo < 2 ^ 62) (h3 : -(2 ^ 62) ≤ hi) (h4 : hi < 2 ^ 62)
    (q : R (Itr lo (hi - lo).toNat) H) : wpAny (model X.prog X.w) X.A (pyIter (.ref s.heap.objs.size)) (PIE X pins σ tg R) E { s with heap := s.heap.push { cls := .type "range", data := .fields #[.int lo t, .int hi u, .int 1 v] }, toks := tk } := by
  refine wpAny_pyIter_range (IsRange.new ..) (small_one h1 h2 h3 h4) ?_
  have I1 : Inv X pins σ H { s with heap := s.heap.push { cls := .type "range", data := .fields #[.int lo t, .int hi u, .int 1 v] }, toks := tk } := I.kept fun b o e => Heap.get?_push_of_some _ e
  refine ⟨(s.heap.push { cls := .type "range", data := .fields #[.int lo t, .int hi u, .int 1 v] }).objs.size, [(s.heap.push { cls := .type "range", data := .fields #[.int lo t, .int hi u, .int 1 v] }).objs.size], _, _, H, rfl,
    I1.kept (t' := tk) fun b o e => Heap.get?_push_of_some _ e, turn_range _ lo (hi - lo).toNat, ?_, fun b hb => ?_, q⟩
  · have e1 : lo + ((0 : Nat) : Int) * 1 = lo := by simp
    have e2 : (((hi - lo).toNat : Nat) : Int) - ((0 : Nat) : Int) = Builtin.Range.rangeSize lo hi 1 := by rw [rangeSize_one]; split <;> omega
    show IsRangeIter _ _ (lo + ((0 : Nat) : Int) * 1) ((((hi - lo).toNat : Nat) : Int) - ((0 : Nat) : Int)) 1
    rw [e1, e2]
    exact Heap.get?_push_size _ rfl
  · have e : b = (s.heap.push { cls := .type "range", data := .fields #[.int lo t, .int hi u, .int 1 v] }).objs.size := by simpa using hb
    subst e
    exact I1.fpOk (Nat.le_refl _) (I1.hok.fresh (Nat.le_refl _))
noncomputable def iRng1 (ta : TA) : TI := fun σ H R => ta σ H fun vs H1 => ∃ j : Int, vs = [.int j] ∧ -(2 ^ 62) ≤ j ∧ j < 2 ^ 62 ∧ R (Itr 0 j.toNat) H1
theorem pi_range1 {a : Expr} {ta : TA} {p pos : Pos} (hg : Gl X "range") (hm : X.mg "range" = none) (ha : PA X [a] ta) (hs : starEach [a] X.env = [(false, eval a X.env)] := by rfl) : PI X tg (.Call (.Name "range" p) [a] [] pos) (iRng1 ta) := by
  intro pins s σ H R I h
  refine Call_ (ld_blt I hg hm boot_range (PyProof.Rows.callWith_type1 (thn (ha pos pins s σ H _ I h) fun us s1 ⟨vs, H1, I1, r1, q1⟩ => ?_) hs rfl))
  obtain ⟨j, e, q1, q2, q⟩ := q1
  subst e
  cases r1 with
  | cons r rr =>
    cases rr
    obtain ⟨t, rfl⟩ := r
    exact call_range_1 (range_it I1 (by omega) (by omega) q1 q2 (by simpa using q))
/-! ### for -/
/-- W: the invariant by the turn and a measure; N: what the body is to reach -/
noncomputable def tFor (wi : TI) (g : TG) (tb : TS) : TS := fun D σ H => wi σ H fun J H1 => ∃ W : Nat → Nat → St → Hp → Prop, (∃ m, W 0 m σ H1) ∧ ∀ i m σ H, W i m σ H →
  (J.stop i H ∧ D.nx σ H) ∨ (J.go i H ∧ ∃ N : St → Hp → Prop, (∀ σ' H', N σ' H' → ∃ m', m' < m ∧ W (i + 1) m' σ' H') ∧ ∀ x H', J.yld i H x H' → g x σ H' fun σ2 H2 => tb { D with nx := N, ct := N, bk := D.nx } σ2 H2)
/-- the records at fp as they stand -/
noncomputable def pinsAt (fp : List Addr) (h : Heap) : List (Addr × Obj) := fp.filterMap fun b => (h.get? b).map fun o => (b, o)
theorem mem_pinsAt {fp : List Addr} {h : Heap} {b : Addr} {o : Obj} (hb : b ∈ fp) (e : h.get? b = some o) : (b, o) ∈ pinsAt fp h := List.mem_filterMap.mpr ⟨b, hb, by rw [e]; rfl⟩
theorem of_pinsAt {fp : List Addr} {h : Heap} {p : Addr × Obj} (hp : p ∈ pinsAt fp h) : p.1 ∈ fp ∧ h.get? p.1 = some p.2 := by
  obtain ⟨b, hb, e⟩ := List.mem_filterMap.mp hp
  cases q : h.get? b with
  | none => rw [q] at e; cases e
  | some o =>
    rw [q] at e
    have e' : (b, o) = p := Option.some.inj e
    subst e'
    exact ⟨hb, q⟩
theorem Inv.pinned {pins : List (Addr × Obj)} {σ : St} {H : Hp} {s : Shared} {fp : List Addr} (I : Inv X pins σ H s) (hf : ∀ b ∈ fp, FpOk X pins H b) (ho : ∀ b ∈ fp, ∃ o, s.heap.get? b = some o ∧ ∀ v, o.data ≠ .cell v) : Inv X (pins ++ pinsAt fp s.heap) σ H s :=
  I.pins_of fun p hp => (List.mem_append.mp hp).elim (fun z => I.pin p (List.mem_append_right _ z)) fun z => by
    obtain ⟨hb, e⟩ := of_pinsAt z
    obtain ⟨f0, f1, f2, _⟩ := hf p.1 hb
    obtain ⟨o, e', d⟩ := ho p.1 hb
    rw [e] at e'; cases e'
    exact ⟨e, f0, f1, f2, d⟩
theorem Inv.unpinned {pins pl : List (Addr × Obj)} {σ : St} {H : Hp} {s : Shared} (I : Inv X (pins ++ pl) σ H s) : Inv X pins σ H s := I.pins_of fun p hp => I.pin p (List.mem_append_right _ (List.mem_append_left _ hp))
theorem ps_for {iter : Expr} {body : List Stmt} {wi : TI} {g : TG} {tb : TS} {pos : Pos} (hp : PassesOwn (model X.prog X.w) X.A X.env X.xe) (hc : X.calm = true) (hi : PI X tg iter wi) (hg : PG X tg g) (hb : PSs X body tb)
    (hs : ∀ x, foldedSetIterable iter X.env x = pure x := by intro _; rfl) : PS X (.For tg iter body [] pos) (tFor wi g tb) := by
  intro pins s σ H D I h
  refine wpAny_For (thn (hi pins s σ H _ I h) fun v s1 h1 => thn h1 fun itv s2 h2 => ?_) hs
  obtain ⟨it, fp, tn, J, H2, e, I2, T, st2, f2, W, ⟨m0, w0⟩, turn⟩ := h2
  subst e
  -- what stays true of the iterator's objects through the loop
  have stat : ∀ {H' : Hp}, (∀ b ∈ fp, H' b = none) → ∀ b ∈ fp, FpOk X pins H' b := fun hn b hb => ⟨hn b hb, (f2 b hb).2⟩
  refine codeAny_forLoop_any (fun n s' => ∃ i σ' H', Inv X pins σ' H' s' ∧ tn i s'.heap ∧ (∀ b ∈ fp, H' b = none) ∧ W i n σ' H') ?_ m0 ⟨0, σ, H2, I2, st2, fun b hb => (f2 b hb).1, w0⟩
  rintro n s3 ⟨i, σ3, H3, I3, st3, fr3, w3⟩
  rcases turn i n σ3 H3 w3 with ⟨stop, qn⟩ | ⟨go, N, hN, step⟩
  · refine wpAny_passesOwn hp (thn (T.done X rfl rfl rfl hc i pins s3 σ3 H3 X.xe I3 (stat fr3) st3 stop) fun r s4 ⟨hr, I4⟩ => ?_)
    subst hr
    exact wpAny_execs_nil ⟨σ3, H3, I4, qn⟩
  · refine wpAny_passesOwn hp (thn (T.item X rfl rfl rfl hc i pins s3 σ3 H3 X.xe I3 (stat fr3) st3 go) fun r s4 ⟨u, hr, h4⟩ => ?_)
    subst hr
    refine wpAny_passesOwn hp (thn h4 fun _ s5 ⟨x, H5, I5, r5, y5, st5, fr5⟩ => ?_)
    have I5' := I5.pinned (stat fr5) (T.obj _ _ st5)
    refine wpAny_passesOwn hp (thn (hg _ s5 σ3 H5 x u _ I5' r5 (step x H5 y5)) fun _ s6 ⟨σ6, H6, I6, q6⟩ => ?_)
    refine wpAny_passesOwn hp (thn (hb _ s6 σ6 H6 _ I6 q6) fun f s7 q7 => ?_)
    have again : ∀ {σ7 : St} {H7 : Hp}, Inv X (pins ++ pinsAt fp s5.heap) σ7 H7 s7 → N σ7 H7 → ∃ m, m < n ∧ ∃ i σ' H', Inv X pins σ' H' s7 ∧ tn i s7.heap ∧ (∀ b ∈ fp, H' b = none) ∧ W i m σ' H' := fun {σ7 H7} I7 n7 => by
      obtain ⟨m', hm, w7⟩ := hN σ7 H7 n7
      refine ⟨m', hm, i + 1, σ7, H7, I7.unpinned, T.keep _ _ _ st5 fun b hb o e => (I7.pin (b, o) (List.mem_append_right _ (List.mem_append_right _ (mem_pinsAt hb e)))).1, fun b hb => ?_, w7⟩
      obtain ⟨o, e, d⟩ := T.obj _ _ st5 b hb
      exact (I7.pin (b, o) (List.mem_append_right _ (List.mem_append_right _ (mem_pinsAt hb e)))).2.1
    cases f with
    | next => obtain ⟨σ7, H7, I7, n7⟩ := q7; exact again I7 n7
    | cont => obtain ⟨σ7, H7, I7, n7⟩ := q7; exact again I7 n7
    | brk => obtain ⟨σ7, H7, I7, q7⟩ := q7; exact ⟨σ7, H7, I7.unpinned, q7⟩
    | ret v => obtain ⟨x7, σ7, H7, I7, r7, q7⟩ := q7; exact ⟨x7, σ7, H7, I7.unpinned, r7, q7⟩
end

end L2

namespace L2
open PySem PySem.Spec PyProof.Rows

noncomputable abbrev R2 := V → V → Hp → VK → Prop
/-- a two-place operation on values: f is binaryOp op, inplaceOp op or compareOp op -/
noncomputable def OpR (X : Cx) (f : Value → Value → Sem Value) (r : R2) : Prop :=
  ∀ (pins : List (Addr × Obj)) (s : Shared) (σ : St) (H : Hp) (x y : V) (v u : Value) (Q : VK), Inv X pins σ H s → RelV x v → RelV y u → r x y H Q →
    wpAny (model X.prog X.w) X.A (f v u) (EP X pins σ Q) X.xe s
/-- a one-place operation -/
noncomputable def UnR (X : Cx) (f : Value → Sem Value) (r : V → Hp → VK → Prop) : Prop :=
  ∀ (pins : List (Addr × Obj)) (s : Shared) (σ : St) (H : Hp) (x : V) (v : Value) (Q : VK), Inv X pins σ H s → RelV x v → r x H Q →
    wpAny (model X.prog X.w) X.A (f v) (EP X pins σ Q) X.xe s
/-- a call of a value that is known (a builtin, a type) with values -/
noncomputable def CallR (X : Cx) (f : Value) (r : List V → Hp → VK → Prop) : Prop :=
  ∀ (pins : List (Addr × Obj)) (s : Shared) (σ : St) (H : Hp) (xs : List V) (us : List Value) (Q : VK), Inv X pins σ H s → Vals xs us → r xs H Q →
    wpAny (model X.prog X.w) X.A (call f us) (EP X pins σ Q) X.xe s
noncomputable def tOp (r : R2) (ta tb : TE) : TE := fun σ H Q => ta σ H fun x H1 => tb σ H1 fun y H2 => r x y H2 Q
noncomputable def tUn (r : V → Hp → VK → Prop) (ta : TE) : TE := fun σ H Q => ta σ H fun x H1 => r x H1 Q
/-- ints in, under C, and a value out -/
noncomputable def rI (C : Int → Int → Prop) (g : Int → Int → V) : R2 := fun x y H Q => ∃ i j, x = .int i ∧ y = .int j ∧ C i j ∧ Q (g i j) H
noncomputable def rI0 (g : Int → Int → V) : R2 := fun x y H Q => ∃ i j, x = .int i ∧ y = .int j ∧ Q (g i j) H
noncomputable def rU (g : Int → V) : V → Hp → VK → Prop := fun x H Q => ∃ i, x = .int i ∧ Q (g i) H

section
variable {X : Cx} {a b c : Expr} {ta tb tc : TE} {pos : Pos}

theorem binT (ha : PE X a ta) (hb : PE X b tb) {pins : List (Addr × Obj)} {s : Shared} {σ : St} {H : Hp} {R : V → V → Hp → Prop} (I : Inv X pins σ H s)
    (h : ta σ H fun x H1 => tb σ H1 fun y H2 => R x y H2) {Q : Value → Shared → Prop} {f : Value → Value → Sem Value}
    (hf : ∀ v u s2 x y H2, Inv X pins σ H2 s2 → RelV x v → RelV y u → R x y H2 → wpAny (model X.prog X.w) X.A (f v u) Q X.xe s2) :
    wpAny (model X.prog X.w) X.A (eval a X.env) (fun v s₁ => wpAny (model X.prog X.w) X.A (eval b X.env) (fun u s₂ => wpAny (model X.prog X.w) X.A (f v u) Q X.xe s₂) X.xe s₁) X.xe s := by
  refine thn (ha pins s σ H _ I h) fun v s1 ⟨x, H1, I1, r1, q1⟩ => ?_
  refine thn (hb pins s1 σ H1 _ I1 q1) fun u s2 ⟨y, H2, I2, r2, q2⟩ => ?_
  exact hf v u s2 x y H2 I2 r1 r2 q2

theorem pe_op {op : Operator} {r : R2} (ho : OpR X (binaryOp op) r) (ha : PE X a ta) (hb : PE X b tb) : PE X (.BinOp a op b pos) (tOp r ta tb) := by
  intro pins s σ H Q I h
  exact wpAny_BinOp (binT ha hb I h fun v u s2 x y H2 I2 rx ry q => ho pins s2 σ H2 x y v u Q I2 rx ry q)
theorem pe_un {op : UnaryOp} {r : V → Hp → VK → Prop} (ho : UnR X (unaryOp op) r) (ha : PE X a ta) : PE X (.UnaryOp op a pos) (tUn r ta) := by
  intro pins s σ H Q I h
  exact UnaryOp_ (thn (ha pins s σ H _ I h) fun v s1 ⟨x, H1, I1, r1, q1⟩ => ho pins s1 σ H1 x v Q I1 r1 q1)
/-! ### ints -/
theorem opI {f : Value → Value → Sem Value} {C : Int → Int → Prop} {g : Int → Int → Int}
    (rule : ∀ (i j : Int) (t u : Tok) (s : Shared) (Q : Value → Shared → Prop) (E : Value → Shared → Prop), C i j → Q (.int (g i j) s.toks) { s with toks := s.toks + 1 } → wpAny (model X.prog X.w) X.A (f (.int i t) (.int j u)) Q E s) :
    OpR X f (rI C fun i j => .int (g i j)) := by
  intro pins s σ H x y v u Q I rx ry h
  obtain ⟨i, j, rfl, rfl, hc, q⟩ := h
  obtain ⟨t, rfl⟩ := rx
  obtain ⟨t', rfl⟩ := ry
  exact rule i j t t' s _ _ hc ⟨.int (g i j), H, I.tok _, ⟨_, rfl⟩, q⟩
theorem opI0 {f : Value → Value → Sem Value} {g : Int → Int → Int}
    (rule : ∀ (i j : Int) (t u : Tok) (s : Shared) (Q : Value → Shared → Prop) (E : Value → Shared → Prop), Q (.int (g i j) s.toks) { s with toks := s.toks + 1 } → wpAny (model X.prog X.w) X.A (f (.int i t) (.int j u)) Q E s) :
    OpR X f (rI0 fun i j => .int (g i j)) := by
  intro pins s σ H x y v u Q I rx ry h
  obtain ⟨i, j, rfl, rfl, q⟩ := h
  obtain ⟨t, rfl⟩ := rx
  obtain ⟨t', rfl⟩ := ry
  exact rule i j t t' s _ _ ⟨.int (g i j), H, I.tok _, ⟨_, rfl⟩, q⟩
theorem opB0 {f : Value → Value → Sem Value} {g : Int → Int → Bool}
    (rule : ∀ (i j : Int) (t u : Tok) (s : Shared) (Q : Value → Shared → Prop) (E : Value → Shared → Prop), Q (.bool (g i j)) s → wpAny (model X.prog X.w) X.A (f (.int i t) (.int j u)) Q E s) :
    OpR X f (rI0 fun i j => .bl (g i j)) := by
  intro pins s σ H x y v u Q I rx ry h
  obtain ⟨i, j, rfl, rfl, q⟩ := h
  obtain ⟨t, rfl⟩ := rx
  obtain ⟨t', rfl⟩ := ry
  exact rule i j t t' s _ _ ⟨.bl (g i j), H, I, rfl, q⟩

noncomputable def CPow (i j : Int) : Prop := 0 ≤ j ∧ j ≤ 1000000 ∧ i.natAbs < 2 ^ 64
noncomputable def CMul (i j : Int) : Prop := (-(2 ^ 64) < i ∧ i < 2 ^ 64) ∨ (-(2 ^ 64) < j ∧ j < 2 ^ 64)
theorem CMul.ok {i j : Int} (h : CMul i j) : IntMulOk i j := by
  rcases h with ⟨h1, h2⟩ | ⟨h1, h2⟩
  · exact .of_left (intBits_le_64 h1 h2)
  · exact .of_right (intBits_le_64 h1 h2)
theorem op_add : OpR X (binaryOp .Add) (rI0 fun i j => .int (i + j)) := opI0 fun _ _ _ _ _ _ _ q => add_int q
theorem op_sub : OpR X (binaryOp .Sub) (rI0 fun i j => .int (i - j)) := opI0 fun _ _ _ _ _ _ _ q => sub_int q
/-- % by a positive divisor of any size -/
theorem op_mod : OpR X (binaryOp .Mod) (rI (fun _ j => 0 < j) fun i j => .int (i % j)) := opI fun i j _ _ _ _ _ hc q => by
  have h1 : (0 : Int) < j := hc
  exact mod_int' (by omega) (by rw [Int.fmod_eq_emod_of_nonneg i (by omega)]; exact q)
theorem op_pow : OpR X (binaryOp .Pow) (rI CPow fun i j => .int (i ^ j.toNat)) := opI fun _ _ _ _ _ _ _ hc q => pow_int_small hc.1 hc.2.1 hc.2.2 q
theorem unI {f : Value → Sem Value} {g : Int → Int}
    (rule : ∀ (i : Int) (t : Tok) (s : Shared) (Q : Value → Shared → Prop) (E : Value → Shared → Prop), Q (.int (g i) s.toks) { s with toks := s.toks + 1 } → wpAny (model X.prog X.w) X.A (f (.int i t)) Q E s) :
    UnR X f (rU fun i => .int (g i)) := by
  intro pins s σ H x v Q I rx h
  obtain ⟨i, rfl, q⟩ := h
  obtain ⟨t, rfl⟩ := rx
  exact rule i t s _ _ ⟨.int (g i), H, I.tok _, ⟨_, rfl⟩, q⟩
theorem un_neg : UnR X (unaryOp .USub) (rU fun i => .int (-i)) := unI fun _ _ _ _ _ q => neg_int q
end

/-! ### comparisons -/
/-- the scalars that == tells apart as data does -/
noncomputable def scal : V → V → Bool
  | .non, .non => true | .non, .int _ => true | .int _, .non => true | .non, .bl _ => true | .bl _, .non => true | .non, .str _ => true | .str _, .non => true
  | .int _, .int _ => true | .bl _, .bl _ => true | .str _, .str _ => true | .byt _, .byt _ => true
  | .int _, .str _ => true | .str _, .int _ => true | .bl _, .str _ => true | .str _, .bl _ => true
  | _, _ => false
noncomputable def rEq : R2 := fun x y H Q => scal x y = true ∧ Q (.bl (decide (x = y))) H
noncomputable def rNe : R2 := fun x y H Q => scal x y = true ∧ Q (.bl (!decide (x = y))) H

theorem dec_int {i j : Int} : decide (V.int i = V.int j) = (i == j) := by
  rw [Bool.eq_iff_iff]
  simp
theorem dec_bl {i j : Bool} : decide (V.bl i = V.bl j) = (i == j) := by
  rw [Bool.eq_iff_iff]
  simp
theorem dec_str {i j : Str} : decide (V.str i = V.str j) = (i == j) := by
  rw [Bool.eq_iff_iff]
  simp
theorem dec_byt {i j : Array UInt8} : decide (V.byt i = V.byt j) = (i.toList == j.toList) := by
  rw [Bool.eq_iff_iff]
  cases i
  cases j
  simp

section
variable {X : Cx} {a b c : Expr} {ta tb tc : TE} {pos : Pos}
theorem fin_bl {pins : List (Addr × Obj)} {σ : St} {H : Hp} {s : Shared} {Q : VK} {k k' : Bool} (I : Inv X pins σ H s) (q : Q (.bl k) H) (e : k = k') : EP X pins σ Q (.bool k') s := by
  subst e
  exact ⟨.bl k, H, I, rfl, q⟩
theorem op_eq : OpR X (compareOp .Eq) rEq := by
  intro pins s σ H x y v u Q I rx ry h
  obtain ⟨hs, q⟩ := h
  cases x with
  | non =>
    cases rx
    cases y with
    | non => cases ry; exact PySem.EqNone.eq_none_none (fin_bl I q (by simp))
    | bl j => cases ry; exact PySem.EqNone.eq_none_bool (fin_bl I q (by simp))
    | int j => obtain ⟨t', rfl⟩ := ry; exact PySem.EqNone.eq_none_int (fin_bl I q (by simp))
    | str j => obtain ⟨t', rfl⟩ := ry; exact PySem.EqNone.eq_none_str (fin_bl I q (by simp))
    | _ => exact absurd (show false = true from hs) Bool.false_ne_true
  | bl i =>
    cases rx
    cases y with
    | non => cases ry; exact PySem.EqNone.eq_bool_none (fin_bl I q (by simp))
    | bl j => cases ry; exact eq_bool (fin_bl I q dec_bl)
    | str j => obtain ⟨t', rfl⟩ := ry; exact PySem.EqMixed.eq_bool_str (fin_bl I q (by simp))
    | _ => exact absurd (show false = true from hs) Bool.false_ne_true
  | int i =>
    obtain ⟨t, rfl⟩ := rx
    cases y with
    | non => cases ry; exact PySem.EqNone.eq_int_none (fin_bl I q (by simp))
    | int j => obtain ⟨t', rfl⟩ := ry; exact eq_int (fin_bl I q dec_int)
    | str j => obtain ⟨t', rfl⟩ := ry; exact PySem.EqMixed.eq_int_str (fin_bl I q (by simp))
    | _ => exact absurd (show false = true from hs) Bool.false_ne_true
  | str i =>
    obtain ⟨t, rfl⟩ := rx
    cases y with
    | non => cases ry; exact PySem.EqNone.eq_str_none (fin_bl I q (by simp))
    | bl j => cases ry; exact PySem.EqMixed.eq_str_bool (fin_bl I q (by simp))
    | int j => obtain ⟨t', rfl⟩ := ry; exact PySem.EqMixed.eq_str_int (fin_bl I q (by simp))
    | str j => obtain ⟨t', rfl⟩ := ry; exact eq_str (fin_bl I q dec_str)
    | _ => exact absurd (show false = true from hs) Bool.false_ne_true
  | byt i =>
    obtain ⟨t, rfl⟩ := rx
    cases y with
    | byt j => obtain ⟨t', rfl⟩ := ry; exact PySem.W.eq_bytes (fin_bl I q dec_byt)
    | _ => exact absurd (show false = true from hs) Bool.false_ne_true
  | _ => cases y <;> exact absurd (show false = true from hs) Bool.false_ne_true
theorem op_ne : OpR X (compareOp .NotEq) rNe := by
  intro pins s σ H x y v u Q I rx ry h
  obtain ⟨hs, q⟩ := h
  cases x with
  | non =>
    cases rx
    cases y with
    | non => cases ry; exact PySem.EqNone.ne_none_none (fin_bl I q (by simp))
    | bl j => cases ry; exact PySem.EqNone.ne_none_bool (fin_bl I q (by simp))
    | int j => obtain ⟨t', rfl⟩ := ry; exact PySem.EqNone.ne_none_int (fin_bl I q (by simp))
    | str j => obtain ⟨t', rfl⟩ := ry; exact PySem.EqNone.ne_none_str (fin_bl I q (by simp))
    | _ => exact absurd (show false = true from hs) Bool.false_ne_true
  | bl i =>
    cases rx
    cases y with
    | non => cases ry; exact PySem.EqNone.ne_bool_none (fin_bl I q (by simp))
    | bl j => cases ry; exact ne_bool (fin_bl I q (congrArg not dec_bl))
    | str j => obtain ⟨t', rfl⟩ := ry; exact PySem.EqMixed.ne_bool_str (fin_bl I q (by simp))
    | _ => exact absurd (show false = true from hs) Bool.false_ne_true
  | int i =>
    obtain ⟨t, rfl⟩ := rx
    cases y with
    | non => cases ry; exact PySem.EqNone.ne_int_none (fin_bl I q (by simp))
    | int j => obtain ⟨t', rfl⟩ := ry; exact ne_int (fin_bl I q (congrArg not dec_int))
    | str j => obtain ⟨t', rfl⟩ := ry; exact PySem.EqMixed.ne_int_str (fin_bl I q (by simp))
    | _ => exact absurd (show false = true from hs) Bool.false_ne_true
  | str i =>
    obtain ⟨t, rfl⟩ := rx
    cases y with
    | non => cases ry; exact PySem.EqNone.ne_str_none (fin_bl I q (by simp))
    | bl j => cases ry; exact PySem.EqMixed.ne_str_bool (fin_bl I q (by simp))
    | int j => obtain ⟨t', rfl⟩ := ry; exact PySem.EqMixed.ne_str_int (fin_bl I q (by simp))
    | str j => obtain ⟨t', rfl⟩ := ry; exact ne_str (fin_bl I q (congrArg not dec_str))
    | _ => exact absurd (show false = true from hs) Bool.false_ne_true
  | byt i =>
    obtain ⟨t, rfl⟩ := rx
    cases y with
    | byt j => obtain ⟨t', rfl⟩ := ry; exact PySem.W.ne_bytes (fin_bl I q (congrArg not dec_byt))
    | _ => exact absurd (show false = true from hs) Bool.false_ne_true
  | _ => cases y <;> exact absurd (show false = true from hs) Bool.false_ne_true

theorem op_lt : OpR X (compareOp .Lt) (rI0 fun i j => .bl (decide (i < j))) := opB0 fun _ _ _ _ _ _ _ q => lt_int q
theorem op_le : OpR X (compareOp .LtE) (rI0 fun i j => .bl (decide (i ≤ j))) := opB0 fun _ _ _ _ _ _ _ q => le_int q
theorem op_gt : OpR X (compareOp .Gt) (rI0 fun i j => .bl (decide (j < i))) := opB0 fun _ _ _ _ _ _ _ q => gt_int q
theorem op_ge : OpR X (compareOp .GtE) (rI0 fun i j => .bl (decide (j ≤ i))) := opB0 fun _ _ _ _ _ _ _ q => ge_int q
/-- the one string within the other -/
theorem op_in_str : OpR X (compareOp .In) (fun x y H Q => ∃ i j, x = .str i ∧ y = .str j ∧ Q (.bl (!(Builtin.Str.occurrences j i 0 j.length 1).isEmpty)) H) := by
  intro pins s σ H x y v u Q I rx ry h
  obtain ⟨i, j, rfl, rfl, q⟩ := h
  obtain ⟨t, rfl⟩ := rx
  obtain ⟨t', rfl⟩ := ry
  exact in_str (fin_bl I q rfl)

/-- two rules for one operation: by cases -/
theorem OpR.or {f : Value → Value → Sem Value} {r r' : R2} (h : OpR X f r) (h' : OpR X f r') : OpR X f (fun x y H Q => r x y H Q ∨ r' x y H Q) := by
  intro pins s σ H x y v u Q I rx ry q
  rcases q with q | q
  · exact h pins s σ H x y v u Q I rx ry q
  · exact h' pins s σ H x y v u Q I rx ry q

theorem nomark (b : Expr) {op : CmpOp} (h : op ≠ .In := by decide) (h2 : op ≠ .NotIn := by decide) : behindInMarks op b = false := by
  have e1 : (op == CmpOp.In) = false := by cases op <;> first | rfl | exact absurd rfl h
  have e2 : (op == CmpOp.NotIn) = false := by cases op <;> first | rfl | exact absurd rfl h2
  cases b <;> simp [behindInMarks, e1, e2]
/-- a comparison as a value; hm: nomark b, or (for in, not in) by with_unfolding_all rfl -/
theorem pe_cmpR {op : CmpOp} {r : R2} (ho : OpR X (compareOp op) r) (ha : PE X a ta) (hb : PE X b tb) (hm : behindInMarks op b = false) : PE X (.Compare a [op] [b] pos) (tOp r ta tb) := by
  intro pins s σ H Q I h
  exact wpAny_Compare1 (binT ha hb I h fun v u s2 x y H2 I2 rx ry q => ho pins s2 σ H2 x y v u Q I2 rx ry q) hm
/-- a reading of a value as a test -/
noncomputable def tTest (t : TE) : TT := fun σ H Q => t σ H fun x H' => ∃ k, x = .bl k ∧ Q k H'
theorem pt_cmpR {op : CmpOp} {r : R2} (ho : OpR X (compareOp op) r) (ha : PE X a ta) (hb : PE X b tb) (hm : behindInMarks op b = false) : PT X (.Compare a [op] [b] pos) (tTest (tOp r ta tb)) := by
  intro pins s σ H Q I h
  refine wpAny_isTrue_Compare1 (thn (ha pins s σ H _ I h) fun v s1 ⟨x, H1, I1, r1, q1⟩ => thn (hb pins s1 σ H1 _ I1 q1) fun u s2 ⟨y, H2, I2, r2, q2⟩ =>
    thn (ho pins s2 σ H2 x y v u _ I2 r1 r2 q2) fun c s3 ⟨z, H3, I3, r3, k, e, q3⟩ => ?_) hm
  subst e
  cases r3
  exact wpAny_truthy_bool ⟨H3, I3, q3⟩
theorem line63 : (sizeLine : Nat) < 2 ^ 63 := by rw [sizeLine_eq]; decide
theorem op_add_str : OpR X (binaryOp .Add) (fun x y H Q => ∃ i j, x = .str i ∧ y = .str j ∧ i.length + j.length ≤ sizeLine ∧ Q (.str (i ++ j)) H) := by
  intro pins s σ H x y v u Q I rx ry h
  obtain ⟨i, j, rfl, rfl, hz, q⟩ := h
  obtain ⟨t, rfl⟩ := rx
  obtain ⟨t', rfl⟩ := ry
  exact add_str (fun t' tk => ⟨.str (i ++ j), H, I.tok _, ⟨_, rfl⟩, q⟩) hz
/-! ### scalar builtins, by CallR -/
theorem vals1 {x : V} {us : List Value} (r : Vals [x] us) : ∃ u, us = [u] ∧ RelV x u := by
  cases r with
  | cons r1 r2 => cases r2; exact ⟨_, rfl, r1⟩
theorem vals2 {x y : V} {us : List Value} (r : Vals [x, y] us) : ∃ u w', us = [u, w'] ∧ RelV x u ∧ RelV y w' := by
  cases r with
  | cons r1 r2 =>
    cases r2 with
    | cons r3 r4 => cases r4; exact ⟨_, _, rfl, r1, r3⟩
theorem call_abs : CallR X (.builtin "abs") (fun xs H Q => ∃ i, xs = [.int i] ∧ Q (.int (if i < 0 then -i else i)) H) := by
  intro pins s σ H xs us Q I r h
  obtain ⟨i, rfl, q⟩ := h
  obtain ⟨u, rfl, t, rfl⟩ := vals1 r
  exact call_abs_int fun u tk => ⟨.int (if i < 0 then -i else i), H, I.tok _, ⟨_, rfl⟩, q⟩
theorem call_str_int : CallR X (.type "str") (fun xs H Q => ∃ i, xs = [.int i] ∧ i.natAbs.log2 < 1920 ∧ Q (.str (toString i)) H) := by
  intro pins s σ H xs us Q I r h
  obtain ⟨i, rfl, hz, q⟩ := h
  obtain ⟨u, rfl, t, rfl⟩ := vals1 r
  exact PySem.P.str_of_int hz ⟨.str _, H, I.tok _, ⟨_, rfl⟩, q⟩
end
end L2

namespace L2
open PySem PySem.Spec PyProof.Rows

/-! ### an instance, its attributes a map -/
structure ObjM (h : Heap) (x dx C : Addr) (mA : Str → Option Value) : Prop where
  obj : h.get? x = some (PySem.W.instObj C dx)
  ns : h.Ns1 dx mA
  ne : dx ≠ x

section
variable {prog : Program} {w : World} {A : Around} {E : Value → Shared → Prop} {s : Shared} {K : PySem.W.Frag} {x dx C f : Addr} {mA : Str → Option Value} {name : Str} {v : Value}

end

section
variable {P : Program} {w : World} {H H' : Hp} {h h' : Heap} {a C dx : Addr} {fs fs' : List (Str × V)}
end

/-! ### what of the text a class must have -/
structure Cls (K : PySem.W.Frag) (C : Addr) : Prop where
  pg : PySem.W.plainGet K C Str.empty = true
  hd : PySem.W.hasDictIn K C = true
  po : PySem.W.plainOver K C = true
  sa : PySem.W.findIn K (.ref C) "__setattr__" = some (some (.builtin "object.__setattr__"))
theorem Cls.get {K : PySem.W.Frag} {C : Addr} (c : Cls K C) (f : Str) : PySem.W.plainGet K C f = true := c.pg
/-- a constant of the class -/
structure Con (K : PySem.W.Frag) (C : Addr) (f : Str) (v : V) (u : Value) : Prop where
  at_ : PySem.W.findIn K (.ref C) f = some (some u)
  rel : RelV v u
  get : PySem.W.specialIn K u "__get__" = some none
  cp : PySem.W.copiedNames.contains f = false
/-- a method: a plain def of the class or of one above it -/
structure Meth (K : PySem.W.Frag) (C : Addr) (m : Str) (f : Addr) : Prop where
  at_ : PySem.W.findIn K (.ref C) m = some (some (.ref f))
  fn : PySem.W.isFn K (.ref f) = true
  kp : PySem.W.keepIn K (.ref f) = true

section
variable {X : Cx} {pins : List (Addr × Obj)} {σ : St} {H : Hp} {s : Shared} {a C dx : Addr} {fs : List (Str × V)} {f : Str} {v : V} {A : Around} {E : Value → Shared → Prop}

/-- a new instance, tracked, without attributes -/
theorem Inv.made (I : Inv X pins σ H s) : Inv X pins σ (upd (upd H s.heap.objs.size (.own (s.heap.objs.size + 1))) (s.heap.objs.size + 1) (.ins C s.heap.objs.size []))
    { s with heap := (s.heap.push PySem.W.emptyDict).push (PySem.W.instObj C s.heap.objs.size) } := by
  have e1 : (s.heap.push PySem.W.emptyDict).get? s.heap.objs.size = some PySem.W.emptyDict := Heap.get?_push_size s.heap rfl
  have e2 : ((s.heap.push PySem.W.emptyDict).push (PySem.W.instObj C s.heap.objs.size)).get? (s.heap.objs.size + 1) = some (PySem.W.instObj C s.heap.objs.size) := by
    have := Heap.get?_push_size (s.heap.push PySem.W.emptyDict) (o := PySem.W.instObj C s.heap.objs.size) rfl
    rwa [Heap.size_push] at this
  have e3 : (s.heap.push PySem.W.emptyDict).Ns s.heap.objs.size (fun _ => none) := ⟨PySem.W.emptyDict, #[], _, e1, rfl, (fun e he => absurd he (by simp)), fun _ => rfl⟩
  have I1 := I.laid (a := s.heap.objs.size) (o := .own (s.heap.objs.size + 1)) (h' := s.heap.push PySem.W.emptyDict) (t' := s.toks) (fun b u q => Heap.get?_push_of_some _ q) (Nat.le_refl _) ⟨_, e1⟩
  refine I1.laid (a := s.heap.objs.size + 1) (o := .ins C s.heap.objs.size []) (t' := s.toks) (fun b u q => Heap.get?_push_of_some _ q) (Nat.le_of_eq (Heap.size_push _ _)) ?_
  have ne : s.heap.objs.size ≠ s.heap.objs.size + 1 := Nat.ne_of_lt (Nat.lt_succ_self _)
  refine ⟨by rw [upd_ne ne, upd_same], Nat.zero_le _, ne, e2, fun _ => none, (Heap.Ns1.of_empty e3).at fun o q => Heap.get?_push_of_some _ q, fun _ => True.intro, fun y hy => absurd rfl hy⟩

end

section
variable {X : Cx} {o e value : Expr} {f : Str} {pos pos' tpos : Pos} {ta tv : TE}
end

/-! ### isinstance -/
section
variable {X : Cx} {pins : List (Addr × Obj)} {σ : St} {H : Hp} {s : Shared} {A : Around} {E : Value → Shared → Prop} {Q : Value → Shared → Prop} {c : Value} {b : Bool}
/-- the type of a value, as the fragment's deciders take it; for an instance its class -/
inductive TyOf (K : PySem.W.Frag) (H : Hp) : V → Value → Prop where
  | non : TyOf K H .non (.type "NoneType")
  | bl (x : Bool) : TyOf K H (.bl x) (.type "bool")
  | int (i : Int) : TyOf K H (.int i) (.type "int")
  | str (x : Str) : TyOf K H (.str x) (.type "str")
  | flt (x : UInt64) : TyOf K H (.flt x) (.type "float")
  | lst {a : Addr} {xs : List V} (e : H a = some (.lst xs)) : TyOf K H (.ref a) (.type "list")
  | frz {a : Addr} {o : Obj} {xs : List V} (e : H a = some (.frz o (.lst xs))) : TyOf K H (.ref a) (.type "list")
  | tup {a : Addr} {xs : List V} (e : H a = some (.tup xs)) : TyOf K H (.ref a) (.type "tuple")
  | dK {a : Addr} {kvs : List (Key × V)} (e : H a = some (.dK kvs)) : TyOf K H (.ref a) (.type "dict")
  | dT {a : Addr} {kvs : List (List Key × V)} (e : H a = some (.dT kvs)) : TyOf K H (.ref a) (.type "dict")
  | ins {a C dx : Addr} {fs : List (Str × V)} (e : H a = some (.ins C dx fs)) (cl : Cls K C) (ha : PySem.W.findIn K (.ref C) "__class__" = some (some (.builtin "object.__class__")))
      (hn : PySem.W.specialIn K (.builtin "object.__class__") "__get__" = some (some (.builtin "getset_descriptor.__get__"))) (htk : PySem.W.takesIn K (.builtin "object.__class__") = some true)
      (hm : PySem.W.mroIn K C (.type "object") = some true) : TyOf K H (.ref a) (.ref C)
end
end L2

namespace L2
open PySem PySem.Spec PyProof.Rows

/-! ### room -/
structure Room (k : Nat) (A : Around) : Prop where
  hd : A.handled = none
  dp : A.depth + 3 * k + 5 < recursionLimit
  un : A.units + 16 * k + 200 < cLine
theorem Room.mono {j k : Nat} {A : Around} (r : Room k A) (h : j ≤ k) : Room j A := ⟨r.hd, by have := r.dp; omega, by have := r.un; omega⟩
theorem Room.deeper {k : Nat} {A : Around} (r : Room (k + 1) A) (env : Env) : Room k (A.deeper env) :=
  ⟨r.hd, by have := r.dp; show A.depth + 1 + 3 * k + 5 < _; omega, by have := r.un; show A.units + 3 + 16 * k + 200 < _; omega⟩
theorem Room.depth {k : Nat} {A : Around} (r : Room k A) : A.depth < recursionLimit := by have := r.dp; omega
theorem Room.units {k : Nat} {A : Around} (r : Room k A) : A.units + 64 < cLine := by have := r.un; omega
/-! ### argument lists and displays -/
noncomputable def tNil : TA := fun _ H Q => Q [] H
noncomputable def tCons (ta : TE) (tr : TA) : TA := fun σ H Q => ta σ H fun x H1 => tr σ H1 fun xs H2 => Q (x :: xs) H2
section
variable {X : Cx} {e : Expr} {es : List Expr} {te : TE} {t : TA} {pos : Pos}
theorem pa_nil : PA X [] tNil := fun _ _ _ _ H Q I h => Calls.spliced_nil ⟨[], H, I, .nil, h⟩
theorem pa_cons (ha : PE X e te) (hr : PA X es t) (hs : starEach (e :: es) X.env = (false, eval e X.env) :: starEach es X.env := by rfl) : PA X (e :: es) (tCons te t) := by
  intro pos pins s σ H Q I h
  rw [hs]
  show wpAny _ _ (spliced ((false, eval e X.env) :: backTo pos (starEach es X.env))) _ _ s
  refine Calls.spliced_cons (thn (ha pins s σ H _ I h) fun u s1 ⟨x, H1, I1, r1, q1⟩ => ?_)
  exact thn (hr pos pins s1 σ H1 _ I1 q1) fun us s2 ⟨xs, H2, I2, r2, q2⟩ => ⟨x :: xs, H2, I2, .cons r1 r2, q2⟩

/-- a tuple, a list of written items -/
noncomputable def tTup (t : TA) : TE := fun σ H Q => t σ H fun xs H1 => xs.length ≤ sizeLine ∧ ∀ p, H1 p = none → Q (.ref p) (upd H1 p (.tup xs))
noncomputable def tLst (t : TA) : TE := fun σ H Q => t σ H fun xs H1 => xs.length ≤ sizeLine ∧ ∀ p, H1 p = none → Q (.ref p) (upd H1 p (.lst xs))
theorem pe_tup {x1} (h : PA X es t) : PE X (.Tuple es x1 pos) (tTup t) := by
  intro pins s σ H Q I hq
  refine wpAny_Tuple_spliced (thn (h pos pins s σ H _ I hq) fun us s1 ⟨xs, H1, I1, r, z, q⟩ => ⟨by rw [← r.length]; exact z, ?_⟩)
  have hf : H1 s1.heap.objs.size = none := I1.hok.fresh (Nat.le_refl _)
  refine ⟨.ref s1.heap.objs.size, upd H1 s1.heap.objs.size (.tup xs), I1.laid (t' := s1.toks) (fun b u e => Heap.get?_push_of_some _ e) (Nat.le_refl _) ?_, rfl, q _ hf⟩
  exact ⟨z, us, r, ⟨_, Heap.get?_push_size _ rfl, rfl, _, rfl⟩⟩
theorem pe_lst (h : PA X es t) : PE X (.List es pos) (tLst t) := by
  intro pins s σ H Q I hq
  refine wpAny_List_spliced (thn (h pos pins s σ H _ I hq) fun us s1 ⟨xs, H1, I1, r, z, q⟩ => ⟨by rw [← r.length]; exact z, ?_⟩)
  have hf : H1 s1.heap.objs.size = none := I1.hok.fresh (Nat.le_refl _)
  refine ⟨.ref s1.heap.objs.size, upd H1 s1.heap.objs.size (.lst xs), I1.laid (t' := s1.toks) (fun b u e => Heap.get?_push_of_some _ e) (Nat.le_refl _) ?_, rfl, q _ hf⟩
  exact ⟨z, us, 0, r, Heap.get?_push_size _ rfl⟩
end

/-! ### what a def promises -/
/-- a def's promise: the bound arguments in the parameters' order, the heap, the wanted end, the wanted exception -/
noncomputable abbrev Sp := List V → Hp → VK → XK → Prop
/-- how an exception lies behind a call (file 08 gives it): the callers' frames, abstract heap and state ahead of the call, the wish, the exception, the state -/
noncomputable abbrev CXT := List Env → Hp → Shared → XK → Value → Shared → Prop

/-- the state at a call -/
structure Env0 (P : Program) (w : World) (K : PySem.W.Frag) (mg : Str → Option Value) (base : Heap) (A : Around) (outer : List Env) (s : Shared) (H : Hp) : Prop where
  frames : A.frames = some outer
  mod : Mod K mg base
  bs : ∀ b o, base.get? b = some o → s.heap.get? b = some o ∧ H b = none
  bsz : base.objs.size ≤ s.heap.objs.size
  funs : s.heap.FunFrames base outer
  frf : ∀ b ∈ frs outer, H b = none
  hok : HOk P w H s.heap
  bare : AllBare s.gens
/-- a call's end -/
noncomputable def CE (outer : List Env) (P : Program) (w : World) (H : Hp) (s : Shared) (Q : VK) (u : Value) (s' : Shared) : Prop :=
  ∃ v H', s'.os = s.os ∧ AllBare s'.gens ∧ Un (frs outer) [] H H' s.heap s'.heap ∧ HOk P w H' s'.heap ∧ RelV v u ∧ Q v H'
noncomputable def CR (CX : CXT) (outer : List Env) (P : Program) (w : World) (H : Hp) (s : Shared) (Q : VK) (E : XK) (r : Result) (s' : Shared) : Prop :=
  match r with
  | .ok (.ret u) => CE outer P w H s Q u s'
  | .ok _ => False
  | .error e => CX outer H s E e s'
structure FnOk (P : Program) (w : World) (K : PySem.W.Frag) (mg : Str → Option Value) (base : Heap) (CX : CXT) (k : Nat) (f : Addr) (fd : FuncData) (ps : List Str) (sp : Sp) : Prop where
  len : ∀ vs H Q E, sp vs H Q E → vs.length = ps.length
  run : ∀ (A : Around) (outer : List Env) (s : Shared) (H : Hp) (args : Args) (us : List Value) (vs : List V) (Q : VK) (E : XK), Room k A → Env0 P w K mg base A outer s H → BindsTo s fd args (ps.zip us) → Vals vs us → sp vs H Q E →
    codeAny (model P w) A (.call (.ref f) args) (CR CX outer P w H s Q E) s
theorem FnOk.mono {P : Program} {w : World} {K : PySem.W.Frag} {mg : Str → Option Value} {base : Heap} {CX : CXT} {j k : Nat} {f : Addr} {fd : FuncData} {ps : List Str} {sp : Sp} (F : FnOk P w K mg base CX j f fd ps sp) (h : j ≤ k) :
    FnOk P w K mg base CX k f fd ps sp := ⟨F.len, fun A outer s H args us vs Q E hr => F.run A outer s H args us vs Q E (hr.mono h)⟩
/-- a weaker promise -/
theorem FnOk.imp {P : Program} {w : World} {K : PySem.W.Frag} {mg : Str → Option Value} {base : Heap} {CX : CXT} {k : Nat} {f : Addr} {fd : FuncData} {ps : List Str} {sp sp' : Sp} (F : FnOk P w K mg base CX k f fd ps sp)
    (h : ∀ vs H Q E, sp' vs H Q E → sp vs H Q E) : FnOk P w K mg base CX k f fd ps sp' :=
  ⟨fun vs H Q E q => F.len vs H Q E (h _ _ _ _ q), fun A outer s H args us vs Q E hr he hb hv hs => F.run A outer s H args us vs Q E hr he hb hv (h _ _ _ _ hs)⟩

section
variable {X : Cx} {pins : List (Addr × Obj)} {σ : St} {H : Hp} {s s' : Shared}
/-- from a body: what a callee wants -/
theorem Inv.env0 (I : Inv X pins σ H s) : Env0 X.prog X.w X.K X.mg X.base X.A X.stack s H :=
  ⟨I.ok.frames, I.ok.mod, I.bs, Nat.le_trans I.ok.bsz I.sz, I.stack, I.stkFree, I.hok, I.bare⟩
/-- behind a call -/
theorem Inv.after {Q : VK} {u : Value} (I : Inv X pins σ H s) (h : CE X.stack X.prog X.w H s Q u s') : EP X pins σ Q u s' := by
  obtain ⟨v, H', os, bare, un, hok, r, q⟩ := h
  obtain ⟨hh, g, d, t, os'⟩ := s'
  obtain rfl : os' = s.os := os
  exact ⟨v, H', I.call (h' := hh) (g' := g) (d' := d) (t' := t) (ch := []) un hok bare (fun b z => absurd z (by simp)), r, q⟩
end

/-! ### calls -/
/-- f(..): the written arguments, then the defaults dvs; E: what is wanted of an exception -/
noncomputable def tCall (sp : Sp) (dvs : List V) (E : XK) (t : TA) : TE := fun σ H Q => t σ H fun vs H1 => sp (vs ++ dvs) H1 Q E
/-- how the parameters are bound: us the positional arguments, kw the keywords' values by name, ds the defaults that fill up -/
noncomputable def Binds (K : PySem.W.Frag) (fd : FuncData) (ps : List Str) (ds : List Value) : Prop :=
  ∀ (s : Shared) (us : List Value), K.In s.heap → (us ++ ds).length = ps.length → BindsTo s fd ⟨us, []⟩ (ps.zip (us ++ ds))
/-- every parameter is given -/
theorem Binds.all {K : PySem.W.Frag} {fd : FuncData} {ps : List Str} (h : ∀ us : List Value, us.length = ps.length → bindArgs fd ⟨us, []⟩ = pure (ps.zip us)) : Binds K fd ps [] := fun s us _ hl => by
  rw [List.append_nil] at hl ⊢
  exact .of_eq (h us hl)

/-- an exception of a callee reaches what this body wants of exceptions -/
noncomputable def Passes (CX : CXT) (X : Cx) (E : XK) : Prop := ∀ (pins : List (Addr × Obj)) (σ : St) (H : Hp) (s : Shared) (e : Value) (s' : Shared), Inv X pins σ H s → CX X.stack H s E e s' → X.xe e s'

section
variable {X : Cx} {CX : CXT} {k : Nat} {f C : Addr} {fd : FuncData} {ps : List Str} {sp : Sp} {dvs : List V} {ds : List Value} {E : XK} {x m : Str} {p pos apos : Pos} {e o : Expr} {es : List Expr} {ta : TE} {t : TA}

/-- the callee runs -/
theorem run_fn {pins : List (Addr × Obj)} {σ : St} {H : Hp} {s : Shared} {Q : VK} {us : List Value} {vs : List V} (F : FnOk X.prog X.w X.K X.mg X.base CX k f fd ps sp) (hr : Room k X.A) (hb : Binds X.K fd ps ds) (hd : Vals dvs ds) (hx : Passes CX X E)
    (I : Inv X pins σ H s) (r : Vals vs us) (h : sp (vs ++ dvs) H Q E) : wpAny (model X.prog X.w) X.A (call (.ref f) us) (EP X pins σ Q) X.xe s := by
  have r2 : Vals (vs ++ dvs) (us ++ ds) := r.append hd
  have hl : (us ++ ds).length = ps.length := by rw [← r2.length]; exact F.len _ _ _ _ h
  refine wpAny_call (codeAny_mono (F.run X.A X.stack s H ⟨us, []⟩ (us ++ ds) (vs ++ dvs) Q E hr I.env0 (hb s us I.kIn hl) r2 h) fun r s' hq => ?_)
  cases r with
  | error e => exact hx pins σ H s e s' I hq
  | ok fl =>
    cases fl with
    | ret u => exact I.after hq
    | next => exact False.elim hq
    | brk => exact False.elim hq
    | cont => exact False.elim hq

theorem pe_call (F : FnOk X.prog X.w X.K X.mg X.base CX k f fd ps sp) (hr : Room k X.A) (hg : Gl X x) (hm : X.mg x = some (.ref f)) (hk : PySem.W.keepIn X.K (.ref f) = true) (hb : Binds X.K fd ps ds) (hd : Vals dvs ds) (hx : Passes CX X E)
    (ha : PA X (e :: es) t) (hdb : (x == ("__debug__" : Str)) = false := by decide) (he : starEach (e :: es) X.env = (false, eval e X.env) :: starEach es X.env := by rfl) (hpl : (backTo pos (starEach es X.env)).any (·.1) = false := by rfl) :
    PE X (.Call (.Name x p) (e :: es) [] pos) (tCall sp dvs E t) := by
  intro pins s σ H Q I h
  refine wpAny_Call_Name_kw (ld_glob I hg hm ?_ hdb)
  refine PySem.W.callWith_K (h₀ := X.base) I.ok.mod.kin hk (thn (ha pos pins s σ H _ I h) fun us s1 ⟨vs, H1, I1, r, q⟩ => ⟨I1.kIn, ?_⟩) he hpl
  exact run_fn F hr hb hd hx I1 r q
/-- what a class must have to be made -/
structure Mk (K : PySem.W.Frag) (C f : Addr) : Prop where
  makes : PySem.W.makesIn K C = true
  init : PySem.W.findIn K (.ref C) "__init__" = some (some (.ref f))
  fn : PySem.W.isFn K (.ref f) = true
  kp : PySem.W.keepIn K (.ref C) = true

end

section
variable {X : Cx} {CX : CXT} {k : Nat} {f C : Addr} {fd : FuncData} {ps ks : List Str} {sp : Sp} {E : XK} {x m : Str} {p pos apos kpos : Pos} {e o : Expr} {es : List Expr} {kws : List Keyword} {te ta : TE} {t tk : TA} {nm : Option Str}
/-- how a call with keywords binds: g puts the positional values us and the keywords' values ws (names ks) in the parameters' order, defaults among them -/
structure KBinds (K : PySem.W.Frag) (fd : FuncData) (ps ks : List Str) (g : List Value → List Value → List Value) (gV : List V → List V → List V) : Prop where
  to : ∀ (s : Shared) (us ws : List Value), K.In s.heap → (g us ws).length = ps.length → BindsTo s fd ⟨us, ks.zip ws⟩ (ps.zip (g us ws))
  rel : ∀ {vs : List V} {us : List Value} {zs : List V} {ws : List Value}, Vals vs us → Vals zs ws → Vals (gV vs zs) (g us ws)
variable {g : List Value → List Value → List Value} {gV : List V → List V → List V}
end

/-! ### a def's body keeps its promise -/
/-- names: the parameters first -/
structure FnScope (N P : List Str) (sc : Scope) : Prop where
  kind : sc.kind = .function
  co : sc.isCoroutine = false
  gen : sc.isGenerator = false
  nd : N.Nodup
  pre : N.take P.length = P
  par : ∀ x ∈ P, sc.names.lookup x = some .local ∨ sc.names.lookup x = some .cell
  nofree : ∀ y ∈ sc.names, y.2 ≠ .free

theorem bindL_out {kindOf : Str → Option NameKind} {x : Str} : ∀ {binds : List (Str × Value)} {m : Str → Option Value}, (∀ v, (x, v) ∉ binds) → bindL kindOf binds m x = m x
  | [], _, _ => rfl
  | (n, v) :: r, m, h => by
    unfold bindL
    rw [bindL_out fun w hw => h w (List.mem_cons_of_mem _ hw)]
    split
    · have : x ≠ n := by rintro rfl; exact h v List.mem_cons_self
      simp [this]
    · rfl
theorem bindC_out {kindOf : Str → Option NameKind} {x : Str} : ∀ {binds : List (Str × Value)} {m : Str → Option Value}, (∀ v, (x, v) ∉ binds) → bindC kindOf binds m x = m x
  | [], _, _ => rfl
  | (n, v) :: r, m, h => by
    unfold bindC
    rw [bindC_out fun w hw => h w (List.mem_cons_of_mem _ hw)]
    split
    · rfl
    · have : x ≠ n := by rintro rfl; exact h v List.mem_cons_self
      simp [this]
theorem bindL_get {kindOf : Str → Option NameKind} {x : Str} {v : Value} : ∀ {P : List Str} {vs : List Value} {i : Nat} {m : Str → Option Value}, P.Nodup → P[i]? = some x → vs[i]? = some v → kindOf x = some .local →
    bindL kindOf (P.zip vs) m x = some v
  | [], _, _, _, _, h, _, _ => by simp at h
  | _ :: _, [], _, _, _, _, h, _ => by simp at h
  | p :: P, w :: vs, 0, m, nd, h1, h2, hk => by
    simp at h1 h2; subst h1; subst h2
    show bindL kindOf ((p, w) :: P.zip vs) m p = _
    unfold bindL
    rw [bindL_out fun v hv => (List.nodup_cons.mp nd).1 (List.of_mem_zip hv).1, if_pos hk]
    simp
  | p :: P, w :: vs, i + 1, m, nd, h1, h2, hk => by
    show bindL kindOf ((p, w) :: P.zip vs) m x = _
    unfold bindL
    exact bindL_get (i := i) (List.nodup_cons.mp nd).2 (by simpa using h1) (by simpa using h2) hk
theorem bindC_get {kindOf : Str → Option NameKind} {x : Str} {v : Value} : ∀ {P : List Str} {vs : List Value} {i : Nat} {m : Str → Option Value}, P.Nodup → P[i]? = some x → vs[i]? = some v → kindOf x ≠ some .local →
    bindC kindOf (P.zip vs) m x = some v
  | [], _, _, _, _, h, _, _ => by simp at h
  | _ :: _, [], _, _, _, _, h, _ => by simp at h
  | p :: P, w :: vs, 0, m, nd, h1, h2, hk => by
    simp at h1 h2; subst h1; subst h2
    show bindC kindOf ((p, w) :: P.zip vs) m p = _
    unfold bindC
    rw [bindC_out fun v hv => (List.nodup_cons.mp nd).1 (List.of_mem_zip hv).1, if_neg hk]
    simp
  | p :: P, w :: vs, i + 1, m, nd, h1, h2, hk => by
    show bindC kindOf ((p, w) :: P.zip vs) m x = _
    unfold bindC
    exact bindC_get (i := i) (List.nodup_cons.mp nd).2 (by simpa using h1) (by simpa using h2) hk

/-- the names' values at the entry -/
noncomputable def start (N : List Str) (vs : List V) : St := vs.map some ++ List.replicate (N.length - vs.length) none

/-- the context of a def's body, at its entry; an exception leaves the frame, then lies as CX says -/
noncomputable def cxOf (CX : CXT) (P : Program) (w : World) (K : PySem.W.Frag) (mg : Str → Option Value) (base : Heap) (N : List Str) (qual : Str) (scope : Scope) (f : Addr) (cd : Value) (A : Around) (outer : List Env) (s : Shared) (H : Hp) (E : XK) : Cx where
  prog := P
  w := w
  K := K
  mg := mg
  base := base
  A := A.deeper (envOfC qual scope s.heap.objs.size f cd)
  N := N
  s₀ := s
  H₀ := H
  env := envOfC qual scope s.heap.objs.size f cd
  outer := outer
  stack := envOfC qual scope s.heap.objs.size f cd :: outer
  ex := []
  calm := true
  fn := fun _ => true
  pn := []
  xe := fun e s' => wpAny (model P w) (A.deeper (envOfC qual scope s.heap.objs.size f cd)) (leaving (envOfC qual scope s.heap.objs.size f cd) e) (fun _ s'' => CX outer H s E e s'') (fun e' s'' => CX outer H s E e' s'') s'

theorem cell_has {sc : Scope} {n : Nat} {x : Str} (h : sc.names.lookup x = some .cell) : ∃ c, (cellsFrom n sc.names []).lookup x = some c := by
  have q := PySem.W.cellsFrom_some sc.names n [] (.inl h)
  exact Option.isSome_iff_exists.mp q

theorem inv_start {CX : CXT} {P : Program} {w : World} {K : PySem.W.Frag} {mg : Str → Option Value} {base : Heap} {N ps : List Str} {qual : Str} {scope : Scope} {f : Addr} {cd : Value} {A : Around} {outer : List Env} {s s1 : Shared} {H : Hp} {E : XK} {us : List Value} {vs : List V}
    (S : FnScope N ps scope) (hd : A.handled = none) (e0 : Env0 P w K mg base A outer s H) (hl : vs.length = ps.length) (r : Vals vs us)
    (x : InCallC s s.heap.objs.size (bindL (envOfC qual scope s.heap.objs.size f cd).kindOf (ps.zip us) fun _ => none) (cellsFrom (s.heap.objs.size + 1) scope.names []) (bindC (envOfC qual scope s.heap.objs.size f cd).kindOf (ps.zip us) fun _ => none) s1) :
    Inv (cxOf CX P w K mg base N qual scope f cd A outer s H E) [] (start N vs) H s1 := by
  have hpl : ps.length ≤ N.length := by have := congrArg List.length S.pre; rw [List.length_take] at this; omega
  obtain ⟨h1, tk, rfl, hk⟩ := x.done
  have noA : ∀ b : Addr, b ∉ (cxOf CX P w K mg base N qual scope f cd A outer s H E).ex := fun b z => absurd (show b ∈ ([] : List Addr) from z) (by simp)
  refine ⟨⟨e0.mod, S.kind, rfl, rfl, Nat.le_refl _, fun y z c h1 h2 => ?_, fun y hy => ?_, fun y c _ h => ?_, fun _ => hd, Around.frames_deeper e0.frames, .inr ⟨rfl, rfl⟩, fun b z => absurd z (noA b), e0.bs, e0.bsz, fun b _ _ => noA b, fun b z => absurd z (noA b), e0.funs, e0.frf⟩,
    rfl, e0.bare, Un.kept hk, ⟨_, x.toInCall.ns, fun i y v h1 h2 h3 => ?_⟩, fun y c h => ⟨_, x.cell y c h⟩, e0.hok.fresh (Nat.le_refl _), fun y c h => ?_, fun p hp => absurd (show p ∈ ([] : List (Addr × Obj)) from hp) (by simp), e0.hok.kept hk, ?_⟩
  · exact name_of_addr x.apart (PySem.mem_of_lookup h1) (PySem.mem_of_lookup h2)
  · have hy : scope.names.lookup y = some .cell ∨ scope.names.lookup y = some .free := hy
    rcases hy with hy | hy
    · exact cell_has hy
    · exact absurd rfl (S.nofree _ (PySem.mem_of_lookup hy))
  · exact Nat.le_of_lt (x.above y c (PySem.mem_of_lookup h))
  · have hi : i < vs.length := by
      unfold start at h2
      by_cases hi : i < vs.length
      · exact hi
      · rw [List.getElem?_append_right (by simpa using hi)] at h2
        rw [List.getElem?_replicate] at h2
        split at h2 <;> cases h2
    have ha : vs[i]? = some v := by
      unfold start at h2
      rw [List.getElem?_append_left (by simpa using hi), List.getElem?_map] at h2
      cases e : vs[i]? with
      | none => rw [e] at h2; cases h2
      | some a => rw [e] at h2; cases h2; rfl
    obtain ⟨u, hu, rv⟩ := r.get ha
    have hp : ps[i]? = some y := by
      rw [← S.pre, List.getElem?_take_of_lt (by omega)]; exact h1
    have ndP : ps.Nodup := by rw [← S.pre]; exact S.nd.sublist (List.take_sublist _ _)
    refine ⟨u, rv, ?_⟩
    rcases S.par y (List.mem_of_getElem? hp) with k | k
    · exact .inl ⟨k, bindL_get ndP hp hu k⟩
    · obtain ⟨c, e⟩ := cell_has (n := s.heap.objs.size + 1) k
      refine .inr ⟨.inl k, c, e, ?_⟩
      have q := x.cell y c e
      rw [bindC_get ndP hp hu (by show scope.names.lookup y ≠ _; rw [k]; decide)] at q
      exact q
  · exact e0.hok.fresh (Nat.le_of_lt (x.above y c (PySem.mem_of_lookup h)))
  · unfold start
    show _ = N.length
    rw [List.length_append, List.length_map, List.length_replicate]
    omega

/-- THE RULE: a def (or a method) of the text, by its body. The body's reading t is chosen for each entry; it is run at the parameters' values -/
theorem fn_of {CX : CXT} {P : Program} {w : World} {K : PySem.W.Frag} {mg : Str → Option Value} {base : Heap} {k : Nat} {f : Addr} {name qual : Str} {params : Arguments} {body : List Stmt} {scope : Scope} {dV kV doc pm cdv ct oc : Value} {an od : Option Addr}
    {osl : Array (Option Value)} {N ps : List Str} {sp : Sp} (lk : K.lookup f = some ⟨oc, od, .func (PySem.W.fnOf name qual params body scope dV kV doc pm an cdv ct), osl⟩) (hcd : PySem.W.codeIn K cdv qual = true) (S : FnScope N ps scope)
    (len : ∀ vs H Q E, sp vs H Q E → vs.length = ps.length)
    (hbody : ∀ (A : Around) (outer : List Env) (s : Shared) (H : Hp) (vs : List V) (Q : VK) (E : XK), Room k (A.deeper (envOfC qual scope s.heap.objs.size f cdv)) → sp vs H Q E →
      ∃ t, PSs (cxOf CX P w K mg base N qual scope f cdv A outer s H E) body t ∧ t { nx := fun _ H' => Q .non H', rt := Q } (start N vs) H) :
    FnOk P w K mg base CX (k + 1) f (PySem.W.fnOf name qual params body scope dV kV doc pm an cdv ct) ps sp := by
  refine ⟨len, fun A outer s H args us vs Q E hr e0 hb r hsp => ?_⟩
  have hl := len _ _ _ _ hsp
  have KX : K.In s.heap := e0.mod.kin.keeps fun b o e => (e0.bs b o e).1
  have lim : s.heap.NoLimit := e0.mod.nolimit.keeps fun b o e => (e0.bs b o e).1
  have hkind : ∀ y ∈ ps.zip us, scope.names.lookup y.1 = some .local ∨ (scope.names.lookup y.1 = some .cell ∧ ((cellsFrom (s.heap.objs.size + 1) scope.names []).lookup y.1).isSome = true) := fun ⟨n, v⟩ hy => by
    rcases S.par n (List.of_mem_zip hy).1 with q | q
    · exact .inl q
    · exact .inr ⟨q, PySem.W.cellsFrom_some _ _ _ (.inl q)⟩
  refine codeAny_call_function hr.depth (KX _ _ lk) rfl S.co S.gen rfl (PySem.W.codeRec_of KX hcd) (hb _ _ _ _ ?_)
  refine wpAny_newFunctionEnv_cells S.kind hkind fun env he s1 x => ?_
  subst he
  refine ⟨lim.keeps x.toInCall.keep, codeAny_func ?_⟩
  obtain ⟨t, ht, hq⟩ := hbody A outer s H vs Q E (hr.deeper _) hsp
  have I : Inv (cxOf CX P w K mg base N qual scope f cdv A outer s H E) [] (start N vs) H s1 := inv_start S hr.hd e0 hl r x
  refine wpAny_mono (ht [] s1 (start N vs) H _ I hq) (fun fl s' hs => ?_) fun e s' hs => hs
  have fin : ∀ {σ' : St} {H' : Hp} {v : V} {u : Value}, Inv (cxOf CX P w K mg base N qual scope f cdv A outer s H E) [] σ' H' s' → RelV v u → Q v H' → CE outer P w H s Q u s' :=
    fun {σ' H' v u} J rv q => ⟨v, H', J.os, J.bare, J.base, J.hok, rv, q⟩
  cases fl with
  | ret u =>
    obtain ⟨v, σ', H', J, rv, q⟩ := hs
    exact fin J rv q
  | next =>
    obtain ⟨σ', H', J, q⟩ := hs
    exact fin (v := V.non) (u := Value.none) J rfl q
  | brk =>
    obtain ⟨_, _, _, q⟩ := hs
    exact False.elim q
  | cont =>
    obtain ⟨_, _, _, q⟩ := hs
    exact False.elim q
end L2

namespace L2
open PySem PySem.Spec PyProof.Rows
section
variable {X : Cx} {x : Str} {p pos : Pos} {e : Expr} {es : List Expr} {t : TA} {id T : String} {r : List V → Hp → VK → Prop}

noncomputable def tCB (r : List V → Hp → VK → Prop) (t : TA) : TE := fun σ H Q => t σ H fun vs H1 => r vs H1 Q
/-- f(e, ..), f a built-in function -/
theorem pe_callB (hc : CallR X (.builtin id) r) (hg : Gl X x) (hm : X.mg x = none) (hv : bootBuiltins x = some (.builtin id)) (ha : PA X (e :: es) t) (hn : x ≠ "__name__" := by decide) (hdb : (x == ("__debug__" : Str)) = false := by decide)
    (he : starEach (e :: es) X.env = (false, eval e X.env) :: starEach es X.env := by rfl) (hpl : (backTo pos (starEach es X.env)).any (·.1) = false := by rfl) : PE X (.Call (.Name x p) (e :: es) [] pos) (tCB r t) := by
  intro pins s σ H Q I h
  refine wpAny_Call_Name_kw (ld_blt I hg hm hv ?_ hn hdb)
  exact PyProof.Rows.callWith_builtin1 (thn (ha pos pins s σ H _ I h) fun us s1 ⟨vs, H1, I1, r1, q1⟩ => hc pins s1 σ H1 vs us Q I1 r1 q1) he hpl
/-- T(e, ..), T a built-in type -/
theorem pe_callTy (hc : CallR X (.type T) r) (hg : Gl X x) (hm : X.mg x = none) (hv : bootBuiltins x = some (.type T)) (ha : PA X (e :: es) t) (hn : x ≠ "__name__" := by decide) (hdb : (x == ("__debug__" : Str)) = false := by decide)
    (he : starEach (e :: es) X.env = (false, eval e X.env) :: starEach es X.env := by rfl) (hpl : (backTo pos (starEach es X.env)).any (·.1) = false := by rfl) : PE X (.Call (.Name x p) (e :: es) [] pos) (tCB r t) := by
  intro pins s σ H Q I h
  refine wpAny_Call_Name_kw (ld_blt I hg hm hv ?_ hn hdb)
  exact PyProof.Rows.callWith_type1 (thn (ha pos pins s σ H _ I h) fun us s1 ⟨vs, H1, I1, r1, q1⟩ => hc pins s1 σ H1 vs us Q I1 r1 q1) he hpl
end
end L2

namespace HT
open PySem PyProof.Rows

section
open PySem.SeqAt
open PySem.AutoSeq1 (wpAny_loadPart')
open PySem.MeetsSeq PySem.MeetsSeq2 PySem.MeetsSeq3

end

section
variable {prog : Program} {w : World} {A : Around} {E : Value → Shared → Prop} {s : Shared}

/-- t + u, t not empty -/
theorem cat_tup {t b : Addr} {vs ws : List Value} {Q : Value → Shared → Prop} (ht : IsTup s.heap t vs.toArray) (hb : IsTup s.heap b ws.toArray) (hv : vs ≠ [])
    (h1 : ws = [] → Q (.ref t) s) (h2 : ws ≠ [] → Q (.ref s.heap.objs.size) { s with heap := s.heap.push { cls := .type "tuple", data := .seq (vs ++ ws).toArray } })
    (hsz : vs.length + ws.length ≤ sizeLine) : wpAny (model prog w) A (binaryOp .Add (.ref t) (.ref b)) Q E s := by
  obtain ⟨⟨cls, dd, data, sl⟩, ho, hc, n, hd⟩ := id ht
  obtain ⟨⟨cls2, dd2, data2, sl2⟩, ho2, hc2, n2, hd2⟩ := id hb
  simp only at hc hd hc2 hd2
  subst hc hd hc2 hd2
  have e : vs.toArray ++ ws.toArray = (vs ++ ws).toArray := by simp
  by_cases hw : ws = []
  · exact concat_meets ⟨_, ho, rfl⟩ ⟨_, ho2, rfl⟩ noFill_tuple_add seq_tuple_add PySem.F.slot_tuple_add PySem.F.entry_tuple_add (PySem.F.args_tuple_add_2 _ _)
      (tuple_addW1 t b vs.toArray ws.toArray n n2 dd dd2 sl sl2 (by simpa using hv) (by simp [hw])) ⟨ho, ho2, h1 hw⟩
  · refine concat_meets ⟨_, ho, rfl⟩ ⟨_, ho2, rfl⟩ noFill_tuple_add seq_tuple_add PySem.F.slot_tuple_add PySem.F.entry_tuple_add (PySem.F.args_tuple_add_2 _ _)
      (tuple_addW2 t b vs.toArray ws.toArray n n2 dd dd2 sl sl2 (by simpa using hv) (by simpa using hw) (by rw [List.size_toArray, List.size_toArray]; exact hsz)) ⟨ho, ho2, ?_⟩
    rw [e]
    exact h2 hw

/-! ### t[a:b], not the whole -/
/-- a slice's bound as a place among n (d where it is left out) -/
noncomputable def sIx (n d : Nat) : Option Int → Nat
  | none => d
  | some v => if v < 0 then (v + (n : Int)).toNat else min v.toNat n
theorem sIx_le (n d : Nat) (hd : d ≤ n) (o : Option Int) : sIx n d o ≤ n := by
  cases o with
  | none => exact hd
  | some v =>
    show (if v < 0 then (v + (n : Int)).toNat else min v.toNat n) ≤ n
    by_cases hv : v < 0
    · rw [if_pos hv]; omega
    · rw [if_neg hv]; exact Nat.min_le_right _ _
theorem clip_eq (v : Int) (n d : Nat) : (if v < 0 then max (v + (n : Int)) 0 else min v (n : Int)) = ((sIx n d (some v) : Nat) : Int) := by
  show (if v < 0 then max (v + (n : Int)) 0 else min v (n : Int)) = (((if v < 0 then (v + (n : Int)).toNat else min v.toNat n) : Nat) : Int)
  by_cases hv : v < 0
  · simp only [if_pos hv]; omega
  · simp only [if_neg hv]; omega
theorem adjust_gen (lo hi : Option Int) (n : Nat) : Builtin.Slice.sliceAdjust lo hi 1 (n : Int) = (((sIx n 0 lo : Nat) : Int), ((sIx n n hi : Nat) : Int)) := by
  have h1 : ¬ ((1 : Int) < 0) := by omega
  unfold Builtin.Slice.sliceAdjust
  simp only [h1, if_false]
  refine Prod.ext ?_ ?_
  · cases lo with
    | none => rfl
    | some v => exact clip_eq v n 0
  · cases hi with
    | none => rfl
    | some v => exact clip_eq v n n
theorem places_gen (i j : Nat) : Builtin.Slice.slicePlaces (i : Int) (j : Int) 1 = j - i := by
  unfold Builtin.Slice.slicePlaces
  have h1 : (1 : Int) > 0 := by omega
  simp only [h1, if_true, Int.ediv_one]
  split <;> omega
theorem slicePart_ {v : Value} {o : Option Int} {Q : Option Int → Shared → Prop} (p : IsPart v o) (h : Q o s) : wpAny (model prog w) A (Builtin.Slice.slicePartIndex v) Q E s := by
  cases p with
  | none => exact slicePart_none h
  | int i t => exact slicePart_int h
theorem sliceApplied_gen {sl : Addr} {vl vu : Value} {lo hi : Option Int} {n : Nat} {Q : Int × Int × Nat → Shared → Prop} (hs : s.heap.IsSliceOf sl vl vu .none) (pl : IsPart vl lo) (pu : IsPart vu hi)
    (h : Q (((sIx n 0 lo : Nat) : Int), 1, sIx n n hi - sIx n 0 lo) s) : wpAny (model prog w) A (Builtin.Slice.sliceApplied (.ref sl) (pure (n : Int))) Q E s := by
  obtain ⟨os, hos, hcs, hds⟩ := id hs
  unfold Builtin.Slice.sliceApplied Builtin.Slice.sliceFields
  refine wpAny_bind (wpAny_bind (wpAny_field hos hds (x := vl) rfl (wpAny_bind (wpAny_field hos hds (x := vu) rfl (wpAny_bind (wpAny_field hos hds (x := .none) rfl (wpAny_pure ?_)))))))
  refine wpAny_bind (slicePart_none ?_)
  show wpAny _ _ (if ((1 : Int) == 0) = true then _ else _) _ _ s
  rw [if_neg (by decide)]
  refine wpAny_bind (slicePart_ pl (wpAny_bind (slicePart_ pu (wpAny_bind (wpAny_pure ?_)))))
  show wpAny _ _ (match Builtin.Slice.sliceAdjust lo hi 1 (n : Int) with | (lo, hi) => pure (lo, (1 : Int), Builtin.Slice.slicePlaces lo hi 1)) _ _ s
  rw [adjust_gen lo hi n]
  show wpAny _ _ (pure (((sIx n 0 lo : Nat) : Int), (1 : Int), Builtin.Slice.slicePlaces ((sIx n 0 lo : Nat) : Int) ((sIx n n hi : Nat) : Int) 1)) _ _ s
  rw [places_gen]
  exact wpAny_pure h
theorem pick_gen (xs : Array Value) (i k : Nat) : ((List.range k).filterMap fun (m : Nat) => xs[((i : Int) + (m : Int) * 1).toNat]?).toArray = ((xs.toList.drop i).take k).toArray := by
  have e : (fun (m : Nat) => xs[((i : Int) + (m : Int) * 1).toNat]?) = fun m => xs[i + m]? := by
    funext m
    have : ((i : Int) + (m : Int) * 1).toNat = i + m := by omega
    rw [this]
  rw [e]
  have := pick_run xs i k
  rw [List.filterMap_map] at this
  have e2 : ((fun x => xs[x]?) ∘ fun x => i + x) = fun m => xs[i + m]? := rfl
  rw [e2] at this
  rw [this]

theorem getItem_tuple_cut {t sl : Addr} {items : Array Value} {vl vu : Value} {lo hi : Option Int} {Q : Value → Shared → Prop} (ht : IsTup s.heap t items) (hs : s.heap.IsSliceOf sl vl vu .none) (pl : IsPart vl lo) (pu : IsPart vu hi)
    (hw : ¬ (sIx items.size 0 lo = 0 ∧ sIx items.size items.size hi = items.size))
    (h : Q (.ref s.heap.objs.size) { s with heap := s.heap.push { cls := .type "tuple", data := .seq ((items.toList.drop (sIx items.size 0 lo)).take (sIx items.size items.size hi - sIx items.size 0 lo)).toArray } })
    (hsz : items.size ≤ sizeLine) : wpAny (model prog w) A (getItem (.ref t) (.ref sl)) Q E s := by
  have htake : sizeOk (.seq ((items.toList.drop (sIx items.size 0 lo)).take (sIx items.size items.size hi - sIx items.size 0 lo)).toArray) := by
    show ((items.toList.drop (sIx items.size 0 lo)).take (sIx items.size items.size hi - sIx items.size 0 lo)).toArray.size ≤ sizeLine
    rw [List.size_toArray, List.length_take, List.length_drop, Array.length_toList]
    omega
  have hj : sIx items.size items.size hi ≤ items.size := sIx_le _ _ (Nat.le_refl _) hi
  obtain ⟨os, hos, hcs, hds⟩ := id hs
  have hTs : s.TypeIs (.ref sl) "slice" := ⟨os, hos, hcs⟩
  unfold getItem
  try with_reducible refine wpAny_holding ?_
  first | refine wpAny_bind (wpAny_pure ?_) | skip
  refine wpAny_bind (wpAny_sequenceKey ht.typeIs (by decide) ?_)
  refine wpAny_bind (wpAny_callSpecial?_slot (name := Str.ofString "__getitem__") ht.typeIs PyProof.Rows.slot_tuple_getitem
    (wpAny_call_entry PyProof.Rows.slot_tuple_getitem ht.typeIs entry_tuple_getitem ?_ (args_tuple_getitem _ _)))
  show wpAny _ _ (Builtin.Tuple.tupleItemsOf (.ref t) >>= _) _ _ s
  refine wpAny_bind (tupleItemsOf_ ht ?_)
  refine wpAny_bind (wpAny_typeOf hTs ?_)
  rw [if_pos (by decide)]
  refine wpAny_bind (sliceApplied_gen hs pl pu ?_)
  have hno : ¬ ((((sIx items.size 0 lo : Nat) : Int) == 0 && (1 : Int) == 1 && (sIx items.size items.size hi - sIx items.size 0 lo) == items.size) = true) := by
    intro q
    rw [Bool.and_eq_true, Bool.and_eq_true] at q
    have q1 : ((sIx items.size 0 lo : Nat) : Int) = 0 := eq_of_beq q.1.1
    have q2 : sIx items.size items.size hi - sIx items.size 0 lo = items.size := eq_of_beq q.2
    exact hw ⟨by omega, by omega⟩
  show wpAny _ _ (if (((sIx items.size 0 lo : Nat) : Int) == 0 && (1 : Int) == 1 && (sIx items.size items.size hi - sIx items.size 0 lo) == items.size) = true then _ else _) _ _ s
  rw [if_neg hno, pick_gen]
  first
    | exact wpAny_bind (m := Builtin.Tuple.tupleExact _) (wpAny_newObj_type (wpAny_pure ⟨_, rfl, wpAny_pure h⟩) htake)
    | exact wpAny_bind (m := Builtin.Tuple.tupleExact _) (wpAny_newObj_type (wpAny_bind (wpAny_pure (wpAny_pure ⟨_, rfl, wpAny_pure h⟩))) htake)
    | exact wpAny_bind (wpAny_bind (m := Builtin.Tuple.tupleExact _) (wpAny_newObj_type (wpAny_pure (wpAny_pure ⟨_, rfl, wpAny_pure h⟩)) htake))
    | exact wpAny_bind (wpAny_bind (m := Builtin.Tuple.tupleExact _) (wpAny_newObj_type (wpAny_pure ⟨_, rfl, wpAny_pure h⟩) htake))
end
end HT

namespace L2
open PySem PySem.Spec PyProof.Rows

/-! ### the parts of a slice -/
noncomputable abbrev TO := St → Hp → (Option Int → Hp → Prop) → Prop
/-- a slice's part (left out, or an int) -/
noncomputable def PO (X : Cx) (e : Option Expr) (t : TO) : Prop :=
  ∀ (pins : List (Addr × Obj)) (s : Shared) (σ : St) (H : Hp) (Q : Option Int → Hp → Prop), Inv X pins σ H s → t σ H Q →
    wpAny (model X.prog X.w) X.A (evalPart e X.env) (fun u s' => ∃ o H', Inv X pins σ H' s' ∧ IsPart u o ∧ Q o H') X.xe s
noncomputable def tNoPart : TO := fun _ H Q => Q none H
noncomputable def tPart (t : TE) : TO := fun σ H Q => t σ H fun x H1 => ∃ i, x = .int i ∧ Q (some i) H1

theorem intsAre_of {ns : List Int} : ∀ {us : List Value}, Vals (ns.map V.int) us → IntsAre us ns := by
  induction ns with
  | nil => intro us r; rw [List.map_nil] at r; cases r; exact .nil
  | cons n ns ih =>
    intro us r
    rw [List.map_cons] at r
    cases r with
    | cons r1 r2 =>
      obtain ⟨t, e⟩ := r1
      subst e
      exact .cons n t (ih r2)

section
variable {X : Cx} {e : Expr} {te : TE} {lo hi : Option Expr} {tl th : TO} {pos p2 : Pos}

theorem po_none : PO X none tNoPart := by
  intro pins s σ H Q I h
  rw [evalPart_none]
  exact wpAny_pure ⟨none, H, I, .none, h⟩
theorem po_some (h : PE X e te) : PO X (some e) (tPart te) := by
  intro pins s σ H Q I hw
  rw [evalPart_some]
  refine thn (h pins s σ H _ I hw) fun u s1 ⟨x, H1, I1, r1, q1⟩ => ?_
  obtain ⟨i, rfl, q⟩ := q1
  obtain ⟨t, rfl⟩ := r1
  exact ⟨some i, H1, I1, .int i t, q⟩

/-- what a slice of a value is, by values: the slice object stands at sl -/
noncomputable def SlR (X : Cx) (r : V → Option Int → Option Int → Hp → VK → Prop) : Prop :=
  ∀ (pins : List (Addr × Obj)) (s : Shared) (σ : St) (H : Hp) (x : V) (v vl vu : Value) (lo hi : Option Int) (sl : Addr) (Q : VK), Inv X pins σ H s → RelV x v → s.heap.IsSliceOf sl vl vu .none → IsPart vl lo → IsPart vu hi → r x lo hi H Q →
    ∃ T id, typeLookup (.type T) "__getitem__" = pure (some (.builtin id)) ∧ s.TypeIs v T ∧ wpAny (model X.prog X.w) X.A (getItem v (.ref sl)) (EP X pins σ Q) X.xe s
theorem SlR.or {r r' : V → Option Int → Option Int → Hp → VK → Prop} (h : SlR X r) (h' : SlR X r') : SlR X (fun x lo hi H Q => r x lo hi H Q ∨ r' x lo hi H Q) := by
  intro pins s σ H x v vl vu lo hi sl Q I rx hs pl pu q
  rcases q with q | q
  · exact h pins s σ H x v vl vu lo hi sl Q I rx hs pl pu q
  · exact h' pins s σ H x v vl vu lo hi sl Q I rx hs pl pu q
noncomputable def tSl (r : V → Option Int → Option Int → Hp → VK → Prop) (te : TE) (tl th : TO) : TE := fun σ H Q => te σ H fun x H1 => tl σ H1 fun l H2 => th σ H2 fun u H3 => r x l u H3 Q
/-- a[lo:hi], any a -/
theorem pe_slice {r : V → Option Int → Option Int → Hp → VK → Prop} (hr : SlR X r) (he : PE X e te) (hl : PO X lo tl) (hu : PO X hi th) : PE X (.Subscript e (.Slice lo hi none p2) pos) (tSl r te tl th) := by
  intro pins s σ H Q I h
  refine Subscript_ (thn (he pins s σ H _ I h) fun v s1 ⟨x, H1, I1, r1, q1⟩ => ?_)
  refine wpAny_Slice (thn (hl pins s1 σ H1 _ I1 q1) fun vl s2 ⟨l, H2, I2, pl, q2⟩ => thn (hu pins s2 σ H2 _ I2 q2) fun vu s3 ⟨u, H3, I3, pu, q3⟩ => ?_)
  rw [evalPart_none]
  refine wpAny_pure ?_
  have I4 : Inv X pins σ H3 { s3 with heap := s3.heap.push { cls := .type "slice", data := .fields #[vl, vu, .none] } } := I3.kept (t' := s3.toks) fun b ob q => Heap.get?_push_of_some _ q
  obtain ⟨T, id, hT, ht, hg⟩ := hr pins { s3 with heap := s3.heap.push { cls := .type "slice", data := .fields #[vl, vu, .none] } } σ H3 x v vl vu l u s3.heap.objs.size Q I4 r1 (Heap.IsSliceOf.new ..) pl pu q3
  show wpAny (model X.prog X.w) X.A (subscriptTail e (.Slice lo hi none p2) v (.ref s3.heap.objs.size)) (EP X pins σ Q) X.xe { s3 with heap := s3.heap.push { cls := .type "slice", data := .fields #[vl, vu, .none] } }
  exact tail_any (ops := [.ref s3.heap.objs.size, v]) ht hT hg (by with_unfolding_all rfl)

/-- the items of xs[lo:hi] -/
noncomputable def cutV (xs : List V) (lo hi : Option Int) : List V := (xs.drop (HT.sIx xs.length 0 lo)).take (HT.sIx xs.length xs.length hi - HT.sIx xs.length 0 lo)
theorem cutV_length (xs : List V) (lo hi : Option Int) : (cutV xs lo hi).length ≤ xs.length := by
  unfold cutV
  rw [List.length_take, List.length_drop]
  omega
/-- t[lo:hi], not the whole of it (the whole would be t itself) -/
noncomputable def rSlT (K : PySem.W.Frag) : V → Option Int → Option Int → Hp → VK → Prop := fun x lo hi H Q => ∃ a xs, x = .ref a ∧ SqT K H a xs ∧
  ¬ (HT.sIx xs.length 0 lo = 0 ∧ HT.sIx xs.length xs.length hi = xs.length) ∧ ∀ p, H p = none → Q (.ref p) (upd H p (.tup (cutV xs lo hi)))
theorem sl_tup : SlR X (rSlT X.K) := by
  intro pins s σ H x v vl vu lo hi sl Q I rx hs pl pu h
  obtain ⟨a, xs, rfl, hx, hw, q⟩ := h
  cases rx
  obtain ⟨its, r, ht, hz⟩ := I.tuple hx
  have hlen : its.toArray.size = xs.length := by rw [List.size_toArray]; exact r.length.symm
  refine ⟨"tuple", _, PyProof.Rows.slot_tuple_getitem.lookup, ht.typeIs, ?_⟩
  refine HT.getItem_tuple_cut ht hs pl pu (by rw [hlen]; exact hw) ?_ (by rw [hlen]; exact hz)
  rw [hlen]
  refine ⟨.ref s.heap.objs.size, _, I.laid (t' := s.toks) (o := .tup (cutV xs lo hi)) (fun b ob q => Heap.get?_push_of_some _ q) (Nat.le_refl _) ?_, rfl, q _ (I.hok.fresh (Nat.le_refl _))⟩
  exact ⟨Nat.le_trans (cutV_length xs lo hi) hz, _, (r.drop (HT.sIx xs.length 0 lo)).take (HT.sIx xs.length xs.length hi - HT.sIx xs.length 0 lo), IsTup.new _ _⟩

/-- t + u, t not empty: u empty gives t itself -/
noncomputable def rCatT (K : PySem.W.Frag) : R2 := fun x y H Q => ∃ a b xs ys, x = .ref a ∧ y = .ref b ∧ SqT K H a xs ∧ SqT K H b ys ∧ xs ≠ [] ∧ xs.length + ys.length ≤ sizeLine ∧
  (ys = [] → Q (.ref a) H) ∧ (ys ≠ [] → ∀ p, H p = none → Q (.ref p) (upd H p (.tup (xs ++ ys))))
theorem Vals.nil_iff {xs : List V} {us : List Value} (r : Vals xs us) : us = [] ↔ xs = [] := by
  cases r with
  | nil => simp
  | cons _ _ => simp
theorem op_catT : OpR X (binaryOp .Add) (rCatT X.K) := by
  intro pins s σ H x y v u Q I rx ry h
  obtain ⟨a, b, xs, ys, rfl, rfl, ha, hb, hx, hz, q1, q2⟩ := h
  cases rx
  cases ry
  obtain ⟨its, r1, p1, _⟩ := I.tuple ha
  obtain ⟨its2, r2, p2, _⟩ := I.tuple hb
  refine HT.cat_tup p1 p2 (fun z => hx (r1.nil_iff.mp z)) (fun z => ⟨.ref a, H, I, rfl, q1 (r2.nil_iff.mp z)⟩) (fun z => ?_) (by rw [← r1.length, ← r2.length]; exact hz)
  refine ⟨.ref s.heap.objs.size, _, I.laid (t' := s.toks) (o := .tup (xs ++ ys)) (fun b ob q => Heap.get?_push_of_some _ q) (Nat.le_refl _) ?_, rfl, q2 (fun w => z (r2.nil_iff.mpr w)) _ (I.hok.fresh (Nat.le_refl _))⟩
  exact ⟨by rw [List.length_append]; exact hz, _, r1.append r2, IsTup.new _ _⟩
end
end L2

namespace L2
open PySem PySem.Spec PyProof.Rows

/-! ### places -/
/-- the place that an index of any sign means -/
noncomputable def ixN (n : Nat) (i : Int) : Option Nat := if 0 ≤ i then (if i < n then some i.toNat else none) else if -(n : Int) ≤ i then some (i + n).toNat else none
noncomputable def atI {α : Type} (xs : List α) (i : Int) : Option α := (ixN xs.length i).bind fun j => xs[j]?
theorem ixN_seq {n : Nat} {i : Int} {j : Nat} (h : ixN n i = some j) : seqIndex? i n = some j ∧ j < n ∧ -(n : Int) ≤ i ∧ i < n := by
  unfold ixN at h
  by_cases h0 : 0 ≤ i
  · rw [if_pos h0] at h
    by_cases h1 : i < n
    · rw [if_pos h1] at h
      have e : i.toNat = j := Option.some.inj h
      exact ⟨by rw [seqIndex_of h0 h1, e], by omega, by omega, h1⟩
    · rw [if_neg h1] at h; cases h
  · rw [if_neg h0] at h
    by_cases h1 : -(n : Int) ≤ i
    · rw [if_pos h1] at h
      have e : (i + n).toNat = j := Option.some.inj h
      exact ⟨by rw [seqIndex_neg (by omega) h1, e], by omega, h1, by omega⟩
    · rw [if_neg h1] at h; cases h
theorem atI_get {α : Type} {xs : List α} {i : Int} {v : α} (h : atI xs i = some v) : ∃ j, seqIndex? i xs.length = some j ∧ xs[j]? = some v ∧ j < xs.length ∧ -(xs.length : Int) ≤ i ∧ i < xs.length := by
  unfold atI at h
  cases e : ixN xs.length i with
  | none => rw [e] at h; cases h
  | some j =>
    rw [e] at h
    obtain ⟨h1, h2, h3, h4⟩ := ixN_seq e
    exact ⟨j, h1, h, h2, h3, h4⟩
/-! ### what may be subscripted -/
/-- what stands as an index of a plain subscript -/
noncomputable def PlainIx (b : Expr) : Prop := ∀ o i, subscripted b false o i = operate [o, i] (getItem o i)
/-- a subscript by values -/
noncomputable def IxR (X : Cx) (r : R2) : Prop :=
  ∀ (value slice : Expr) (pins : List (Addr × Obj)) (s : Shared) (σ : St) (H : Hp) (x y : V) (v u : Value) (Q : VK), Inv X pins σ H s → RelV x v → RelV y u → r x y H Q →
    subscripted slice false v u = operate [v, u] (getItem v u) → wpAny (model X.prog X.w) X.A (subscriptTail value slice v u) (EP X pins σ Q) X.xe s
/-- a call of a builtin's method by values: the receiver, the arguments -/
noncomputable def MtR (X : Cx) (id : String) (r : V → List V → Hp → VK → Prop) : Prop :=
  ∀ (pins : List (Addr × Obj)) (s : Shared) (σ : St) (H : Hp) (x : V) (xs : List V) (v : Value) (us : List Value) (Q : VK), Inv X pins σ H s → RelV x v → Vals xs us → r x xs H Q →
    wpAny (model X.prog X.w) X.A (call (.builtin id) (v :: us)) (EP X pins σ Q) X.xe s
section
variable {X : Cx} {a b : Expr} {ta tb : TE} {pos : Pos}
theorem IxR.or {r r' : R2} (h : IxR X r) (h' : IxR X r') : IxR X (fun x y H Q => r x y H Q ∨ r' x y H Q) := by
  intro value slice pins s σ H x y v u Q I rx ry q hs
  rcases q with q | q
  · exact h value slice pins s σ H x y v u Q I rx ry q hs
  · exact h' value slice pins s σ H x y v u Q I rx ry q hs
theorem MtR.or {id : String} {r r' : V → List V → Hp → VK → Prop} (h : MtR X id r) (h' : MtR X id r') : MtR X id (fun x xs H Q => r x xs H Q ∨ r' x xs H Q) := by
  intro pins s σ H x xs v us Q I rx rs q
  rcases q with q | q
  · exact h pins s σ H x xs v us Q I rx rs q
  · exact h' pins s σ H x xs v us Q I rx rs q
/-- a[b] -/
theorem pe_ix {r : R2} (hr : IxR X r) (ha : PE X a ta) (hb : PE X b tb) (hs : PlainIx b) : PE X (.Subscript a b pos) (tOp r ta tb) := by
  intro pins s σ H Q I h
  exact Subscript_ (binT ha hb I h fun v u s2 x y H2 I2 rx ry q => hr a b pins s2 σ H2 x y v u Q I2 rx ry q (hs _ _))

noncomputable def rIxL (K : PySem.W.Frag) : R2 := fun x y H Q => ∃ p xs i v, x = .ref p ∧ y = .int i ∧ SqL K H p xs ∧ atI xs i = some v ∧ Q v H
noncomputable def rIxT (K : PySem.W.Frag) : R2 := fun x y H Q => ∃ p xs i v, x = .ref p ∧ y = .int i ∧ SqT K H p xs ∧ atI xs i = some v ∧ Q v H
theorem ix_list : IxR X (rIxL X.K) := by
  intro value slice pins s σ H x y v u Q I rx ry h hs
  obtain ⟨p, xs, i, z, rfl, rfl, hq, he, q⟩ := h
  cases rx
  obtain ⟨t, rfl⟩ := ry
  obtain ⟨its, r, pl, hz⟩ := I.list hq
  obtain ⟨j, h1, h2, h3, h4, h5⟩ := atI_get he
  obtain ⟨w, ew, rw'⟩ := r.get h2
  have hl := r.length
  have hn := line63
  have fin : EP X pins σ Q w s := ⟨z, H, I, rw', q⟩
  by_cases h0 : 0 ≤ i
  · have hj : i.toNat = j := by
      rw [seqIndex_of h0 h5] at h1
      exact Option.some.inj h1
    exact item_listR pl.isList h0 (by omega) (by rw [hj]; simpa using ew) fin hs
  · have hj : (i + (its.toArray.size : Int)).toNat = j := by
      rw [seqIndex_neg (by omega) h4] at h1
      rw [List.size_toArray, ← hl]
      exact Option.some.inj h1
    exact subscriptTail_builtinR (x := w) pl.isList.typeIs slot_list_getitem.lookup
      (wpAny_getItem_list_neg (Q := fun r s' => r = w ∧ EP X pins σ Q r s') pl.isList (by omega) (by rw [List.size_toArray] <;> omega) (by omega) (by rw [hj]; simpa using ew) ⟨rfl, fin⟩) hs
theorem ix_tup : IxR X (rIxT X.K) := by
  intro value slice pins s σ H x y v u Q I rx ry h hs
  obtain ⟨p, xs, i, z, rfl, rfl, hq, he, q⟩ := h
  cases rx
  obtain ⟨t, rfl⟩ := ry
  obtain ⟨its, r, pl, hz⟩ := I.tuple hq
  obtain ⟨j, h1, h2, h3, h4, h5⟩ := atI_get he
  obtain ⟨w, ew, rw'⟩ := r.get h2
  have hl := r.length
  have hn := line63
  have fin : EP X pins σ Q w s := ⟨z, H, I, rw', q⟩
  exact subscriptTail_builtinR (x := w) pl.typeIs slot_tuple_getitem.lookup
    (getItem_tuple (j := j) (Q := fun r s' => r = w ∧ EP X pins σ Q r s') pl (by omega) (by omega) (by rw [List.size_toArray, ← hl]; exact h1) (by simpa using ew) ⟨rfl, fin⟩) hs
/-! ### xs[i] = v, any sign -/
/-- the list's object behind a store -/
theorem mapSeq_set (its : List Value) (n j : Nat) (u : Value) : Obj.mapSeq (·.setIfInBounds j u) { cls := .type "list", data := .seq its.toArray n } = { cls := .type "list", data := .seq (its.set j u).toArray n } := by
  simp [Obj.mapSeq]
theorem Inv.lst {pins : List (Addr × Obj)} {σ : St} {H : Hp} {s : Shared} {p : Addr} {xs : List V} (I : Inv X pins σ H s) (h : H p = some (.lst xs)) :
    ∃ (its : List Value) (n : Nat), Vals xs its ∧ s.heap.get? p = some { cls := .type "list", data := .seq its.toArray n } ∧ xs.length ≤ sizeLine := by
  obtain ⟨z, its, n, r, e⟩ := I.hok p _ h
  exact ⟨its, n, r, e, z⟩
/-- the list at p is written by an update of its object -/
theorem Inv.lstUpd {pins : List (Addr × Obj)} {σ : St} {H : Hp} {s : Shared} {p : Addr} {xs ys : List V} {its its' : List Value} {n n' : Nat} {f : Obj → Obj} (I : Inv X pins σ H s) (h : H p = some (.lst xs))
    (ho : s.heap.get? p = some { cls := .type "list", data := .seq its.toArray n }) (hf : f { cls := .type "list", data := .seq its.toArray n } = { cls := .type "list", data := .seq its'.toArray n' }) (r : Vals ys its') (hz : ys.length ≤ sizeLine) (t : Nat) :
    Inv X pins σ (upd H p (.lst ys)) { s with heap := s.heap.update p f, toks := t } := by
  have e : (s.heap.update p f).get? p = some { cls := .type "list", data := .seq its'.toArray n' } := by
    rw [Heap.get?_update_self f ho (by rw [hf] <;> rfl), hf]
  refine I.write (x := p) (e := p) (by rw [h]; trivial) (.inl rfl) (fun b u hb q => (Heap.get?_update_other _ _ (Ne.symm hb)).trans q) ⟨_, e⟩ ?_
  exact ⟨hz, its', n', r, e⟩
noncomputable def rSetL : V → V → V → Hp → (Hp → Prop) → Prop := fun o i v H Q => ∃ p xs k j, o = .ref p ∧ i = .int k ∧ H p = some (.lst xs) ∧ ixN xs.length k = some j ∧ Q (upd H p (.lst (xs.set j v)))
theorem set_list : PSet X rSetL := by
  intro pins s σ H o i v ov iv u Q I ro ri rv h
  obtain ⟨p, xs, k, j, rfl, rfl, hp, hj, q⟩ := h
  cases ro
  obtain ⟨t, rfl⟩ := ri
  obtain ⟨its, n, r, ho, hz⟩ := I.lst hp
  obtain ⟨h1, h2, h3, h4⟩ := ixN_seq hj
  have hl := r.length
  have hn := line63
  have I' : Inv X pins σ (upd H p (.lst (xs.set j v))) { s with heap := s.heap.update p (Obj.mapSeq (·.setIfInBounds j u)) } :=
    I.lstUpd hp ho (mapSeq_set its n j u) (r.set rv j) (by rw [List.length_set]; exact hz) s.toks
  by_cases h0 : 0 ≤ k
  · have hk : k.toNat = j := by
      rw [seqIndex_of h0 h4] at h1
      exact Option.some.inj h1
    exact PySem.W.ki_setAt ho h0 (by omega) (by rw [List.size_toArray, ← hl]; exact h4) (by rw [hk]; exact ⟨_, I', q⟩)
  · have hk : (k + (its.toArray.size : Int)).toNat = j := by
      rw [seqIndex_neg (by omega) h3] at h1
      rw [List.size_toArray, ← hl]
      exact Option.some.inj h1
    exact PySem.W.ki_setBack ho (by omega) (by rw [List.size_toArray, ← hl]; exact h3) (by omega) (by rw [hk]; exact ⟨_, I', q⟩)

/-! ### slices -/
theorem slice_bounds (lo hi : Option Int) (n : Nat) : (sliceBounds lo hi none n).1 = ((HT.sIx n 0 lo : Nat) : Int) ∧ (sliceBounds lo hi none n).2.1 = ((HT.sIx n n hi : Nat) : Int) ∧ (sliceBounds lo hi none n).2.2 = 1 := by
  refine ⟨?_, ?_, rfl⟩
  · cases lo with
    | none => simp [sliceBounds, HT.sIx]
    | some i =>
      simp only [sliceBounds, HT.sIx, Option.getD_none, show (1 : Int) > 0 by decide, if_true]
      by_cases h : i < 0
      · simp only [h, if_true] <;> omega
      · simp only [h, if_false] <;> omega
  · cases hi with
    | none => simp [sliceBounds, HT.sIx]
    | some i =>
      simp only [sliceBounds, HT.sIx, Option.getD_none, show (1 : Int) > 0 by decide, if_true]
      by_cases h : i < 0
      · simp only [h, if_true] <;> omega
      · simp only [h, if_false] <;> omega
theorem slicePick_cut (its : List Value) (lo hi : Option Int) : slicePick its.toArray lo hi none = ((its.drop (HT.sIx its.length 0 lo)).take (HT.sIx its.length its.length hi - HT.sIx its.length 0 lo)).toArray := by
  obtain ⟨h1, h2, h3⟩ := slice_bounds lo hi its.toArray.size
  unfold slicePick
  rw [h1, h2, h3]
  simp only [sliceRange_one, pick_run, List.size_toArray] <;> rfl
/-- xs[lo:hi] of a list: a new list -/
noncomputable def rSlL (K : PySem.W.Frag) : V → Option Int → Option Int → Hp → VK → Prop := fun x lo hi H Q => ∃ a xs, x = .ref a ∧ SqL K H a xs ∧ ∀ p, H p = none → Q (.ref p) (upd H p (.lst (cutV xs lo hi)))
theorem sl_list : SlR X (rSlL X.K) := by
  intro pins s σ H x v vl vu lo hi sl Q I rx hs pl pu h
  obtain ⟨a, xs, rfl, hx, q⟩ := h
  cases rx
  obtain ⟨its, r, ht, hz⟩ := I.list hx
  have hlen := r.length
  refine ⟨"list", _, slot_list_getitem.lookup, ht.isList.typeIs, ?_⟩
  refine wpAny_getItem_list_slice ht.isList hs pl pu .none (by simp) ?_ (by rw [List.size_toArray] <;> omega)
  rw [slicePick_cut, ← hlen]
  refine ⟨.ref s.heap.objs.size, _, I.laid (t' := s.toks) (o := .lst (cutV xs lo hi)) (fun b ob q => Heap.get?_push_of_some _ q) (Nat.le_refl _) ?_, rfl, q _ (I.hok.fresh (Nat.le_refl _))⟩
  exact ⟨Nat.le_trans (cutV_length xs lo hi) hz, _, 0, (r.drop (HT.sIx xs.length 0 lo)).take (HT.sIx xs.length xs.length hi - HT.sIx xs.length 0 lo), Heap.get?_push_size _ rfl⟩

/-! ### in, not in: flat items -/
noncomputable def flatV : V → Bool
  | .non => true
  | .bl _ => true
  | .int _ => true
  | .str _ => true
  | _ => false
/-- == of flat values -/
noncomputable def eqV : V → V → Bool
  | .non, .non => true
  | .bl a, .bl b => a == b
  | .bl a, .int b => (if a then 1 else 0) == b
  | .int a, .bl b => a == (if b then 1 else 0)
  | .int a, .int b => a == b
  | .str a, .str b => a == b
  | _, _ => false
theorem eqAt_V {A : Around} {s : Shared} {y x : V} {u v : Value} (ry : RelV y u) (rx : RelV x v) (fy : flatV y = true) (fx : flatV x = true) : SeqAt.EqAt A s u v (eqV y x) := by
  cases y with
  | non =>
    cases ry
    cases x with
    | non => cases rx; exact SeqAt.EqAt.same _
    | bl b => cases rx; exact SeqAt.EqAt.none_bool b
    | int b => obtain ⟨t, rfl⟩ := rx; exact SeqAt.EqAt.none_int b t
    | str b => obtain ⟨t, rfl⟩ := rx; exact SeqAt.EqAt.none_str b t
    | _ => exact absurd (show false = true from fx) Bool.false_ne_true
  | bl a =>
    cases ry
    cases x with
    | non => cases rx; exact SeqAt.EqAt.bool_none a
    | bl b => cases rx; exact SeqAt.EqAt.bool_bool a b
    | int b => obtain ⟨t, rfl⟩ := rx; exact SeqAt.EqAt.bool_int a b t
    | str b => obtain ⟨t, rfl⟩ := rx; exact SeqAt.EqAt.bool_str a b t
    | _ => exact absurd (show false = true from fx) Bool.false_ne_true
  | int a =>
    obtain ⟨t', rfl⟩ := ry
    cases x with
    | non => cases rx; exact SeqAt.EqAt.int_none a t'
    | bl b => cases rx; exact SeqAt.EqAt.int_bool a t' b
    | int b => obtain ⟨t, rfl⟩ := rx; exact SeqAt.EqAt.int_int a t' b t
    | str b => obtain ⟨t, rfl⟩ := rx; exact SeqAt.EqAt.int_str a t' b t
    | _ => exact absurd (show false = true from fx) Bool.false_ne_true
  | str a =>
    obtain ⟨t', rfl⟩ := ry
    cases x with
    | non => cases rx; exact SeqAt.EqAt.str_none a t'
    | bl b => cases rx; exact SeqAt.EqAt.str_bool a t' b
    | int b => obtain ⟨t, rfl⟩ := rx; exact SeqAt.EqAt.str_int a t' b t
    | str b => obtain ⟨t, rfl⟩ := rx; exact SeqAt.EqAt.str_str a t' b t
    | _ => exact absurd (show false = true from fx) Bool.false_ne_true
  | _ => exact absurd (show false = true from fy) Bool.false_ne_true
/-- the items' answers, read off the values (a value's own answer does not lean on its token) -/
noncomputable def eqU (x : V) (u : Value) : Bool := match u with
  | .none => eqV .non x
  | .bool b => eqV (.bl b) x
  | .int i _ => eqV (.int i) x
  | .str z _ => eqV (.str z) x
  | _ => false
theorem eqU_of {x y : V} {u : Value} (r : RelV y u) (f : flatV y = true) : eqU x u = eqV y x := by
  cases y with
  | non => cases r; rfl
  | bl b => cases r; rfl
  | int i => obtain ⟨t, rfl⟩ := r; rfl
  | str z => obtain ⟨t, rfl⟩ := r; rfl
  | _ => exact absurd (show false = true from f) Bool.false_ne_true
theorem any_eqU {x : V} : ∀ {xs : List V} {us : List Value}, Vals xs us → xs.all flatV = true → us.any (eqU x) = xs.any fun y => eqV y x
  | _, _, .nil, _ => rfl
  | y :: xs, u :: us, .cons r t, f => by
    rw [List.all_cons, Bool.and_eq_true] at f
    rw [List.any_cons, List.any_cons, eqU_of r f.1, any_eqU t f.2]
theorem mem_eqAt {A : Around} {s : Shared} {x : V} {v : Value} (rx : RelV x v) (fx : flatV x = true) : ∀ {xs : List V} {us : List Value}, Vals xs us → xs.all flatV = true → ∀ u ∈ us, SeqAt.EqAt A s u v (eqU x u)
  | _, _, .nil, _ => fun u hu => by cases hu
  | y :: xs, u :: us, .cons r t, f => fun u' hu => by
    rw [List.all_cons, Bool.and_eq_true] at f
    rcases List.mem_cons.mp hu with rfl | hu
    · rw [eqU_of r f.1]; exact eqAt_V r rx f.1 fx
    · exact mem_eqAt rx fx t f.2 u' hu
noncomputable def inV (x : V) (xs : List V) : Bool := xs.any fun y => eqV y x
/-- x in a list or tuple of flat items -/
noncomputable def rIn (K : PySem.W.Frag) (neg : Bool) : R2 := fun x y H Q => ∃ p xs, y = .ref p ∧ (SqL K H p xs ∨ SqT K H p xs) ∧ flatV x = true ∧ xs.all flatV = true ∧ Q (.bl (if neg then !inV x xs else inV x xs)) H
theorem op_in_seq : OpR X (compareOp .In) (rIn X.K false) := by
  intro pins s σ H x y v u Q I rx ry h
  obtain ⟨p, xs, rfl, hq, fx, fs, q⟩ := h
  cases ry
  rcases hq with hq | hq
  · obtain ⟨its, r, pl, hz⟩ := I.list hq
    refine SeqAt.in_listAt (eqU x) pl.isList (fun w hw => mem_eqAt rx fx r fs w (by simpa using hw)) ⟨.bl _, H, I, rfl, ?_⟩
    rw [show its.toArray.any (eqU x) = its.any (eqU x) by simp, any_eqU r fs]
    exact q
  · obtain ⟨its, r, pl, hz⟩ := I.tuple hq
    refine SeqAt.in_tupleAt (eqU x) pl (fun w hw => mem_eqAt rx fx r fs w (by simpa using hw)) ⟨.bl _, H, I, rfl, ?_⟩
    rw [show its.toArray.any (eqU x) = its.any (eqU x) by simp, any_eqU r fs]
    exact q
/-! ### len, list(x), tuple(x) of any list or tuple that is read -/
theorem call_len_seq : CallR X (.builtin "len") (fun xs H Q => ∃ p ys, xs = [.ref p] ∧ (SqL X.K H p ys ∨ SqT X.K H p ys) ∧ Q (.int ys.length) H) := by
  intro pins s σ H xs us Q I r h
  obtain ⟨p, ys, rfl, hq, q⟩ := h
  obtain ⟨u, rfl, rx⟩ := vals1 r
  cases rx
  have hn := line63
  rcases hq with hq | hq
  · obtain ⟨its, r', pl, hz⟩ := I.list hq
    have hlen := r'.length
    exact Calls.call_len_list pl.isList (by simp only [List.size_toArray] <;> omega) ⟨.int ys.length, H, I.tok _, ⟨s.toks + 1, by rw [List.size_toArray, hlen]⟩, q⟩
  · obtain ⟨its, r', pl, hz⟩ := I.tuple hq
    have hlen := r'.length
    exact len_tuple pl (by simp only [List.size_toArray] <;> omega) ⟨.int ys.length, H, I.tok _, ⟨s.toks + 1, by rw [List.size_toArray, hlen]⟩, q⟩
theorem call_len_str : CallR X (.builtin "len") (fun xs H Q => ∃ z, xs = [.str z] ∧ z.length ≤ sizeLine ∧ Q (.int z.length) H) := by
  intro pins s σ H xs us Q I r h
  obtain ⟨z, rfl, hz, q⟩ := h
  obtain ⟨u, rfl, t, rfl⟩ := vals1 r
  have hn := line63
  exact len_str (by omega) ⟨.int z.length, H, I.tok _, ⟨_, rfl⟩, q⟩
theorem CallR.or {f : Value} {r r' : List V → Hp → VK → Prop} (h : CallR X f r) (h' : CallR X f r') : CallR X f (fun xs H Q => r xs H Q ∨ r' xs H Q) := by
  intro pins s σ H xs us Q I rs q
  rcases q with q | q
  · exact h pins s σ H xs us Q I rs q
  · exact h' pins s σ H xs us Q I rs q
theorem call_tuple_of : CallR X (.type "tuple") (fun xs H Q => ∃ p ys, xs = [.ref p] ∧ ((SqL X.K H p ys ∧ ∀ l, H l = none → Q (.ref l) (upd H l (.tup ys))) ∨ (SqT X.K H p ys ∧ Q (.ref p) H))) := by
  intro pins s σ H xs us Q I r h
  obtain ⟨p, ys, rfl, h⟩ := h
  obtain ⟨u, rfl, rx⟩ := vals1 r
  cases rx
  rcases h with ⟨hq, q⟩ | ⟨hq, q⟩
  · obtain ⟨its, r', pl, hz⟩ := I.list hq
    have hlen := r'.length
    refine call_tuple_list pl.isList (fun h' kp => ?_) (by simp only [List.size_toArray] <;> omega)
    have I1 : Inv X pins σ H { s with heap := h' } := I.kept (t' := s.toks) kp
    have I2 : Inv X pins σ (upd H h'.objs.size (.tup ys)) { s with heap := h'.push { cls := .type "tuple", data := .seq its.toArray } } :=
      I1.laid (t' := s.toks) (fun b o e => Heap.get?_push_of_some _ e) (Nat.le_refl _) (show ObjOk X.prog X.w _ _ _ (.tup ys) from ⟨hz, its, r', IsTup.new _ _⟩)
    exact ⟨.ref h'.objs.size, _, I2, rfl, q _ (I1.hok.fresh (Nat.le_refl _))⟩
  · obtain ⟨its, r', pl, hz⟩ := I.tuple hq
    exact call_tuple_same pl ⟨.ref p, H, I, rfl, q⟩

/-! ### the call of a builtin's method: o.m(..) -/
/-- the value is of that builtin type -/
noncomputable def tyV (K : PySem.W.Frag) (T : String) (x : V) (H : Hp) : Prop := match x with
  | .str _ => T = "str"
  | .int _ => T = "int"
  | .ref p => (T = "list" ∧ ∃ xs, SqL K H p xs) ∨ (T = "tuple" ∧ ∃ o, K.lookup p = some o ∧ o.cls = .type "tuple" ∧ o.dict = none) ∨
      (T = "dict" ∧ ((∃ kvs, H p = some (.dK kvs)) ∨ ∃ kvs, H p = some (.dT kvs))) ∨ (T = "set" ∧ ∃ S n, H p = some (.set S n))
  | _ => False
theorem tyV_is {pins : List (Addr × Obj)} {σ : St} {H : Hp} {s : Shared} {T : String} {x : V} {v : Value} (I : Inv X pins σ H s) (r : RelV x v) (ty : tyV X.K T x H) :
    s.TypeIs v T ∧ ∀ a, v = .ref a → ∃ ob, s.heap.get? a = some ob ∧ ob.dict = none := by
  cases x with
  | str z =>
    obtain ⟨t, rfl⟩ := r
    cases (show T = "str" from ty)
    exact ⟨typeIs_str s z t, fun _ e => nomatch e⟩
  | int i =>
    obtain ⟨t, rfl⟩ := r
    cases (show T = "int" from ty)
    exact ⟨typeIs_int s i t, fun _ e => nomatch e⟩
  | ref p =>
    cases r
    rcases ty with ⟨rfl, xs, hq⟩ | ⟨rfl, o, hk, hc, hd⟩ | ⟨rfl, hk⟩ | ⟨rfl, S, n, hk⟩
    · obtain ⟨its, _, pl, _⟩ := I.list hq
      refine ⟨pl.isList.typeIs, fun a e => ?_⟩
      cases e
      obtain ⟨o, n, e, c, hd, _⟩ := pl
      exact ⟨o, e, hd⟩
    · refine ⟨⟨o, I.kIn p o hk, hc⟩, fun a e => ?_⟩
      cases e
      exact ⟨o, I.kIn _ o hk, hd⟩
    · have z : ∃ o, s.heap.get? p = some o ∧ o.ExactDict := by
        rcases hk with ⟨kvs, hk⟩ | ⟨kvs, hk⟩
        · obtain ⟨_, _, _, _, o, _, _, e, ex, _⟩ := I.hok p _ hk
          exact ⟨o, e, ex⟩
        · obtain ⟨_, _, _, _, o, _, _, e, ex, _⟩ := I.hok p _ hk
          exact ⟨o, e, ex⟩
      obtain ⟨o, e, ex⟩ := z
      refine ⟨⟨o, e, ex.1⟩, fun a e2 => ?_⟩
      cases e2
      exact ⟨o, e, ex.2.1⟩
    · obtain ⟨o, _, _, _, e, ex, _⟩ := I.hok p _ hk
      refine ⟨⟨o, e, ex.1⟩, fun a e2 => ?_⟩
      cases e2
      exact ⟨o, e, ex.2.1⟩
  | _ => exact False.elim ty
noncomputable def tBM (K : PySem.W.Frag) (T : String) (r : V → List V → Hp → VK → Prop) (to : TE) (t : TA) : TE := fun σ H Q => to σ H fun x H1 => tyV K T x H1 ∧ t σ H1 fun xs H2 => r x xs H2 Q
variable {o e : Expr} {es : List Expr} {to : TE} {t : TA} {name : Str} {apos cpos : Pos} {T id : String} {r : V → List V → Hp → VK → Prop}
theorem pe_bm (pa : PlainAttrs T) (slot : Slot T name id) (hty : typeOf (.builtin id) = pure (.type "method_descriptor")) (hm : MtR X id r) (ho : PE X o to) (ha : PA X (e :: es) t)
    (hbase : attributeBase o name X.env (eval o X.env) = eval o X.env := by rfl)
    (hfew : ((backTo cpos (starEach (e :: es) X.env)).all (fun x => !x.1) && (backToKw cpos (keywordEach [] X.env)).all (fun x => x.1.isSome)
      && decide ((e :: es).length + ([] : List Keyword).length + (if ([] : List Keyword).isEmpty then 0 else 1) < 30)) = true := by rfl)
    (hline : (apos.endLine == cpos.line) = true := by rfl) (hs : starEach (e :: es) X.env = (false, eval e X.env) :: starEach es X.env := by rfl) (hplain : (backTo cpos (starEach es X.env)).any (·.1) = false := by rfl) :
    PE X (.Call (.Attribute o name apos) (e :: es) [] cpos) (tBM X.K T r to t) := by
  intro pins s σ H Q I h
  refine wpAny_Call_method_late hbase hfew hline rfl (thn (ho pins s σ H _ I h) fun v s1 ⟨x, H1, I1, r1, ty, q1⟩ => ?_)
  obtain ⟨h1, h2⟩ := tyV_is I1 r1 ty
  refine ⟨T, id, pa, slot, hty, h1, h2, ?_⟩
  have hA := ha cpos pins s1 σ H1 _ I1 q1
  rw [hs] at hA ⊢
  refine Calls.callWith_builtin (by show (false || (backTo cpos (starEach es X.env)).any (·.1)) = false; rw [hplain] <;> rfl) (Calls.evalArgs_plain ?_)
  exact thn hA fun us s2 ⟨vs, H2, I2, r2, q2⟩ => hm pins s2 σ H2 x vs v us Q I2 r1 r2 q2
/- xs.append(e), list.index on a module's tuple .. are MtR facts of 06m -/
end
end L2

namespace L2
open PySem PySem.Spec PyProof.Rows

noncomputable def MtM (X : Cx) (id : String) (r : V → List V → Hp → VK → Prop) : Prop :=
  ∀ (pins : List (Addr × Obj)) (s : Shared) (σ : St) (H : Hp) (x : V) (xs : List V) (v : Value) (us : List Value) (Q : VK), Inv X pins σ H s → RelV x v → Vals xs us → r x xs H Q →
    wpAny (model X.prog X.w) X.A (call (.builtin id) (v :: us)) (EP X pins σ Q) X.xe s

/-! ### lists of values -/
theorem Vals.one : ∀ {x : V} {us : List Value}, Vals [x] us → ∃ u, us = [u] ∧ RelV x u
  | _, _, .cons r .nil => ⟨_, rfl, r⟩
theorem Vals.two : ∀ {x y : V} {us : List Value}, Vals [x, y] us → ∃ u v, us = [u, v] ∧ RelV x u ∧ RelV y v
  | _, _, _, .cons r (.cons q .nil) => ⟨_, _, rfl, r, q⟩
theorem Vals.zero : ∀ {us : List Value}, Vals [] us → us = []
  | _, .nil => rfl
theorem Vals.reverse {xs : List V} {us : List Value} (h : Vals xs us) : Vals xs.reverse us.reverse := by
  induction h with
  | nil => exact .nil
  | cons r t ih => rw [List.reverse_cons, List.reverse_cons]; exact Vals.append ih (.cons r .nil)
theorem Vals.rep {xs : List V} {us : List Value} (h : Vals xs us) : ∀ k : Nat, Vals (List.replicate k xs).flatten (List.replicate k us).flatten
  | 0 => .nil
  | k + 1 => by
    rw [List.replicate_succ, List.replicate_succ, List.flatten_cons, List.flatten_cons]
    exact Vals.append h (Vals.rep h k)
theorem foldl_rep (its : List Value) : ∀ (k : Nat) (acc : List Value),
    List.foldl (fun x1 x2 => x1 ++ x2) acc.toArray (List.replicate k its.toArray) = (acc ++ (List.replicate k its).flatten).toArray
  | 0, acc => by simp
  | k + 1, acc => by
    have e : acc.toArray ++ its.toArray = (acc ++ its).toArray := by simp
    have e2 : (acc ++ its) ++ (List.replicate k its).flatten = acc ++ (List.replicate (k + 1) its).flatten := by
      rw [List.replicate_succ, List.flatten_cons, List.append_assoc]
    rw [← e2, ← foldl_rep its k (acc ++ its), ← e, List.replicate_succ, List.foldl_cons]

section
variable {X : Cx} {pins : List (Addr × Obj)} {σ : St} {H : Hp} {s : Shared} {l b : Addr} {xs ys zs : List V}

/-! ### the two steps: a tracked list is rewritten, a new list is laid -/
theorem Inv.lset {its its' : List Value} {n : Nat} {f : Array Value → Array Value} {t' : Nat} (I : Inv X pins σ H s) (hH : H l = some (.lst xs))
    (e : s.heap.get? l = some { cls := .type "list", data := .seq its.toArray n }) (hf : f its.toArray = its'.toArray) (hv : Vals ys its') (hz : ys.length ≤ sizeLine) :
    Inv X pins σ (upd H l (.lst ys)) { s with heap := s.heap.update l (Obj.mapSeq f), toks := t' } := by
  have q := PySem.IsL.update e f
  rw [hf] at q
  refine I.write (x := l) (e := l) (by rw [hH]; exact trivial) (.inl rfl) (fun b' u hb hu => (Heap.get?_update_other s.heap (Obj.mapSeq f) (Ne.symm hb)).trans hu) ⟨_, q⟩ ?_
  exact ⟨hz, its', _, hv, q⟩
theorem Inv.lnew {its : List Value} {t' : Nat} (I : Inv X pins σ H s) (hv : Vals ys its) (hz : ys.length ≤ sizeLine) :
    Inv X pins σ (upd H s.heap.objs.size (.lst ys)) { s with heap := s.heap.push { cls := .type "list", data := .seq its.toArray }, toks := t' } :=
  I.laid (fun _ _ q => Heap.get?_push_of_some _ q) (Nat.le_refl _) ⟨hz, its, 0, hv, Heap.get?_push_size _ rfl⟩
theorem Inv.fresh (I : Inv X pins σ H s) : H s.heap.objs.size = none := I.hok.fresh (Nat.le_refl _)
theorem Inv.lstM (I : Inv X pins σ H s) (hH : H l = some (.lst xs)) : xs.length ≤ sizeLine ∧ ∃ (its : List Value) (n : Nat), Vals xs its ∧ xs.length = its.length ∧ s.heap.get? l = some { cls := .type "list", data := .seq its.toArray n } := by
  obtain ⟨z, its, n, r, e⟩ := I.hok l _ hH
  exact ⟨z, its, n, r, r.length, e⟩

theorem notLongL {n : Nat} (h : n ≤ sizeLine) : Builtin.List.listTooLong n = false := by
  unfold Builtin.List.listTooLong
  exact decide_eq_false (by omega)
end

section
variable {X : Cx}

/-! ### methods -/
noncomputable def rAppend : V → List V → Hp → VK → Prop := fun x vs H Q => ∃ l xs y, x = .ref l ∧ vs = [y] ∧ H l = some (.lst xs) ∧ xs.length < sizeLine ∧ Q .non (upd H l (.lst (xs ++ [y])))
theorem mt_append : MtM X "list.append" rAppend := by
  intro pins s σ H x vs v us Q I rx rv h
  obtain ⟨l, xs, y, rfl, rfl, hH, hz, q⟩ := h
  cases rx
  obtain ⟨u, rfl, ru⟩ := rv.one
  obtain ⟨z, its, n, r, hl, e⟩ := I.lstM hH
  refine call_meets F.slot_list_append ⟨_, e, rfl⟩ F.entry_list_append (F.args_list_append_2 _ _) (PySem.list_append l its.toArray n u (by rw [List.size_toArray]; omega)) ⟨e, ?_⟩
  refine ⟨.non, _, I.lset (its' := its ++ [u]) hH e (by simp) (r.append (.cons ru .nil)) ?_, rfl, q⟩
  rw [List.length_append, List.length_singleton]
  omega

noncomputable def rExtend : V → List V → Hp → VK → Prop := fun x vs H Q => ∃ l b xs zs, x = .ref l ∧ vs = [.ref b] ∧ H l = some (.lst xs) ∧ H b = some (.lst zs) ∧ xs.length + zs.length ≤ sizeLine ∧ Q .non (upd H l (.lst (xs ++ zs)))
theorem mt_extend : MtM X "list.extend" rExtend := by
  intro pins s σ H x vs v us Q I rx rv h
  obtain ⟨l, b, xs, zs, rfl, rfl, hH, hB, hz, q⟩ := h
  cases rx
  obtain ⟨u, rfl, ru⟩ := rv.one
  cases ru
  obtain ⟨z, its, n, r, hl, e⟩ := I.lstM hH
  obtain ⟨z2, its2, n2, r2, hl2, e2⟩ := I.lstM hB
  have hsz : its.toArray.size + its2.toArray.size ≤ sizeLine := by rw [List.size_toArray, List.size_toArray]; omega
  have hlong : ¬ (!its.toArray.isEmpty && Builtin.List.listTooLong (its.toArray.size + its2.toArray.size)) = true := by
    rw [notLongL hsz, Bool.and_false]
    exact Bool.false_ne_true
  refine call_meets F.slot_list_extend ⟨_, e, rfl⟩ F.entry_list_extend (F.args_list_extend_2 _ _)
    (AutoSeq1.list_extend_list_list_0 l its.toArray n b its2.toArray n2 hlong (by rw [List.size_toArray]; omega) (by omega)) ⟨e, e2, ?_⟩
  refine ⟨.non, _, I.lset (its' := its ++ its2) hH e (by simp) (r.append r2) ?_, rfl, q⟩
  rw [List.length_append]
  omega

/-! ### list + list, list += list, list * int -/
noncomputable def rCat : R2 := fun x y H Q => ∃ l b xs zs, x = .ref l ∧ y = .ref b ∧ H l = some (.lst xs) ∧ H b = some (.lst zs) ∧ xs.length + zs.length ≤ sizeLine ∧ ∀ p, H p = none → Q (.ref p) (upd H p (.lst (xs ++ zs)))
theorem op_cat : OpR X (binaryOp .Add) rCat := by
  intro pins s σ H x y v u Q I rx ry h
  obtain ⟨l, b, xs, zs, rfl, rfl, hH, hB, hz, q⟩ := h
  cases rx
  cases ry
  obtain ⟨z, its, n, r, hl, e⟩ := I.lstM hH
  obtain ⟨z2, its2, n2, r2, hl2, e2⟩ := I.lstM hB
  refine PySem.P.add_list e e2 ?_ (by rw [List.size_toArray, List.size_toArray]; omega)
  have ea : its.toArray ++ its2.toArray = (its ++ its2).toArray := by simp
  rw [ea]
  exact ⟨.ref _, _, I.lnew (t' := s.toks) (r.append r2) (by rw [List.length_append]; omega), rfl, q _ I.fresh⟩
/-- a list times an int (a negative one is nothing) -/
noncomputable def rRep : R2 := fun x y H Q => ∃ l k xs, x = .ref l ∧ y = .int k ∧ H l = some (.lst xs) ∧ -(2 ^ 63) ≤ k ∧ k < 2 ^ 63 ∧ xs.length * k.toNat ≤ sizeLine ∧
  ∀ p, H p = none → Q (.ref p) (upd H p (.lst (List.replicate k.toNat xs).flatten))
theorem len_rep {α : Type} (xs : List α) (k : Nat) : (List.replicate k xs).flatten.length = k * xs.length := by
  induction k with
  | zero => simp
  | succ k ih => rw [List.replicate_succ, List.flatten_cons, List.length_append, ih, Nat.succ_mul, Nat.add_comm]
theorem op_rep : OpR X (binaryOp .Mult) rRep := by
  intro pins s σ H x y v u Q I rx ry h
  obtain ⟨l, k, xs, rfl, rfl, hH, h1, h2, hz, q⟩ := h
  cases rx
  obtain ⟨t, rfl⟩ := ry
  obtain ⟨z, its, n, r, hl, e⟩ := I.lstM hH
  have hlen : its.toArray.size * k.toNat ≤ sizeLine := by rw [List.size_toArray, ← hl]; exact hz
  have hcap : ¬ its.toArray.size * k.toNat > (2 ^ 63 - 1) / 8 := by
    have : (sizeLine : Nat) ≤ (2 ^ 63 - 1) / 8 := by decide
    omega
  have hfit : ¬ (!Builtin.List.listFitsIndex k) = true := by
    rw [fitsIndex_both h1 h2]
    exact Bool.false_ne_true
  have hlong : ¬ Builtin.List.listTooLong (its.toArray.size * k.toNat) = true := by
    rw [notLongL hlen]
    exact Bool.false_ne_true
  have hnew : List.foldl (fun x1 x2 => x1 ++ x2) #[] (List.replicate (if its.toArray.isEmpty = true then 0 else k.toNat) its.toArray) = (List.replicate k.toNat its).flatten.toArray := by
    have f0 : ∀ m : Nat, List.foldl (fun x1 x2 => x1 ++ x2) #[] (List.replicate m its.toArray) = (List.replicate m its).flatten.toArray := fun m => by
      have := foldl_rep its m []
      rw [List.nil_append] at this
      exact this
    rw [f0]
    cases its with
    | nil => simp
    | cons a r' => rw [if_neg (by simp)]
  refine wpAny_binaryOp_repeat_ref (T := "list") (U := "int") (by decide) ⟨_, e, rfl⟩ (fun s' => typeIs_int s' k t) noFill_list_mul F.fills_int_mul F.slot_int_rmul repeat_list F.slot_int_index.lookup
    (call_meets F.slot_int_rmul (typeIs_int s k t) F.entry_int_rmul (F.args_int_rmul_2 _ _) (int___rmul___int_list k t l its.toArray n)
      ⟨e, rfl, ⟨_, e, rfl⟩, call_meets F.slot_list_mul ⟨_, e, rfl⟩ F.entry_list_mul (F.args_list_mul_2 _ _) (AutoListH.list___mul___list_int_3 l its.toArray n k t hfit hcap hlong) ⟨e, ?_⟩⟩)
  rw [hnew]
  exact ⟨.ref _, _, I.lnew (t' := s.toks) (r.rep k.toNat) (by rw [len_rep, Nat.mul_comm]; exact hz), rfl, q _ I.fresh⟩

end

/-! ### xs[a:b] = ys -/
section
variable {prog : Program} {w : World} {A : Around} {E : Value → Shared → Prop} {s : Shared}
end

section
variable {X : Cx}
end
end L2

namespace Att
open PySem PySem.W PySem.Calls PyProof.Rows

/-! ### the script -/
theorem ints_of_wellAll {P : Params} {h : Heap} : ∀ (ns : List Int) (vs : List Value), WellAll P h vs (ns.map WData.int) → IntsAre vs ns := by
  intro ns
  induction ns with
  | nil =>
    intro vs w
    rw [List.map_nil] at w
    cases w
    exact .nil
  | cons n ns ih =>
    intro vs w
    rw [List.map_cons] at w
    cases w with
    | cons a b =>
      cases a
      exact .cons _ _ (ih _ b)

theorem script_of {l : OpenLaw} {n : Nat} (hn : l.most = some n) {P : Params} {h : Heap} {args : List WData} {vals : List Value}
    (hpre : l.row.toRowW.claim.pre args = true) (hwl : WellAll P h vals args) :
    ∃ a vs ns, vals = [Value.ref a] ∧ args = [WData.list (ns.map WData.int)] ∧ h.get? a = some { cls := .type "list", data := .seq vs.toArray } ∧ IntsAre vs ns ∧ ns.length ≤ n := by
  have hsh : WShape.hasAll [] args [.list .int] = true := (pre_splitW hpre).1
  have hc : l.pre.holds [] { args := args } = true := (pre_splitW hpre).2
  obtain ⟨d, r, rfl, h1, h2⟩ := hasAllW_cons hsh
  obtain rfl := hasAllW_nil h2
  obtain ⟨xs, rfl, h3⟩ := hasW_list h1
  obtain ⟨ns, rfl⟩ := items_int h3
  have hlen : ns.length ≤ n := by
    unfold OpenLaw.pre at hc
    have h4 : (WTm.not (.lt (.lit (.int (n : Int))) (.len (.arg 0)))).holds [] { args := [.list (ns.map .int)] } = true := by
      have h4 := (holds_andW hc).1
      rw [hn] at h4
      exact h4
    have h5 := condW_of h4 (w_not (w_lt w_lit (w_len_list (w_arg rfl))))
    rw [List.length_map] at h5
    refine Nat.le_of_not_lt fun q => ?_
    have q' : (n : Int) < ((ns.length : Nat) : Int) := by omega
    first
      | (rw [decide_eq_true q'] at h5; exact absurd h5 (by decide))
      | (simp at h5; omega)
  cases hwl with
  | cons w1 w2 =>
    cases w2
    cases w1 with
    | list ho hall => exact ⟨_, _, ns, rfl, rfl, ho, ints_of_wellAll ns _ hall, hlen⟩

theorem post_true (l : OpenLaw) (args : List WData) : l.row.toRowW.claim.post args (.bool true) args = true :=
  postW_of (r := l.row.toRowW) (X := (true == true))
    (show WShape.has [] (.bool true) .bool = true by first | rfl | decide | simp [WShape.has, WShape.arms, WShape.armsAll])
    (show (WTm.eq .res (.lit (.bool true))).value [] { args := args, res := some (.bool true), after := args } = some (.bool (true == true)) from w_eq_bool (w_res rfl) w_lit) rfl

/-- the same from a codeAny of the CALL (for a layer whose function contracts speak of calls) -/
theorem attach_call {l : OpenLaw} {n : Nat} {q : Program} {loose : List Str} {XP : (Str → Option Value) → Heap → Prop} {YP : World → Heap → Prop} {d : DefRec}
    (hn : l.most = some n) (hdf : d.params.defaults = [])
    (call : ∀ (w : World) (s₀ s₁ : Shared) (mg mb : Str → Option Value) (fa : Addr) (o : Obj) (pm cd doc : Value) (a : Addr) (vs : List Value) (ns : List Int),
      Ground q loose [] XP w s₀ mg mb s₁.heap → YP w s₁.heap →
      s₁.heap.get? fa = some o → o.data = .func (docDef d.name d.params d.body d.scope pm cd doc) → s₁.heap.CodeRec cd d.name → mg d.name = some (.ref fa) →
      s₁.heap.get? a = some { cls := .type "list", data := .seq vs.toArray } → IntsAre vs ns → ns.length ≤ n → s₁.gens = #[] →
      codeAny (model l.prog w) callerA (.call (.ref fa) ⟨[.ref a], []⟩) (fun r s' => r = .ok (.ret (.bool true)) ∧ OldK s₁.heap s'.heap ∧ s'.os = s₁.os ∧ AllBare s'.gens) s₁) :
    WalkO q loose XP YP l.row.toRowW d [] (fun f vs => PySem.call f vs) := by
  intro w s₀ s₁ mg mb G Y fa o pm cd doc dV kV ho hd hcd hD hmg hg args vals as hpre hlay hrd hwl hlo
  obtain rfl : dV = .none := Dflts.none hD hdf
  obtain rfl : kV = .none := Dflts.noKw hD
  obtain ⟨a, vs, ns, rfl, rfl, hobj, hints, hlen⟩ := script_of hn hpre hwl
  refine enter_call (codeAny_mono (call w s₀ s₁ mg mb fa o pm cd doc a vs ns G Y ho (fd_plain hd) hcd hmg hobj hints hlen hg) fun r s' hq => ?_)
  obtain ⟨rfl, h2, h3, h4⟩ := hq
  exact ⟨.inl ⟨.bool true, .bool true, [], rfl, fun _ => rfl, .bool true, post_true l _, fun _ => ⟨List.Pairwise.nil, fun _ hm => (nomatch hm)⟩⟩, h2, h3, h4⟩

/-! ### rules over ANY heap (no ledger) from facts about the written part K: the library's own take a ledger (News) for what they write -/
section
variable {prog : Program} {w : World} {A : Around} {E : Value → Shared → Prop} {s : Shared} {K : Frag}

noncomputable def ledger (h : Heap) (L d : Addr) : List (Addr × Obj) := (List.range h.objs.size).filterMap fun a => if a = L ∨ a = d then none else (h.get? a).map fun o => (a, o)
end
end Att

namespace L2
open PySem PySem.Spec PyProof.Rows

theorem vals_ints : ∀ {vs : List Value} {ns : List Int}, IntsAre vs ns → Vals (ns.map V.int) vs
  | _, _, .nil => .nil
  | _, _, .cons n t h => .cons ⟨t, rfl⟩ (vals_ints h)

/-- nothing is tracked but the script, known to the object (or it is an object of the module) -/
noncomputable def Only (H : Hp) : Prop := ∀ b, H b = none ∨ ∃ o xs, H b = some (.frz o (.lst xs))

/-- THE HEAD: the law's promise, at the heap behind the top. F, the promise of the law's def, may use that base is part of the heap (so K.In base, base.Ns mainGlobals mg stand in Mod) -/
theorem law_call {P : Program} {w : World} {K : PySem.W.Frag} {mg mb : Str → Option Value} {CX : CXT} {k : Nat} {fa a : Addr} {fd : FuncData} {x : Str} {sp : Sp} {s₁ : Shared} {vs : List Value} {ns : List Int}
    (KX : K.In s₁.heap) (hns : s₁.heap.Ns mainGlobals mg) (hb : s₁.heap.Ns builtinsNs mb) (hbb : ∀ x : Str, x ≠ "__name__" → mb x = bootBuiltins x) (hlim : s₁.heap.NoLimit) (hg : s₁.gens = #[])
    (ha : s₁.heap.get? a = some { cls := .type "list", data := .seq vs.toArray }) (hi : IntsAre vs ns) (hl : ns.length ≤ sizeLine) (hr : Room k callerA)
    (F : ∀ base : Heap, K.In base → base.Ns mainGlobals mg → FnOk P w K mg base CX k fa fd [x] sp) (hbind : ∀ (s : Shared) (u : Value), BindsTo s fd ⟨[u], []⟩ [(x, u)])
    (hsp : ∀ H : Hp, Only H → SqL K H a (ns.map V.int) → sp [.ref a] H (fun v _ => v = .bl true) fun _ _ _ => False)
    (hCX : ∀ H e s', CX [] H s₁ (fun _ _ _ => False) e s' → False) :
    codeAny (model P w) callerA (.call (.ref fa) ⟨[.ref a], []⟩) (fun r s' => r = .ok (.ret (.bool true)) ∧ OldK s₁.heap s'.heap ∧ s'.os = s₁.os ∧ AllBare s'.gens) s₁ := by
  have rv := vals_ints hi
  have lenV := hi.length
  -- from an abstract heap in which nothing but the script may be tracked
  have core : ∀ H : Hp, Only H → SqL K H a (ns.map V.int) → HOk P w H s₁.heap → (∀ b, H b ≠ none → b = a) → (H a ≠ none → K.lookup a = none) →
      codeAny (model P w) callerA (.call (.ref fa) ⟨[.ref a], []⟩) (fun r s' => r = .ok (.ret (.bool true)) ∧ OldK s₁.heap s'.heap ∧ s'.os = s₁.os ∧ AllBare s'.gens) s₁ := by
    intro H hO hS hok hA hK
    have base_of : ∀ {b : Addr} {o : Obj}, s₁.heap.get? b = some o → H b = none → (hidT s₁.heap H).get? b = some o := fun e n => hidT_get e n
    have noA : ∀ {b : Addr} {o : Obj} {es : Array DictEntry} {ep : Nat}, s₁.heap.get? b = some o → o.data = .dict es ep → H b = none := fun {b o es ep} e d => by
      cases q : H b with
      | none => rfl
      | some u =>
        have e' : b = a := hA b (by rw [q]; simp)
        subst e'
        rw [ha] at e; cases e
        have d' : Data.seq vs.toArray _ = Data.dict es ep := d
        cases d'
    have nsK : ∀ {b : Addr} {m : Str → Option Value}, s₁.heap.Ns b m → (hidT s₁.heap H).Ns b m := fun {b m} ⟨o, es, ep, e, d, r⟩ => ⟨o, es, ep, base_of e (noA e d), d, r⟩
    have hKb : K.In (hidT s₁.heap H) := fun b o e => base_of (KX b o e) (by
      cases q : H b with
      | none => rfl
      | some u =>
        have e' : b = a := hA b (by rw [q]; simp)
        subst e'
        rw [hK (by rw [q]; simp)] at e; cases e)
    have hM : Mod K mg (hidT s₁.heap H) := ⟨hKb, nsK hns, ⟨mb, nsK hb, hbb⟩, let ⟨mc, h1, h2⟩ := hlim; ⟨mc, nsK h1, h2⟩⟩
    have e0 : Env0 P w K mg (hidT s₁.heap H) callerA [] s₁ H := ⟨rfl, hM, fun b o e => of_hidT e, Nat.le_of_eq (hidT_size _ _), trivial, fun b hb => absurd (show b ∈ ([] : List Addr) from hb) (by simp), hok, .of_eq hg⟩
    refine codeAny_mono ((F _ hKb (nsK hns)).run callerA [] s₁ H ⟨[.ref a], []⟩ [.ref a] [.ref a] _ _ hr e0 (hbind s₁ (.ref a)) (.cons rfl .nil) (hsp H hO hS)) fun r s' h => ?_
    cases r with
    | error e => exact (hCX H e s' h).elim
    | ok fl =>
      cases fl with
      | next => exact False.elim h
      | brk => exact False.elim h
      | cont => exact False.elim h
      | ret u =>
        obtain ⟨v, H', os, bare, un, hok', r', q⟩ := h
        have q' : v = .bl true := q
        subst q'
        obtain rfl : u = Value.bool true := r'
        refine ⟨rfl, OldK.of_keep fun b o e => ?_, os, bare⟩
        cases q : H b with
        | none => exact un.keep b o e q (by intro z; exact absurd (show b ∈ ([] : List Addr) from z) (by simp)) (by simp)
        | some u =>
          rcases hO b with z | ⟨ob, xs, z⟩
          · rw [q] at z; cases z
          · have z2 := un.frzs b ob _ z
            obtain ⟨e1, _⟩ := hok b _ z
            obtain ⟨e2, _⟩ := hok' b _ z2
            rw [e] at e1; cases e1
            exact e2
  cases hk : K.lookup a with
  | some o =>
    -- the script is one of the module's own objects
    have e := KX a o hk
    rw [ha] at e
    cases e
    refine core (fun _ => none) (fun _ => .inl rfl) (.inr ⟨_, vs.toArray, _, hk, rfl, rfl, rfl, by rw [List.size_toArray, lenV]; exact hl, by simpa using rv⟩) (fun b u z => by have z' : (none : Option HO) = some u := z; cases z') (fun b z => absurd rfl z) fun z => absurd rfl z
  | none =>
    refine core (fun b => if b = a then some (.frz { cls := .type "list", data := .seq vs.toArray } (.lst (ns.map V.int))) else none) (fun b => ?_) (.inl (.inr ⟨{ cls := .type "list", data := .seq vs.toArray }, if_pos rfl⟩)) (fun b u z => ?_) (fun b z => ?_) fun _ => hk
    · by_cases hb : b = a
      · exact .inr ⟨_, _, if_pos hb⟩
      · exact .inl (if_neg hb)
    · by_cases hb : b = a
      · have z' := (if_pos hb).symm.trans z
        cases z'
        subst hb
        exact ⟨ha, by rw [List.length_map]; exact hl, vs, _, rv, ha⟩
      · have z' := (if_neg hb).symm.trans z
        cases z'
    · by_cases hb : b = a
      · exact hb
      · exact absurd (if_neg hb) z
end L2

namespace L2
open PySem PySem.Spec PyProof.Rows

noncomputable abbrev KOf {K : PySem.W.Frag} {h : Heap} (_ : K.In h) : PySem.W.Frag := K

/-- the goal that k_head leaves (case hc), from the law's promise. F gives the function object fd (K's own) once, then the promise over every base -/
theorem walk_of {l : PySem.W.OpenLaw} {n k : Nat} {q : Program} {loose : List Str} {XP : (Str → Option Value) → Heap → Prop} {YP : World → Heap → Prop} {d : DefRec} {K : Params → PySem.W.Frag} {CX : World → CXT} {sp : World → Sp} {x : Str}
    (hn : l.most = some n) (hn2 : n ≤ sizeLine) (hdf : d.params.defaults = []) (hr : Room k callerA)
    (hY : ∀ (w : World) (h : Heap), YP w h → (K w.params).In h)
    (F : ∀ (w : World) (mg : Str → Option Value) (fa : Addr) (h : Heap), (K w.params).In h → h.Ns mainGlobals mg → mg d.name = some (.ref fa) →
      ∃ fd : FuncData, (∀ (s : Shared) (u : Value), BindsTo s fd ⟨[u], []⟩ [(x, u)]) ∧
        ∀ base : Heap, (K w.params).In base → base.Ns mainGlobals mg → FnOk l.prog w (K w.params) mg base (CX w) k fa fd [x] (sp w))
    (hsp : ∀ (w : World) (H : Hp) (a : Addr) (ns : List Int), ns.length ≤ n → Only H → SqL (K w.params) H a (ns.map V.int) → sp w [.ref a] H (fun v _ => v = .bl true) fun _ _ _ => False)
    (hCX : ∀ (w : World) (H : Hp) (s : Shared) (e : Value) (s' : Shared), CX w [] H s (fun _ _ _ => False) e s' → False) :
    PySem.W.WalkO q loose XP YP l.row.toRowW d [] (fun f vs => PySem.call f vs) := by
  refine Att.attach_call hn hdf fun w s₀ s₁ mg mb fa o pm cd doc a vs ns G Y ho hd hcd hmg hobj hints hlen hg => ?_
  have KX := hY w _ Y
  obtain ⟨fd, hb, hF⟩ := F w mg fa _ KX G.T.g hmg
  exact law_call KX G.T.g G.T.b G.T.builtins G.T.nolimit hg hobj hints (Nat.le_trans hlen hn2) hr hF hb (fun H hO hS => hsp w H a ns hlen hO hS) fun H e s' => hCX w H s₁ e s'
end L2

/- THE LAST THEOREM (shape; LID, My.* are yours):
   My.Adr: a structure of the addresses that your layer names (classes, functions); My.Txt K t: a structure (Prop) of the equations over K;
   My.txt_mk : {K} {implicit addresses ..} (e1 : nsIn K mainGlobals "law" = some (some (.ref f))) (e2 : K.lookup f = some ⟨oc, od, .func (fnOf "law" "law" params body scope dV kV doc pm an cdv ct), sl⟩) (e3 : codeIn K cdv "law" = true) .. : ∃ t, My.Txt K t

theorem PySem.Challenge.cw_LID_holds : PySem.Challenge.rw_LID.Holds := by
  w_on; o_law; k_head; (case hw => w_witness2)
  k_fill
  refine L2.walk_of (l := PySem.Challenge.rw_LID) (n := 63) (k := 40) (x := "script") (CX := fun w => ..) (sp := fun _ => My.sp_law) rfl (by decide) rfl ⟨rfl, by decide, by decide⟩ (fun w h Y => PySem.W.kIn_of Y) ?F ?S ?C
  case F =>
    intro w mg fa h KX G hmg
    have T : ∃ t, My.Txt (L2.KOf KX) t := by
      dsimp only [L2.KOf]                          -- K must stand as «<heap const> w.params» for k_is
      refine' My.txt_mk ?e1 ?e2 ?e3 ..
      (case e1 => PySem.W.k_is)                    -- in the order: a name -> its address -> its object -> its parts
      (case e2 => PySem.W.k_is)
      ..
    obtain ⟨t, T⟩ := T
    have e0 := hmg.symm.trans (PySem.W.mg_of KX G T.law)
    cases e0                                       -- fa is the law's own address
    exact ⟨_, fun s u => .of_eq rfl, fun base kb nb => My.law_fn T kb nb⟩     -- if «.of_eq rfl» comes too early: refine' ⟨_, ?b, fun base kb nb => My.law_fn T kb nb⟩; exact fun s u => .of_eq rfl
  case S => exact fun w H a ns hl hO hS => ..
  case C => exact ..
(the tactic k_is has no namespace: write k_is) -/

/-! SHORT WORDS over the layer: a def of the text, its body, what a loop and a test want. -/
namespace L2
open PySem PySem.Spec PyProof.Rows

noncomputable def defArgs (s : Stmt) : Arguments := match s with
  | .FunctionDef _ a _ _ _ _ _ _ _ _ => a
  | _ => { posonlyargs := [], args := [], vararg := none, kwonlyargs := [], kw_defaults := [], kwarg := none, defaults := [] }
noncomputable def defBody (s : Stmt) : List Stmt := match s with
  | .FunctionDef _ _ b _ _ _ _ _ _ _ => b
  | _ => []
noncomputable def defScope (s : Stmt) : Scope := match s with
  | .FunctionDef _ _ _ _ _ _ sc _ _ _ => sc
  | _ => { kind := .function, names := [], isGenerator := false, isCoroutine := false }

/-! ### no exception leaves a def -/
noncomputable abbrev CX0 : CXT := fun _ _ _ _ _ _ => False
noncomputable abbrev E0 : XK := fun _ _ _ => False
theorem pass0 {X : Cx} : Passes CX0 X E0 := fun _ _ _ _ _ _ _ h => h.elim

/-! ### a def (or method) of the text as it stands behind the top -/
structure Fun (K : PySem.W.Frag) (x qual : Str) (st : Stmt) (f : Addr) (fd : FuncData) : Prop where
  ex : ∃ (oc : Value) (od : Option Addr) (kV doc pm : Value) (an : Option Addr) (cdv ct : Value) (osl : Array (Option Value)),
    fd = PySem.W.fnOf x qual (defArgs st) (defBody st) (defScope st) .none kV doc pm an cdv ct ∧ K.lookup f = some ⟨oc, od, .func fd, osl⟩ ∧ PySem.W.codeIn K cdv qual = true
  kp : PySem.W.keepIn K (.ref f) = true
section
variable {P : Program} {w : World} {K : PySem.W.Frag} {mg : Str → Option Value} {base : Heap}
/-- THE RULE for a def: its body as a term of rules, and the reading of that term -/
theorem Fun.ok {x qual : Str} {st : Stmt} {f : Addr} {fd : FuncData} {N ps : List Str} {k : Nat} {sp : Sp} (F : Fun K x qual st f fd) (S : FnScope N ps (defScope st)) (len : ∀ vs H Q E, sp vs H Q E → vs.length = ps.length)
    (hbody : ∀ (cdv : Value) (A : Around) (outer : List Env) (s : Shared) (H : Hp) (vs : List V) (Q : VK) (E : XK), Room k (A.deeper (envOfC qual (defScope st) s.heap.objs.size f cdv)) → sp vs H Q E →
      ∃ t, PSs (cxOf CX0 P w K mg base N qual (defScope st) f cdv A outer s H E).nox (defBody st) t ∧ t { nx := fun _ H' => Q .non H', rt := Q } (start N vs) H) : FnOk P w K mg base CX0 (k + 1) f fd ps sp := by
  obtain ⟨oc, od, kV, doc, pm, an, cdv, ct, osl, rfl, lk, hcd⟩ := F.ex
  refine fn_of lk hcd S len fun A outer s H vs Q E hr hsp => ?_
  obtain ⟨t, h, q⟩ := hbody cdv A outer s H vs Q E hr hsp
  exact ⟨t, h.nox, q⟩
/-- how its arguments bind (no defaults): h is «fun _ _ _ _ _ _ us hl => match us, hl with | [_, _], _ => rfl», one _ a parameter -/
theorem Fun.binds {x qual : Str} {st : Stmt} {f : Addr} {fd : FuncData} {ps : List Str} (F : Fun K x qual st f fd)
    (h : ∀ (kV doc pm : Value) (an : Option Addr) (cdv ct : Value) (us : List Value), us.length = ps.length → bindArgs (PySem.W.fnOf x qual (defArgs st) (defBody st) (defScope st) .none kV doc pm an cdv ct) ⟨us, []⟩ = pure (ps.zip us)) : Binds K fd ps [] := by
  obtain ⟨oc, od, kV, doc, pm, an, cdv, ct, osl, rfl, lk, hcd⟩ := F.ex
  exact .all (h kV doc pm an cdv ct)
theorem fun_mk {x qual : Str} {st : Stmt} {f : Addr} {oc : Value} {od an : Option Addr} {osl : Array (Option Value)} {kV doc pm cdv ct : Value} (l : K.lookup f = some ⟨oc, od, .func (PySem.W.fnOf x qual (defArgs st) (defBody st) (defScope st) .none kV doc pm an cdv ct), osl⟩)
    (c : PySem.W.codeIn K cdv qual = true) (k : PySem.W.keepIn K (.ref f) = true) : Fun K x qual st f (PySem.W.fnOf x qual (defArgs st) (defBody st) (defScope st) .none kV doc pm an cdv ct) := ⟨⟨oc, od, kV, doc, pm, an, cdv, ct, osl, rfl, l, c⟩, k⟩
end
/-! ### expressions in short: the name that stands in the i-th slot -/
section
variable {X : Cx}
end

/-! ### heaps -/
/-- all that was tracked is as it was -/
noncomputable def Same (H H' : Hp) : Prop := ∀ b o, H b = some o → H' b = some o
theorem Same.refl (H : Hp) : Same H H := fun _ _ h => h
theorem Same.trans {H H1 H2 : Hp} (a : Same H H1) (b : Same H1 H2) : Same H H2 := fun c o h => b c o (a c o h)
theorem Same.free {H H' : Hp} (e : Same H H') {l : Addr} (h : H' l = Option.none) : H l = Option.none := by
  cases q : H l with
  | none => rfl
  | some o =>
    rw [e l o q] at h
    cases h
theorem Same.seq {K : PySem.W.Frag} {H H' : Hp} {a : Addr} {xs : List V} (e : Same H H') (h : SqL K H a xs) : SqL K H' a xs := by
  rcases h with (h | ⟨o, h⟩) | h
  · exact .inl (.inl (e _ _ h))
  · exact .inl (.inr ⟨o, e _ _ h⟩)
  · exact .inr h

end L2

namespace Pv
open PySem

/-- a value without addresses of tuples: a tuple is its items; fls: a list that is never written (the script, a module's list) -/
inductive D where
  | non | bl (b : Bool) | int (i : Int) | str (x : Str) | tup (l : List D) | fls (l : List D) | ref (a : Addr) | ty (n : String) | exc (c : Str)
inductive MO where
  | lst (xs : List D)
  | ins (c : Str) (fs : List (Str × D))
noncomputable abbrev Mu := Addr → Option MO
noncomputable def updM (μ : Mu) (a : Addr) (o : MO) : Mu := fun b => if b = a then some o else μ b
theorem updM_same {μ : Mu} {a : Addr} {o : MO} : updM μ a o a = some o := by unfold updM; rw [if_pos rfl]
theorem updM_ne {μ : Mu} {a b : Addr} {o : MO} (h : b ≠ a) : updM μ a o b = μ b := by unfold updM; rw [if_neg h]
theorem updM_updM {μ : Mu} {a : Addr} {o u : MO} : updM (updM μ a o) a u = updM μ a u := by
  funext b; unfold updM; by_cases h : b = a <;> simp [h]
/-- lists may have come, those there stay -/
noncomputable def Ext (μ μ' : Mu) : Prop := ∀ a o, μ a = some o → μ' a = some o
theorem Ext.refl (μ : Mu) : Ext μ μ := fun _ _ h => h
theorem Ext.trans {a b c : Mu} (h : Ext a b) (k : Ext b c) : Ext a c := fun x o q => k x o (h x o q)
theorem Ext.new {μ : Mu} {p : Addr} {o : MO} (h : μ p = none) : Ext μ (updM μ p o) := fun a u q => by
  rw [updM_ne]; exact q
  intro e; subst e; rw [h] at q; cases q
theorem Ext.free {μ μ' : Mu} {p : Addr} (e : Ext μ μ') (h : μ' p = none) : μ p = none := by
  cases q : μ p with
  | none => rfl
  | some o => rw [e p o q] at h; cases h
/-- all but the list at p -/
noncomputable def ExtB (p : Addr) (μ μ' : Mu) : Prop := ∀ a o, a ≠ p → μ a = some o → μ' a = some o
theorem ExtB.refl (p : Addr) (μ : Mu) : ExtB p μ μ := fun _ _ _ h => h
theorem ExtB.trans {p : Addr} {a b c : Mu} (h : ExtB p a b) (k : ExtB p b c) : ExtB p a c := fun x o n q => k x o n (h x o n q)
theorem Ext.b {μ μ' : Mu} (p : Addr) (e : Ext μ μ') : ExtB p μ μ' := fun a o _ q => e a o q
theorem ExtB.upd {μ : Mu} {p : Addr} {o : MO} : ExtB p μ (updM μ p o) := fun a u n q => by rw [updM_ne n]; exact q
theorem ne_free {μ : Mu} {p q : Addr} {o : MO} (h : μ p = some o) (k : μ q = none) : p ≠ q := by
  intro e; subst e; rw [h] at k; cases k

noncomputable abbrev St3 := List (Option D)
noncomputable def getI : St3 → Nat → Option D
  | [], _ => none
  | o :: _, 0 => o
  | _ :: r, i + 1 => getI r i
theorem getI_eq : ∀ (ρ : St3) (i : Nat), getI ρ i = (ρ[i]?).getD none
  | [], i => by simp [getI]
  | o :: _, 0 => by simp [getI]
  | _ :: r, i + 1 => by simp [getI, getI_eq r i]
noncomputable abbrev VK3 := D → Mu → Prop
noncomputable abbrev TE3 := St3 → Mu → VK3 → Prop
noncomputable abbrev TT3 := St3 → Mu → (Bool → Mu → Prop) → Prop
noncomputable abbrev TA3 := St3 → Mu → (List D → Mu → Prop) → Prop
structure Ends3 where
  nx : St3 → Mu → Prop
  rt : VK3
  bk : St3 → Mu → Prop := fun _ _ => False
  ct : St3 → Mu → Prop := fun _ _ => False
noncomputable abbrev TS3 := Ends3 → St3 → Mu → Prop
noncomputable abbrev R3 := D → D → Mu → VK3 → Prop
noncomputable abbrev Sp3 := List D → Mu → VK3 → Prop
noncomputable abbrev C3 := List D → Mu → VK3 → Prop
noncomputable abbrev TG3 := D → St3 → Mu → (St3 → Mu → Prop) → Prop
noncomputable abbrev TGs3 := List D → St3 → Mu → (St3 → Mu → Prop) → Prop
noncomputable abbrev TI3 := St3 → Mu → (List D → (Mu → Prop) → Mu → Prop) → Prop

/-! ### expressions -/
noncomputable def v3 (i : Nat) : TE3 := fun ρ μ Q => match getI ρ i with
  | some d => Q d μ
  | none => False
noncomputable def c3 (d : D) : TE3 := fun _ μ Q => Q d μ
noncomputable def o3 (r : R3) (ta tb : TE3) : TE3 := fun ρ μ Q => ta ρ μ fun x μ1 => tb ρ μ1 fun y μ2 => r x y μ2 Q
noncomputable def un3 (r : D → Mu → VK3 → Prop) (ta : TE3) : TE3 := fun ρ μ Q => ta ρ μ fun x μ1 => r x μ1 Q
noncomputable def b3 (t : TE3) : TT3 := fun ρ μ Q => t ρ μ fun d μ1 => match d with
  | .bl c => Q c μ1
  | _ => False
noncomputable def and3 (t u : TT3) : TT3 := fun ρ μ Q => t ρ μ fun c μ1 => if c = true then u ρ μ1 Q else Q false μ1
noncomputable def or3 (t u : TT3) : TT3 := fun ρ μ Q => t ρ μ fun c μ1 => if c = true then Q true μ1 else u ρ μ1 Q
noncomputable def not3 (t : TT3) : TT3 := fun ρ μ Q => t ρ μ fun c μ1 => Q (!c) μ1
noncomputable def andV3 (t u : TE3) : TE3 := fun ρ μ Q => t ρ μ fun d μ1 => match d with
  | .bl c => if c = true then u ρ μ1 Q else Q (.bl false) μ1
  | _ => False
noncomputable def orV3 (t u : TE3) : TE3 := fun ρ μ Q => t ρ μ fun d μ1 => match d with
  | .bl c => if c = true then Q (.bl true) μ1 else u ρ μ1 Q
  | _ => False
noncomputable def notV3 (t : TE3) : TE3 := fun ρ μ Q => t ρ μ fun d μ1 => match d with
  | .bl c => Q (.bl (!c)) μ1
  | _ => False
noncomputable def if3 (c : TT3) (t u : TE3) : TE3 := fun ρ μ Q => c ρ μ fun b μ1 => if b = true then t ρ μ1 Q else u ρ μ1 Q
noncomputable def nil3 : TA3 := fun _ μ Q => Q [] μ
noncomputable def cons3 (t : TE3) (u : TA3) : TA3 := fun ρ μ Q => t ρ μ fun d μ1 => u ρ μ1 fun ds μ2 => Q (d :: ds) μ2
noncomputable def tup3 (t : TA3) : TE3 := fun ρ μ Q => t ρ μ fun ds μ1 => ds.length ≤ sizeLine ∧ Q (.tup ds) μ1
noncomputable def lst3 (t : TA3) : TE3 := fun ρ μ Q => t ρ μ fun ds μ1 => ds.length ≤ sizeLine ∧ ∀ p, μ1 p = none → Q (.ref p) (updM μ1 p (.lst ds))
noncomputable def call3 (sp : Sp3) (t : TA3) : TE3 := fun ρ μ Q => t ρ μ fun ds μ1 => sp ds μ1 Q
noncomputable def mt3 (r : D → List D → Mu → VK3 → Prop) (to : TE3) (t : TA3) : TE3 := fun ρ μ Q => to ρ μ fun x μ1 => match x with
  | .ref p => match μ1 p with
    | some (.lst _) => t ρ μ1 fun ds μ2 => r (.ref p) ds μ2 Q
    | _ => False
  | _ => False

/-- a slice's parts -/
noncomputable abbrev TO3 := St3 → Mu → (Option Int → Mu → Prop) → Prop
noncomputable def np3 : TO3 := fun _ μ Q => Q none μ
noncomputable def pt3 (t : TE3) : TO3 := fun ρ μ Q => t ρ μ fun d μ1 => match d with
  | .int i => Q (some i) μ1
  | _ => False
noncomputable def sl3 (r : D → Option Int → Option Int → Mu → VK3 → Prop) (te : TE3) (tl th : TO3) : TE3 := fun ρ μ Q => te ρ μ fun x μ1 => tl ρ μ1 fun l μ2 => th ρ μ2 fun u μ3 => r x l u μ3 Q
/-- the place that a slice's bound means among n -/
noncomputable def sIx3 (n d : Nat) : Option Int → Nat
  | none => d
  | some v => if v < 0 then (v + (n : Int)).toNat else min v.toNat n
noncomputable def cut3 {α : Type} (xs : List α) (lo hi : Option Int) : List α := (xs.drop (sIx3 xs.length 0 lo)).take (sIx3 xs.length xs.length hi - sIx3 xs.length 0 lo)
noncomputable def slR : D → Option Int → Option Int → Mu → VK3 → Prop := fun x lo hi μ Q => match x with
  | .tup l => Q (.tup (cut3 l lo hi)) μ
  | .str z => z.length ≤ sizeLine ∧ Q (.str ⟨(cut3 z.cps.toList lo hi).toArray⟩) μ
  | .ref p => match μ p with
    | some (.lst l) => ∀ r, μ r = none → Q (.ref r) (updM μ r (.lst (cut3 l lo hi)))
    | _ => False
  | .fls l => ∀ r, μ r = none → Q (.ref r) (updM μ r (.lst (cut3 l lo hi)))
  | _ => False
/-! ### statements -/
noncomputable def next3 : TS3 := fun D ρ μ => D.nx ρ μ
noncomputable def never3 : TS3 := fun _ _ _ => False
noncomputable def brk3 : TS3 := fun D ρ μ => D.bk ρ μ
noncomputable def cnt3 : TS3 := fun D ρ μ => D.ct ρ μ
noncomputable def seq3 (t u : TS3) : TS3 := fun D ρ μ => t { D with nx := u D } ρ μ
noncomputable def drop3 (t : TE3) : TS3 := fun D ρ μ => t ρ μ fun _ μ1 => D.nx ρ μ1
noncomputable def ret3 (t : TE3) : TS3 := fun D ρ μ => t ρ μ D.rt
noncomputable def retN3 : TS3 := fun D _ μ => D.rt .non μ
noncomputable def ifs3 (c : TT3) (t u : TS3) : TS3 := fun D ρ μ => c ρ μ fun b μ1 => if b = true then t D ρ μ1 else u D ρ μ1
noncomputable def gn3 (i : Nat) : TG3 := fun d ρ μ Q => Q (ρ.set i (some d)) μ
noncomputable def gnil3 : TGs3 := fun ds ρ μ Q => match ds with
  | [] => Q ρ μ
  | _ => False
noncomputable def gcons3 (t : TG3) (u : TGs3) : TGs3 := fun ds ρ μ Q => match ds with
  | d :: r => t d ρ μ fun ρ1 μ1 => u r ρ1 μ1 Q
  | [] => False
noncomputable def gtup3 (n : Nat) (t : TGs3) : TG3 := fun d ρ μ Q => match d with
  | .tup l => l.length = n ∧ t l ρ μ Q
  | _ => False
noncomputable def set3 (i : Nat) (t : TE3) : TS3 := fun D ρ μ => t ρ μ fun d μ1 => D.nx (ρ.set i (some d)) μ1
noncomputable def asg3 (t : TE3) (g : TG3) : TS3 := fun D ρ μ => t ρ μ fun d μ1 => g d ρ μ1 D.nx
noncomputable def par3 (i j : Nat) (t : TA3) : TS3 := fun D ρ μ => t ρ μ fun ds μ1 => match ds with
  | [v, w] => D.nx ((ρ.set i (some v)).set j (some w)) μ1
  | _ => False
noncomputable def ixN (n : Nat) (i : Int) : Option Nat := if 0 ≤ i then (if i < n then some i.toNat else none) else if -(n : Int) ≤ i then some (i + n).toNat else none
noncomputable def atI {α : Type} (xs : List α) (i : Int) : Option α := (ixN xs.length i).bind fun j => xs[j]?
noncomputable def sub3 (to ti : TE3) : TG3 := fun d ρ μ Q => to ρ μ fun o μ1 => ti ρ μ1 fun i μ2 => match o, i with
  | .ref p, .int k => match μ2 p with
    | some (.lst xs) => match ixN xs.length k with
      | some j => Q ρ (updM μ2 p (.lst (xs.set j d)))
      | none => False
    | _ => False
  | _, _ => False
/-- a loop over items: S must stay true while they are walked -/
noncomputable def forS3 (S : Mu → Prop) (g : TG3) (tb : TS3) (D' : Ends3) : List D → St3 → Mu → Prop
  | [], ρ, μ => S μ ∧ D'.nx ρ μ
  | x :: r, ρ, μ => S μ ∧ ∃ N : St3 → Mu → Prop, (∀ ρ' μ', N ρ' μ' → forS3 S g tb D' r ρ' μ') ∧ g x ρ μ fun ρ1 μ1 => tb { D' with nx := N, ct := N, bk := D'.nx } ρ1 μ1
noncomputable def for3 (ti : TI3) (g : TG3) (tb : TS3) : TS3 := fun D' ρ μ => ti ρ μ fun l S μ1 => forS3 S g tb D' l ρ μ1
/-- a loop by what holds of the items still to come and the state -/
theorem for_inv {S : Mu → Prop} {g : TG3} {tb : TS3} {D' : Ends3} (W : List D → St3 → Mu → Prop) {l : List D} {ρ : St3} {μ : Mu} (h0 : W l ρ μ) (hS : ∀ l ρ μ, W l ρ μ → S μ) (hn : ∀ ρ μ, W [] ρ μ → D'.nx ρ μ)
    (hs : ∀ x r ρ μ, W (x :: r) ρ μ → g x ρ μ fun ρ1 μ1 => tb { D' with nx := W r, ct := W r, bk := D'.nx } ρ1 μ1) : forS3 S g tb D' l ρ μ := by
  induction l generalizing ρ μ with
  | nil => exact ⟨hS _ _ _ h0, hn _ _ h0⟩
  | cons x r ih => exact ⟨hS _ _ _ h0, W r, fun ρ' μ' q => ih q, hs x r ρ μ h0⟩
noncomputable def is3 (t : TE3) : TI3 := fun ρ μ R => t ρ μ fun d μ1 => match d with
  | .tup l => R l (fun _ => True) μ1
  | .fls l => R l (fun _ => True) μ1
  | .str z => R (z.cps.toList.map fun c => D.str ⟨#[c]⟩) (fun _ => True) μ1
  | .ref p => match μ1 p with
    | some (.lst l) => R l (fun μ => μ p = some (.lst l)) μ1
    | _ => False
  | _ => False
noncomputable def rngD (lo : Int) (n : Nat) : List D := (List.range n).map fun i => .int (lo + (i : Nat))
theorem rngD_succ (lo : Int) (n : Nat) : rngD lo (n + 1) = .int lo :: rngD (lo + 1) n := by
  unfold rngD
  rw [List.range_succ_eq_map, List.map_cons, List.map_map]
  have e0 : lo + ((0 : Nat) : Int) = lo := by simp
  rw [e0]
  congr 1
  apply List.map_congr_left
  intro a _
  show D.int (lo + ((a + 1 : Nat) : Int)) = D.int (lo + 1 + (a : Int))
  have e1 : lo + ((a + 1 : Nat) : Int) = lo + 1 + (a : Int) := by omega
  rw [e1]
noncomputable def ir3 (t : TA3) : TI3 := fun ρ μ R => t ρ μ fun ds μ1 => match ds with
  | [.int j] => (-(2 ^ 62) ≤ j ∧ j < 2 ^ 62) ∧ R (rngD 0 j.toNat) (fun _ => True) μ1
  | _ => False
noncomputable def ir23 (t : TA3) : TI3 := fun ρ μ R => t ρ μ fun ds μ1 => match ds with
  | [.int i, .int j] => (-(2 ^ 62) ≤ i ∧ i < 2 ^ 62 ∧ -(2 ^ 62) ≤ j ∧ j < 2 ^ 62) ∧ R (rngD i (j - i).toNat) (fun _ => True) μ1
  | _ => False
/-- a comprehension's block, by what holds of the items to come, those made, the block's names and the lists -/
noncomputable def cbody (S : Mu → Prop) (p : Addr) (g : TG3) (tc : TT3) (te : TE3) (Q : VK3) (l : List D) (ρ0 : St3) (μ0 : Mu) : Prop :=
  ∃ W : List D → List D → St3 → Mu → Prop, W l [] ρ0 μ0 ∧ (∀ l ys ρ μ, W l ys ρ μ → S μ ∧ μ p = some (.lst ys)) ∧ (∀ ys ρ μ, W [] ys ρ μ → Q (.ref p) μ) ∧
    ∀ x r ys ρ μ, W (x :: r) ys ρ μ → ys.length < sizeLine ∧ g x ρ μ fun ρ1 μ1 => tc ρ1 μ1 fun b μ2 =>
      if b = true then te ρ1 μ2 fun d μ3 => μ3 p = some (.lst ys) ∧ W r (ys ++ [d]) ρ1 (updM μ3 p (.lst (ys ++ [d]))) else W r ys ρ1 μ2
/-- js: where the block's names come from -/
noncomputable def comp3 (js : List (Option Nat)) (ti : TI3) (g : TG3) (tc : TT3) (te : TE3) : TE3 := fun ρ μ Q => ti ρ μ fun l S μ1 => ∀ p, μ1 p = none → cbody S p g tc te Q l (js.map fun j => j.bind (getI ρ)) (updM μ1 p (.lst []))
noncomputable def tt3 : TT3 := fun _ μ Q => Q true μ
/-- [e for x in ..], each item a value that hangs on x alone -/
theorem comp_map {S : Mu → Prop} {p : Addr} {te : TE3} {Q : VK3} {l : List D} {o : Option D} {rest : St3} {μ : Mu} (f : D → D) (hp : μ p = none) (hl : l.length ≤ sizeLine) (hS : ∀ μ', Ext μ μ' → S μ')
    (hx : ∀ x ∈ l, ∀ μ' R, Ext μ μ' → (∀ μ2, Ext μ' μ2 → R (f x) μ2) → te (some x :: rest) μ' R) (hQ : ∀ μ', Ext μ μ' → μ' p = some (.lst (l.map f)) → Q (.ref p) μ') :
    cbody S p (gn3 0) tt3 te Q l (o :: rest) (updM μ p (.lst [])) := by
  refine ⟨fun r ys ρ μ' => Ext μ μ' ∧ μ' p = some (.lst ys) ∧ (∃ o', ρ = o' :: rest) ∧ ∃ a, a ++ r = l ∧ ys = a.map f, ?_, ?_, ?_, ?_⟩
  · exact ⟨Ext.new hp, updM_same, ⟨o, rfl⟩, [], rfl, rfl⟩
  · rintro r ys ρ μ' ⟨h1, h2, _⟩
    exact ⟨hS _ h1, h2⟩
  · rintro ys ρ μ' ⟨h1, h2, _, a, e, rfl⟩
    rw [List.append_nil] at e
    subst e
    exact hQ _ h1 h2
  · rintro x r ys ρ μ' ⟨h1, h2, ⟨o', rfl⟩, a, e, rfl⟩
    refine ⟨by rw [List.length_map]; rw [← e, List.length_append, List.length_cons] at hl; omega, ?_⟩
    show te (some x :: rest) μ' _
    refine hx x (by rw [← e]; simp) μ' _ h1 fun μ2 h3 => ⟨h3 _ _ h2, fun b u hb => ?_, updM_same, ⟨_, rfl⟩, a ++ [x], by simp [← e], by simp⟩
    rw [updM_ne (ne_free hb hp)]
    exact h3 _ _ (h1 _ _ hb)

/-! ### operations -/
noncomputable def CPow (i j : Int) : Prop := 0 ≤ j ∧ j ≤ 1000000 ∧ i.natAbs < 2 ^ 64
noncomputable def Big : Nat := 2 ^ 1000
noncomputable def CMul (i j : Int) : Prop := ((-(2 ^ 64) < i ∧ i < 2 ^ 64) ∨ (-(2 ^ 64) < j ∧ j < 2 ^ 64)) ∨ (i.natAbs < Big ∧ j.natAbs < Big)
noncomputable def int2 (C : Int → Int → Prop) (g : Int → Int → D) : R3 := fun x y μ Q => match x, y with
  | .int i, .int j => C i j ∧ Q (g i j) μ
  | _, _ => False
noncomputable def int20 (g : Int → Int → D) : R3 := fun x y μ Q => match x, y with
  | .int i, .int j => Q (g i j) μ
  | _, _ => False
noncomputable def subR : R3 := int20 fun i j => .int (i - j)
/-- * of ints; a tuple, a list so often -/
noncomputable def mulR : R3 := fun x y μ Q => match x, y with
  | .int i, .int j => CMul i j ∧ Q (.int (i * j)) μ
  | .tup l, .int k => ((-(2 ^ 62) ≤ k ∧ k < 2 ^ 62) ∧ l.length * k.toNat ≤ 1000000) ∧ Q (.tup (List.replicate k.toNat l).flatten) μ
  | .ref p, .int k => match μ p with
    | some (.lst l) => ((-(2 ^ 62) ≤ k ∧ k < 2 ^ 62) ∧ l.length * k.toNat ≤ 1000000) ∧ ∀ r, μ r = none → Q (.ref r) (updM μ r (.lst (List.replicate k.toNat l).flatten))
    | _ => False
  | _, _ => False
noncomputable def modR : R3 := int2 (fun _ j => 0 < j) fun i j => .int (i % j)
noncomputable def fdivR : R3 := int2 (fun _ j => 0 < j ∧ j < 2 ^ 80) fun i j => .int (i / j)
noncomputable def powR : R3 := int2 CPow fun i j => .int (i ^ j.toNat)
noncomputable def ltR : R3 := int20 fun i j => .bl (decide (i < j))
noncomputable def leR : R3 := int20 fun i j => .bl (decide (i ≤ j))
noncomputable def gtR : R3 := int20 fun i j => .bl (decide (j < i))
noncomputable def geR : R3 := int20 fun i j => .bl (decide (j ≤ i))
noncomputable def negR : D → Mu → VK3 → Prop := fun x μ Q => match x with
  | .int i => Q (.int (-i)) μ
  | _ => False
/-- + of ints, texts, lists, tuples -/
noncomputable def addR : R3 := fun x y μ Q => match x, y with
  | .int i, .int j => Q (.int (i + j)) μ
  | .str i, .str j => i.length + j.length ≤ sizeLine ∧ Q (.str (i ++ j)) μ
  | .ref p, .ref q => match μ p, μ q with
    | some (.lst xs), some (.lst ys) => xs.length + ys.length ≤ sizeLine ∧ ∀ r, μ r = none → Q (.ref r) (updM μ r (.lst (xs ++ ys)))
    | _, _ => False
  | .tup l, .tup m => l.length + m.length ≤ sizeLine ∧ Q (.tup (l ++ m)) μ
  | _, _ => False
/-- == of scalars of one kind, and of None with them -/
noncomputable def eqS : D → D → Option Bool
  | .int i, .int j => some (decide (i = j))
  | .bl i, .bl j => some (decide (i = j))
  | .str i, .str j => some (decide (i = j))
  | .non, .non => some true
  | .non, .int _ => some false
  | .int _, .non => some false
  | .non, .str _ => some false
  | .str _, .non => some false
  | .int _, .str _ => some false
  | .str _, .int _ => some false
  | _, _ => none
/- data without addresses -/
mutual
noncomputable def dat : D → Option PyData
  | .non => some .none
  | .bl b => some (.bool b)
  | .int i => some (.int i)
  | .str x => if PyData.strOk x = true then some (.str x) else none
  | .tup l => match dats l with
    | some ps => some (.tuple ps)
    | none => none
  | _ => none
noncomputable def dats : List D → Option (List PyData)
  | [] => some []
  | d :: r => match dat d with
    | some p => match dats r with
      | some ps => some (p :: ps)
      | none => none
    | none => none
end
/-- .. and a list of such, or of lists of such -/
noncomputable def datM (μ : Mu) : D → Option PyData
  | .ref p => match μ p with
    | some (.lst l) => match dats l with
      | some ps => some (.list ps)
      | none => none
    | _ => none
  | d => dat d
noncomputable def eqR : R3 := fun x y μ Q => match eqS x y with
  | some c => Q (.bl c) μ
  | none => match datM μ x, datM μ y with
    | some p, some q => (p.depth ≤ 64 ∧ q.depth ≤ 64) ∧ Q (.bl (PyData.eqv p q)) μ
    | _, _ => False
noncomputable def neR : R3 := fun x y μ Q => match eqS x y with
  | some c => Q (.bl (!c)) μ
  | none => match datM μ x, datM μ y with
    | some p, some q => (p.depth ≤ 64 ∧ q.depth ≤ 64) ∧ Q (.bl (!PyData.eqv p q)) μ
    | _, _ => False
theorem eqR_ii (i j : Int) (μ : Mu) (Q : VK3) : eqR (.int i) (.int j) μ Q = Q (.bl (decide (i = j))) μ := rfl
theorem eqR_ss (i j : Str) (μ : Mu) (Q : VK3) : eqR (.str i) (.str j) μ Q = Q (.bl (decide (i = j))) μ := rfl
theorem eqR_bb (i j : Bool) (μ : Mu) (Q : VK3) : eqR (.bl i) (.bl j) μ Q = Q (.bl (decide (i = j))) μ := rfl
theorem eqR_is (i : Int) (j : Str) (μ : Mu) (Q : VK3) : eqR (.int i) (.str j) μ Q = Q (.bl false) μ := rfl
theorem neR_ii (i j : Int) (μ : Mu) (Q : VK3) : neR (.int i) (.int j) μ Q = Q (.bl (!decide (i = j))) μ := rfl
theorem neR_ss (i j : Str) (μ : Mu) (Q : VK3) : neR (.str i) (.str j) μ Q = Q (.bl (!decide (i = j))) μ := rfl
theorem neR_bb (i j : Bool) (μ : Mu) (Q : VK3) : neR (.bl i) (.bl j) μ Q = Q (.bl (!decide (i = j))) μ := rfl
/-- == of data, x and y not both scalars -/
theorem eqR_dat {x y : D} {μ : Mu} {Q : VK3} {p q : PyData} (e : eqS x y = none) (h1 : datM μ x = some p) (h2 : datM μ y = some q) (d1 : p.depth ≤ 64) (d2 : q.depth ≤ 64) : eqR x y μ Q = Q (.bl (PyData.eqv p q)) μ := by
  unfold eqR; rw [e]; simp only [h1, h2, d1, d2, true_and, and_self]
theorem neR_dat {x y : D} {μ : Mu} {Q : VK3} {p q : PyData} (e : eqS x y = none) (h1 : datM μ x = some p) (h2 : datM μ y = some q) (d1 : p.depth ≤ 64) (d2 : q.depth ≤ 64) : neR x y μ Q = Q (.bl (!PyData.eqv p q)) μ := by
  unfold neR; rw [e]; simp only [h1, h2, d1, d2, true_and, and_self]
noncomputable def strs? : List D → Option (List Str)
  | [] => some []
  | .str x :: r => match strs? r with
    | some l => some (x :: l)
    | none => none
  | _ :: _ => none
/-- in, of data -/
noncomputable def inD (neg : Bool) : R3 := fun x y μ Q => match datM μ x, datM μ y with
  | some d, some (.list xs) => (d.depth ≤ 64 ∧ (PyData.list xs).depth ≤ 64) ∧ Q (.bl (if neg then !(xs.any fun e => PyData.eqv e d) else xs.any fun e => PyData.eqv e d)) μ
  | some d, some (.tuple xs) => (d.depth ≤ 64 ∧ (PyData.tuple xs).depth ≤ 64) ∧ Q (.bl (if neg then !(xs.any fun e => PyData.eqv e d) else xs.any fun e => PyData.eqv e d)) μ
  | _, _ => False
noncomputable def inR (neg : Bool) : R3 := fun x y μ Q => match x, y with
  | .str z, .tup l => match strs? l with
    | some zs => Q (.bl (if neg then !zs.contains z else zs.contains z)) μ
    | none => inD neg (.str z) (.tup l) μ Q
  | .str z, .str y => Q (.bl (if neg then !(!(Builtin.Str.occurrences y z 0 y.length 1).isEmpty) else !(Builtin.Str.occurrences y z 0 y.length 1).isEmpty)) μ
  | x, y => inD neg x y μ Q
noncomputable def ixR : R3 := fun x y μ Q => match x, y with
  | .tup l, .int i => match atI l i with
    | some d => Q d μ
    | none => False
  | .fls l, .int i => match atI l i with
    | some d => Q d μ
    | none => False
  | .ref p, .int i => match μ p with
    | some (.lst l) => match atI l i with
      | some d => Q d μ
      | none => False
    | _ => False
  | _, _ => False
noncomputable def lenR : C3 := fun ds μ Q => match ds with
  | [.tup l] => Q (.int l.length) μ
  | [.fls l] => Q (.int l.length) μ
  | [.str z] => z.length ≤ sizeLine ∧ Q (.int z.length) μ
  | [.ref p] => match μ p with
    | some (.lst l) => Q (.int l.length) μ
    | _ => False
  | _ => False
noncomputable def absR : C3 := fun ds μ Q => match ds with
  | [.int i] => Q (.int (if i < 0 then -i else i)) μ
  | _ => False
noncomputable def intR : C3 := fun ds μ Q => match ds with
  | [.int i] => Q (.int i) μ
  | [.bl b] => Q (.int (if b then 1 else 0)) μ
  | [.str z] => match PySem.intText? z with
    | some n => z.length ≤ 640 ∧ Q (.int n) μ
    | none => False
  | _ => False
/-- str(i) -/
noncomputable def strR : C3 := fun ds μ Q => match ds with
  | [.int i] => i.natAbs.log2 < 1920 ∧ Q (.str (toString i)) μ
  | _ => False
/-- a method of a text -/
noncomputable def smt3 (r : Str → List D → Mu → VK3 → Prop) (to : TE3) (t : TA3) : TE3 := fun ρ μ Q => to ρ μ fun x μ1 => match x with
  | .str z => t ρ μ1 fun ds μ2 => r z ds μ2 Q
  | _ => False
noncomputable def joinR : Str → List D → Mu → VK3 → Prop := fun z ds μ Q => match ds with
  | [.ref p] => match μ p with
    | some (.lst l) => match strs? l with
      | some ys => (z.length ≤ 16 ∧ (ys.map (·.length)).sum + ys.length ≤ 1048576) ∧ Q (.str (Str.join z ys)) μ
      | none => False
    | _ => False
  | _ => False
noncomputable def splitR : Str → List D → Mu → VK3 → Prop := fun z ds μ Q => match ds with
  | [.str y] => ((y.length == 0) = false ∧ z.length ≤ 1000000) ∧ ∀ r, μ r = none → Q (.ref r) (updM μ r (.lst ((Txt.split z y).map D.str)))
  | _ => False
noncomputable def startsR : Str → List D → Mu → VK3 → Prop := fun z ds μ Q => match ds with
  | [.str y] => Q (.bl (Txt.startswith z y)) μ
  | _ => False
/-- xs.pop() -/
noncomputable def pop3 (to : TE3) : TE3 := fun ρ μ Q => to ρ μ fun x μ1 => match x with
  | .ref p => match μ1 p with
    | some (.lst l) => match l.reverse with
      | d :: r => Q d (updM μ1 p (.lst r.reverse))
      | [] => False
    | _ => False
  | _ => False
/-- list(reversed(xs)) -/
noncomputable def lrev3 (to : TE3) : TE3 := fun ρ μ Q => cons3 to nil3 ρ μ fun ds μ1 => match ds with
  | [.ref p] => match μ1 p with
    | some (.lst l) => ∀ r, μ1 r = none → Q (.ref r) (updM μ1 r (.lst l.reverse))
    | _ => False
  | _ => False
noncomputable def tupR : C3 := fun ds μ Q => match ds with
  | [.tup l] => Q (.tup l) μ
  | [.ref p] => match μ p with
    | some (.lst l) => Q (.tup l) μ
    | _ => False
  | _ => False
noncomputable def ints? : List D → Option (List Int)
  | [] => some []
  | .int x :: r => match ints? r with
    | some l => some (x :: l)
    | none => none
  | _ :: _ => none
noncomputable def sumR : C3 := fun ds μ Q => match ds with
  | [.ref p] => match μ p with
    | some (.lst l) => match ints? l with
      | some ns => Q (.int ns.sum) μ
      | none => False
    | _ => False
  | _ => False
noncomputable def bls? : List D → Option (List Bool)
  | [] => some []
  | .bl x :: r => match bls? r with
    | some l => some (x :: l)
    | none => none
  | _ :: _ => none
noncomputable def tyN (μ : Mu) : D → Option String
  | .int _ => some "int"
  | .bl _ => some "bool"
  | .str _ => some "str"
  | .tup _ => some "tuple"
  | .non => some "NoneType"
  | .ref p => match μ p with
    | some (.lst _) => some "list"
    | _ => none
  | _ => none
noncomputable def isIn (t T : String) : Option Bool :=
  if t = T then some true
  else if t = "bool" ∧ T = "int" then some true
  else if (t = "int" ∨ t = "str" ∨ t = "tuple" ∨ t = "bool" ∨ t = "NoneType" ∨ t = "list") ∧ (T = "int" ∨ T = "str" ∨ T = "tuple" ∨ T = "bool" ∨ T = "list") then some false
  else none
noncomputable def isiR : C3 := fun ds μ Q => match ds with
  | [d, .ty T] => match tyN μ d with
    | some t => match isIn t T with
      | some b => Q (.bl b) μ
      | none => False
    | none => False
  | _ => False
noncomputable def appR : D → List D → Mu → VK3 → Prop := fun x ds μ Q => match x, ds with
  | .ref p, [d] => match μ p with
    | some (.lst l) => l.length < sizeLine ∧ Q .non (updM μ p (.lst (l ++ [d])))
    | _ => False
  | _, _ => False
noncomputable def extR : D → List D → Mu → VK3 → Prop := fun x ds μ Q => match x, ds with
  | .ref p, [.ref q] => match μ p, μ q with
    | some (.lst l), some (.lst m) => l.length + m.length ≤ sizeLine ∧ Q .non (updM μ p (.lst (l ++ m)))
    | _, _ => False
  | _, _ => False
theorem atI0 {α : Type} {a : α} {r : List α} : atI (a :: r) 0 = some a := by
  unfold atI ixN; rw [if_pos (by decide), if_pos (by simp only [List.length_cons]; omega)]; rfl
theorem atI1 {α : Type} {a b : α} {r : List α} : atI (a :: b :: r) 1 = some b := by
  unfold atI ixN; rw [if_pos (by decide), if_pos (by simp only [List.length_cons]; omega)]; rfl
theorem atI2 {α : Type} {a b c : α} {r : List α} : atI (a :: b :: c :: r) 2 = some c := by
  unfold atI ixN; rw [if_pos (by decide), if_pos (by simp only [List.length_cons]; omega)]; rfl
theorem ixN0 {n : Nat} : ixN (n + 1) 0 = some 0 := by
  unfold ixN; rw [if_pos (by decide), if_pos (by omega)]; rfl
theorem ixN1 {n : Nat} : ixN (n + 1 + 1) 1 = some 1 := by
  unfold ixN; rw [if_pos (by decide), if_pos (by omega)]; rfl
theorem ixN2 {n : Nat} : ixN (n + 1 + 1 + 1) 2 = some 2 := by
  unfold ixN; rw [if_pos (by decide), if_pos (by omega)]; rfl
/-- an atI in bounds -/
theorem atI_in {α : Type} {l : List α} {i : Int} (h0 : 0 ≤ i) (h1 : i < l.length) : ∃ d, d ∈ l ∧ atI l i = some d := by
  have hn : i.toNat < l.length := by omega
  refine ⟨l[i.toNat], List.getElem_mem hn, ?_⟩
  unfold atI ixN
  rw [if_pos h0, if_pos h1]
  exact List.getElem?_eq_getElem hn
noncomputable def start3 (N : List Str) (ds : List D) : St3 := ds.map some ++ List.replicate (N.length - ds.length) none
end Pv

namespace Pv
open PySem L2
noncomputable abbrev Fg := PySem.W.Frag
/-- tuples and what is frozen stay as they are -/
structure Kp (H H' : Hp) : Prop where
  tup : ∀ b xs, H b = some (.tup xs) → H' b = some (.tup xs)
  frz : ∀ b o u, H b = some (.frz o u) → H' b = some (.frz o u)
theorem Kp.refl (H : Hp) : Kp H H := ⟨fun _ _ h => h, fun _ _ _ h => h⟩
theorem Kp.trans {a b c : Hp} (h : Kp a b) (k : Kp b c) : Kp a c := ⟨fun x xs q => k.tup x xs (h.tup x xs q), fun x o u q => k.frz x o u (h.frz x o u q)⟩
/-- a new object, or a list written -/
theorem Kp.new {H : Hp} {p : Addr} {o : HO} (h : H p = none) : Kp H (upd H p o) :=
  ⟨fun b xs q => by rw [upd_ne (ne_of_none q h)]; exact q, fun b o u q => by rw [upd_ne (ne_of_none q h)]; exact q⟩
theorem Kp.wr {H : Hp} {p : Addr} {o : HO} {xs : List V} (h : H p = some (.lst xs)) : Kp H (upd H p o) :=
  ⟨fun b ys q => by rw [upd_ne (ne_of q h (by intro z; cases z))]; exact q, fun b o u q => by rw [upd_ne (ne_of q h (by intro z; cases z))]; exact q⟩
/-- a list that is never written: frozen, or an object of the module -/
noncomputable def SqF (K : Fg) (H : Hp) (a : Addr) (xs : List V) : Prop :=
  (∃ o, H a = some (.frz o (.lst xs))) ∨ ∃ (o : Obj) (its : Array Value) (n : Nat), K.lookup a = some o ∧ o.cls = .type "list" ∧ o.dict = none ∧ o.data = .seq its n ∧ its.size ≤ sizeLine ∧ Vals xs its.toList
theorem SqF.l {K : Fg} {H : Hp} {a : Addr} {xs : List V} (h : SqF K H a xs) : SqL K H a xs := by
  rcases h with ⟨o, h⟩ | h
  · exact .inl (.inr ⟨o, h⟩)
  · exact .inr h
theorem SqF.mono {K : Fg} {H H' : Hp} {a : Addr} {xs : List V} (k : Kp H H') (h : SqF K H a xs) : SqF K H' a xs := by
  rcases h with ⟨o, h⟩ | h
  · exact .inl ⟨o, k.frz _ _ _ h⟩
  · exact .inr h
theorem SqT.mono {K : Fg} {H H' : Hp} {a : Addr} {xs : List V} (k : Kp H H') (h : SqT K H a xs) : SqT K H' a xs := by
  rcases h with h | h
  · rcases h with h | ⟨o, h⟩
    · exact .inl (.inl (k.tup _ _ h))
    · exact .inl (.inr ⟨o, k.frz _ _ _ h⟩)
  · exact .inr h
mutual
inductive RelD (K : Fg) (H : Hp) : D → V → Prop where
  | non : RelD K H .non .non
  | bl (b : Bool) : RelD K H (.bl b) (.bl b)
  | int (i : Int) : RelD K H (.int i) (.int i)
  | str (x : Str) : RelD K H (.str x) (.str x)
  | ref (a : Addr) : RelD K H (.ref a) (.ref a)
  | ty (n : String) : RelD K H (.ty n) (.ty n)
  | tup {a : Addr} {l : List D} {vs : List V} : SqT K H a vs → RelDs K H l vs → RelD K H (.tup l) (.ref a)
  | fls {a : Addr} {l : List D} {vs : List V} : SqF K H a vs → RelDs K H l vs → RelD K H (.fls l) (.ref a)
  | exc {a C : Addr} {c : Str} {ob : Obj} {u : HO} : H a = some (.frz ob u) → ob.cls = .ref C → PySem.W.nsIn K mainGlobals c = some (some (.ref C)) → RelD K H (.exc c) (.ref a)
inductive RelDs (K : Fg) (H : Hp) : List D → List V → Prop where
  | nil : RelDs K H [] []
  | cons {d : D} {v : V} {l : List D} {vs : List V} : RelD K H d v → RelDs K H l vs → RelDs K H (d :: l) (v :: vs)
end
mutual
theorem RelD.mono {K : Fg} {H H' : Hp} (k : Kp H H') : ∀ {d : D} {v : V}, RelD K H d v → RelD K H' d v
  | _, _, .non => .non
  | _, _, .bl b => .bl b
  | _, _, .int b => .int b
  | _, _, .str b => .str b
  | _, _, .ref b => .ref b
  | _, _, .ty b => .ty b
  | _, _, .tup h r => .tup (SqT.mono k h) (RelDs.mono k r)
  | _, _, .fls h r => .fls (SqF.mono k h) (RelDs.mono k r)
  | _, _, .exc h r1 r2 => .exc (k.frz _ _ _ h) r1 r2
theorem RelDs.mono {K : Fg} {H H' : Hp} (k : Kp H H') : ∀ {d : List D} {v : List V}, RelDs K H d v → RelDs K H' d v
  | _, _, .nil => .nil
  | _, _, .cons h r => .cons (RelD.mono k h) (RelDs.mono k r)
end
theorem RelDs.length {K : Fg} {H : Hp} : ∀ {l : List D} {vs : List V}, RelDs K H l vs → l.length = vs.length
  | _, _, .nil => rfl
  | _, _, .cons _ r => congrArg (· + 1) r.length
theorem RelDs.get {K : Fg} {H : Hp} : ∀ {l : List D} {vs : List V} {i : Nat} {d : D}, RelDs K H l vs → l[i]? = some d → ∃ v, vs[i]? = some v ∧ RelD K H d v
  | _, _, _, _, .nil, e => by simp at e
  | _, _, 0, _, .cons h _, e => by simp at e; subst e; exact ⟨_, rfl, h⟩
  | _, _, i + 1, d, .cons _ r, e => by
    obtain ⟨v, h1, h2⟩ := RelDs.get (i := i) (d := d) r (by simpa using e)
    exact ⟨v, by simpa using h1, h2⟩
theorem RelDs.append {K : Fg} {H : Hp} : ∀ {l m : List D} {vs us : List V}, RelDs K H l vs → RelDs K H m us → RelDs K H (l ++ m) (vs ++ us)
  | _, _, _, _, .nil, q => q
  | _, _, _, _, .cons h r, q => .cons h (RelDs.append r q)
theorem RelDs.set {K : Fg} {H : Hp} {d : D} {v : V} (hd : RelD K H d v) : ∀ {l : List D} {vs : List V} (i : Nat), RelDs K H l vs → RelDs K H (l.set i d) (vs.set i v)
  | _, _, _, .nil => .nil
  | _, _, 0, .cons _ r => .cons hd r
  | _, _, i + 1, .cons h r => .cons h (RelDs.set hd i r)
theorem RelDs.take {K : Fg} {H : Hp} : ∀ {l : List D} {vs : List V} (n : Nat), RelDs K H l vs → RelDs K H (l.take n) (vs.take n)
  | _, _, 0, r => by simp only [List.take_zero]; exact .nil
  | _, _, n + 1, .nil => by simp only [List.take_nil]; exact .nil
  | _, _, n + 1, .cons h r => by simp only [List.take_succ_cons]; exact .cons h (RelDs.take n r)
theorem RelDs.drop {K : Fg} {H : Hp} : ∀ {l : List D} {vs : List V} (n : Nat), RelDs K H l vs → RelDs K H (l.drop n) (vs.drop n)
  | _, _, 0, r => by simp only [List.drop_zero]; exact r
  | _, _, n + 1, .nil => by simp only [List.drop_nil]; exact .nil
  | _, _, n + 1, .cons h r => by simp only [List.drop_succ_cons]; exact RelDs.drop n r
theorem RelDs.rep {K : Fg} {H : Hp} {l : List D} {vs : List V} (r : RelDs K H l vs) : ∀ k : Nat, RelDs K H (List.replicate k l).flatten (List.replicate k vs).flatten
  | 0 => .nil
  | k + 1 => by rw [List.replicate_succ, List.replicate_succ, List.flatten_cons, List.flatten_cons]; exact r.append (RelDs.rep r k)
theorem RelDs.reverse {K : Fg} {H : Hp} : ∀ {l : List D} {vs : List V}, RelDs K H l vs → RelDs K H l.reverse vs.reverse
  | _, _, .nil => .nil
  | _, _, .cons h r => by rw [List.reverse_cons, List.reverse_cons]; exact (RelDs.reverse r).append (.cons h .nil)
inductive RelFs (K : Fg) (H : Hp) : List (Str × D) → List (Str × V) → Prop where
  | nil : RelFs K H [] []
  | cons {f : Str} {d : D} {v : V} {l : List (Str × D)} {vs : List (Str × V)} : RelD K H d v → RelFs K H l vs → RelFs K H ((f, d) :: l) ((f, v) :: vs)
theorem RelFs.mono {K : Fg} {H H' : Hp} (k : Kp H H') {l : List (Str × D)} {vs : List (Str × V)} (r : RelFs K H l vs) : RelFs K H' l vs := by
  induction r with
  | nil => exact .nil
  | cons h _ ih => exact .cons (h.mono k) ih
/-- the lists and objects that may be written -/
structure RelM (K : Fg) (μ : Mu) (H : Hp) : Prop where
  lst : ∀ p xs, μ p = some (.lst xs) → ∃ vs, H p = some (.lst vs) ∧ RelDs K H xs vs
  ins : ∀ p c fs, μ p = some (.ins c fs) → ∃ C dx vs, PySem.W.nsIn K mainGlobals c = some (some (.ref C)) ∧ H p = some (.ins C dx vs) ∧ H dx = some (.own p) ∧ RelFs K H fs vs
instance {K : Fg} {μ : Mu} {H : Hp} : CoeFun (RelM K μ H) (fun _ => ∀ p xs, μ p = some (.lst xs) → ∃ vs, H p = some (.lst vs) ∧ RelDs K H xs vs) := ⟨RelM.lst⟩
theorem RelM.free {K : Fg} {μ : Mu} {H : Hp} (m : RelM K μ H) {p : Addr} (h : H p = none) : μ p = none := by
  cases e : μ p with
  | none => rfl
  | some o =>
    cases o with
    | lst xs =>
      obtain ⟨vs, q, _⟩ := m.lst p xs e
      rw [h] at q; cases q
    | ins c fs =>
      obtain ⟨C, dx, vs, _, q, _⟩ := m.ins p c fs e
      rw [h] at q; cases q
theorem RelM.newT {K : Fg} {μ : Mu} {H : Hp} {p : Addr} {o : HO} (h : H p = none) (m : RelM K μ H) : RelM K μ (upd H p o) := by
  have ne : ∀ {q : Addr} {u : HO}, H q = some u → q ≠ p := fun {q u} e z => by subst z; rw [h] at e; cases e
  refine ⟨fun q xs e => ?_, fun q c fs e => ?_⟩
  · obtain ⟨vs, q1, r⟩ := m.lst q xs e
    exact ⟨vs, by rw [upd_ne (ne q1)]; exact q1, r.mono (Kp.new h)⟩
  · obtain ⟨C, dx, vs, n, q1, q2, r⟩ := m.ins q c fs e
    exact ⟨C, dx, vs, n, by rw [upd_ne (ne q1)]; exact q1, by rw [upd_ne (ne q2)]; exact q2, r.mono (Kp.new h)⟩
theorem RelM.newL {K : Fg} {μ : Mu} {H : Hp} {p : Addr} {xs : List D} {vs : List V} (h : H p = none) (r : RelDs K H xs vs) (m : RelM K μ H) : RelM K (updM μ p (.lst xs)) (upd H p (.lst vs)) := by
  have m' := m.newT (o := .lst vs) h
  refine ⟨fun q ys e => ?_, fun q c fs e => ?_⟩
  · by_cases z : q = p
    · subst z
      rw [updM_same] at e; cases e
      exact ⟨vs, upd_same, r.mono (Kp.new h)⟩
    · rw [updM_ne z] at e
      exact m'.lst q ys e
  · by_cases z : q = p
    · subst z
      rw [updM_same] at e; cases e
    · rw [updM_ne z] at e
      exact m'.ins q c fs e
theorem RelM.wr {K : Fg} {μ : Mu} {H : Hp} {p : Addr} {xs : List D} {vs ws : List V} (h : H p = some (.lst ws)) (r : RelDs K H xs vs) (m : RelM K μ H) : RelM K (updM μ p (.lst xs)) (upd H p (.lst vs)) := by
  refine ⟨fun q ys e => ?_, fun q c fs e => ?_⟩
  · by_cases z : q = p
    · subst z
      rw [updM_same] at e; cases e
      exact ⟨vs, upd_same, r.mono (Kp.wr h)⟩
    · rw [updM_ne z] at e
      rw [upd_ne z]
      obtain ⟨us, q1, r1⟩ := m.lst q ys e
      exact ⟨us, q1, r1.mono (Kp.wr h)⟩
  · by_cases z : q = p
    · subst z
      rw [updM_same] at e; cases e
    · rw [updM_ne z] at e
      obtain ⟨C, dx, us, n, q1, q2, r1⟩ := m.ins q c fs e
      refine ⟨C, dx, us, n, by rw [upd_ne z]; exact q1, ?_, r1.mono (Kp.wr h)⟩
      rw [upd_ne]
      · exact q2
      · intro y; subst y; rw [h] at q2; cases q2
/-- the frame -/
structure RSt (K : Fg) (H : Hp) (ρ : St3) (σ : St) : Prop where
  len : ρ.length = σ.length
  at' : ∀ i d, getI ρ i = some d → ∃ v, σ[i]? = some (some v) ∧ RelD K H d v
theorem RSt.mono {K : Fg} {H H' : Hp} {ρ : St3} {σ : St} (k : Kp H H') (s : RSt K H ρ σ) : RSt K H' ρ σ := ⟨s.len, fun i d e => let ⟨v, h, r⟩ := s.at' i d e; ⟨v, h, r.mono k⟩⟩
theorem getI_set : ∀ (ρ : St3) (i j : Nat) (d : Option D), getI (ρ.set i d) j = if i = j ∧ i < ρ.length then d else getI ρ j
  | [], i, j, d => by simp [getI]
  | o :: r, 0, 0, d => by simp [getI]
  | o :: r, 0, j + 1, d => by simp [getI]
  | o :: r, i + 1, 0, d => by simp [getI]
  | o :: r, i + 1, j + 1, d => by simp only [List.set_cons_succ, getI, getI_set r i j d, List.length_cons]; simp
theorem RSt.set {K : Fg} {H : Hp} {ρ : St3} {σ : St} {d : D} {v : V} (i : Nat) (r : RelD K H d v) (s : RSt K H ρ σ) : RSt K H (ρ.set i (some d)) (σ.set i (some v)) := by
  refine ⟨by simp [s.len], fun j e h => ?_⟩
  rw [getI_set] at h
  split at h
  · next c =>
    obtain ⟨rfl, c2⟩ := c
    cases h
    exact ⟨v, by rw [List.getElem?_set_self (by rw [← s.len]; exact c2)], r⟩
  · next c =>
    obtain ⟨u, q, r'⟩ := s.at' j e h
    have hj : j < σ.length := (List.getElem?_eq_some_iff.mp q).1
    by_cases z : i = j
    · subst z; exact absurd ⟨rfl, by rw [s.len]; exact hj⟩ c
    · exact ⟨u, by rw [List.getElem?_set_ne z]; exact q, r'⟩
theorem RSt.start {K : Fg} {H : Hp} {ds : List D} {vs : List V} (N : List Str) (r : RelDs K H ds vs) : RSt K H (start3 N ds) (L2.start N vs) := by
  have hl := r.length
  refine ⟨by simp [start3, L2.start, hl], fun i d e => ?_⟩
  rw [getI_eq] at e
  unfold start3 at e
  unfold L2.start
  by_cases c : i < ds.length
  · rw [List.getElem?_append_left (by simpa using c), List.getElem?_map] at e
    cases q : ds[i]? with
    | none => rw [q] at e; cases e
    | some d' =>
      rw [q] at e
      have e' : d' = d := by simpa using e
      subst e'
      obtain ⟨v, h1, h2⟩ := r.get q
      exact ⟨v, by rw [List.getElem?_append_left (by rw [List.length_map]; omega), List.getElem?_map, h1]; rfl, h2⟩
  · rw [List.getElem?_append_right (by simpa using c), List.getElem?_replicate] at e
    split at e <;> simp at e

/-! ### what a reading is worth: what is wanted of the value (Q3) leads to what is wanted below (Q) -/
noncomputable abbrev Ks (K : Fg) (H : Hp) (Q3 : VK3) (Q : VK) : Prop := ∀ d μ' v H', Q3 d μ' → Kp H H' → RelD K H' d v → RelM K μ' H' → Q v H'
theorem Ks.after {K : Fg} {H H1 : Hp} {Q3 : VK3} {Q : VK} (k : Ks K H Q3 Q) (e : Kp H H1) : Ks K H1 Q3 Q := fun d μ v H' q e' => k d μ v H' q (e.trans e')
noncomputable def RdE (K : Fg) (tv : TE) (t : TE3) : Prop := ∀ σ H Q ρ μ Q3, RSt K H ρ σ → RelM K μ H → t ρ μ Q3 → Ks K H Q3 Q → tv σ H Q
noncomputable def RE (X : Cx) (e : Expr) (t : TE3) : Prop := ∃ tv, PE X e tv ∧ RdE X.K tv t
noncomputable def RdT (K : Fg) (tv : TT) (t : TT3) : Prop := ∀ σ H Q ρ μ Q3, RSt K H ρ σ → RelM K μ H → t ρ μ Q3 → (∀ b μ' H', Q3 b μ' → Kp H H' → RelM K μ' H' → Q b H') → tv σ H Q
noncomputable def RT (X : Cx) (e : Expr) (t : TT3) : Prop := ∃ tv, PT X e tv ∧ RdT X.K tv t
noncomputable def RW (X : Cx) (e : Expr) (t : TT3) : Prop := ∃ tv, PW X e tv ∧ RdT X.K tv t
noncomputable def RdA (K : Fg) (tv : TA) (t : TA3) : Prop := ∀ σ H Q ρ μ Q3, RSt K H ρ σ → RelM K μ H → t ρ μ Q3 → (∀ ds μ' vs H', Q3 ds μ' → Kp H H' → RelDs K H' ds vs → RelM K μ' H' → Q vs H') → tv σ H Q
noncomputable def RA (X : Cx) (es : List Expr) (t : TA3) : Prop := ∃ tv, PA X es tv ∧ RdA X.K tv t
/-- the ends of a statement -/
structure KsD (K : Fg) (H : Hp) (D3 : Ends3) (D : Ends) : Prop where
  nx : ∀ ρ μ σ H', D3.nx ρ μ → Kp H H' → RSt K H' ρ σ → RelM K μ H' → D.nx σ H'
  bk : ∀ ρ μ σ H', D3.bk ρ μ → Kp H H' → RSt K H' ρ σ → RelM K μ H' → D.bk σ H'
  ct : ∀ ρ μ σ H', D3.ct ρ μ → Kp H H' → RSt K H' ρ σ → RelM K μ H' → D.ct σ H'
  rt : Ks K H D3.rt D.rt
theorem KsD.after {K : Fg} {H H1 : Hp} {D3 : Ends3} {D : Ends} (k : KsD K H D3 D) (e : Kp H H1) : KsD K H1 D3 D :=
  ⟨fun ρ μ σ H' q e' => k.nx ρ μ σ H' q (e.trans e'), fun ρ μ σ H' q e' => k.bk ρ μ σ H' q (e.trans e'), fun ρ μ σ H' q e' => k.ct ρ μ σ H' q (e.trans e'), k.rt.after e⟩
noncomputable def RdS (K : Fg) (tv : TS) (t : TS3) : Prop := ∀ σ H D ρ μ D3, RSt K H ρ σ → RelM K μ H → t D3 ρ μ → KsD K H D3 D → tv D σ H
noncomputable def RS (X : Cx) (st : Stmt) (t : TS3) : Prop := ∃ tv, PS X st tv ∧ RdS X.K tv t
noncomputable def RSs (X : Cx) (st : List Stmt) (t : TS3) : Prop := ∃ tv, PSs X st tv ∧ RdS X.K tv t
noncomputable def RdG (K : Fg) (tv : TG) (t : TG3) : Prop := ∀ v d σ H Q ρ μ Q3, RSt K H ρ σ → RelM K μ H → RelD K H d v → t d ρ μ Q3 → (∀ ρ' μ' σ' H', Q3 ρ' μ' → Kp H H' → RSt K H' ρ' σ' → RelM K μ' H' → Q σ' H') → tv v σ H Q
noncomputable def RG (X : Cx) (e : Expr) (t : TG3) : Prop := ∃ tv, PG X e tv ∧ RdG X.K tv t
/-- operations -/
noncomputable def RdO (K : Fg) (r : R2) (r3 : R3) : Prop := ∀ x y v u H Q μ Q3, RelM K μ H → RelD K H x v → RelD K H y u → r3 x y μ Q3 → Ks K H Q3 Q → r v u H Q
noncomputable def RO (X : Cx) (f : Value → Value → Sem Value) (r3 : R3) : Prop := ∃ r, OpR X f r ∧ RdO X.K r r3
noncomputable def RdU (K : Fg) (r : V → Hp → VK → Prop) (r3 : D → Mu → VK3 → Prop) : Prop := ∀ x v H Q μ Q3, RelM K μ H → RelD K H x v → r3 x μ Q3 → Ks K H Q3 Q → r v H Q
noncomputable def RU (X : Cx) (f : Value → Sem Value) (r3 : D → Mu → VK3 → Prop) : Prop := ∃ r, UnR X f r ∧ RdU X.K r r3
noncomputable def RdC (K : Fg) (r : List V → Hp → VK → Prop) (r3 : C3) : Prop := ∀ xs vs H Q μ Q3, RelM K μ H → RelDs K H xs vs → r3 xs μ Q3 → Ks K H Q3 Q → r vs H Q
noncomputable def RC (X : Cx) (f : Value) (r3 : C3) : Prop := ∃ r, CallR X f r ∧ RdC X.K r r3
noncomputable def RX (X : Cx) (r3 : R3) : Prop := ∃ r, IxR X r ∧ RdO X.K r r3
end Pv

namespace Pv
open PySem L2
section
variable {X : Cx} {a b c e : Expr} {ta tb tc te : TE3} {pos : Pos}
/-! ### names, constants -/
theorem re_var (i : Nat) {x : Str} (hN : X.N[i]? = some x := by rfl) (hv : Vis X.env.scope x := by first | exact Or.inl rfl | exact Or.inr (Or.inl rfl) | exact Or.inr (Or.inr rfl)) (hd : (x == ("__debug__" : Str)) = false := by decide)
    (hcd : (x == ("__classdict__" : Str)) = false := by decide) : RE X (.Name x pos) (v3 i) := by
  refine ⟨_, pe_var hN hv hd hcd, fun σ H Q ρ μ Q3 s m h k => ?_⟩
  unfold v3 at h
  cases q : getI ρ i with
  | none => rw [q] at h; exact h.elim
  | some d =>
    rw [q] at h
    obtain ⟨v, e, r⟩ := s.at' i d q
    exact ⟨v, e, k d μ v H h (Kp.refl H) r m⟩
theorem RdE.cst {K : Fg} {d : D} {v : V} (r : ∀ H, RelD K H d v) : RdE K (tC v) (c3 d) := fun σ H Q ρ μ Q3 s m h k => k d μ v H h (Kp.refl H) (r H) m
theorem re_int {i : Int} {j} : RE X (.Constant (.int i) j pos) (c3 (.int i)) := ⟨_, pe_int, RdE.cst fun _ => .int i⟩
theorem re_bl {i : Bool} {j} : RE X (.Constant (.bool i) j pos) (c3 (.bl i)) := ⟨_, pe_bl, RdE.cst fun _ => .bl i⟩
theorem re_str {x : Str} {j} : RE X (.Constant (.str x) j pos) (c3 (.str x)) := ⟨_, pe_str, RdE.cst fun _ => .str x⟩
/-- a name of the module that stands for a value -/
noncomputable def Gd (K : Fg) (mg : Str → Option Value) (x : Str) (d : D) : Prop := ∃ u v, mg x = some u ∧ RelV v u ∧ ∀ H, RelD K H d v
theorem re_g {x : Str} {d : D} (g : Gd X.K X.mg x d) (hg : Gl X x := by rfl) (hd : (x == ("__debug__" : Str)) = false := by decide) : RE X (.Name x pos) (c3 d) := by
  obtain ⟨u, v, hm, r, rd⟩ := g
  exact ⟨_, pe_glob hg hm r hd, RdE.cst rd⟩
theorem re_ty {x : Str} {T : String} (hm : X.mg x = none) (hv : bootBuiltins x = some (.type T)) (hg : Gl X x := by rfl) (hn : x ≠ "__name__" := by decide) (hd : (x == ("__debug__" : Str)) = false := by decide) : RE X (.Name x pos) (c3 (.ty T)) :=
  ⟨_, pe_bltn hg hm hv (show RelV (.ty T) (.type T) from rfl) hn hd, RdE.cst fun _ => .ty T⟩
/-! ### operators -/
theorem re_op {op : Operator} {r3 : R3} (ho : RO X (binaryOp op) r3) (ha : RE X a ta) (hb : RE X b tb) : RE X (.BinOp a op b pos) (o3 r3 ta tb) := by
  obtain ⟨r, po, ro⟩ := ho
  obtain ⟨va, pa, ra⟩ := ha
  obtain ⟨vb, pb, rb⟩ := hb
  exact ⟨_, pe_op po pa pb, fun σ H Q ρ μ Q3 s m h k => ra σ H _ ρ μ _ s m h fun x μ1 v H1 h1 k1 r1 m1 => rb σ H1 _ ρ μ1 _ (s.mono k1) m1 h1 fun y μ2 u H2 h2 k2 r2 m2 =>
    ro x y v u H2 Q μ2 Q3 m2 (r1.mono k2) r2 h2 (k.after (k1.trans k2))⟩
theorem re_un {op : UnaryOp} {r3 : D → Mu → VK3 → Prop} (ho : RU X (unaryOp op) r3) (ha : RE X a ta) : RE X (.UnaryOp op a pos) (un3 r3 ta) := by
  obtain ⟨r, po, ro⟩ := ho
  obtain ⟨va, pa, ra⟩ := ha
  exact ⟨_, pe_un po pa, fun σ H Q ρ μ Q3 s m h k => ra σ H _ ρ μ _ s m h fun x μ1 v H1 h1 k1 r1 m1 => ro x v H1 Q μ1 Q3 m1 r1 h1 (k.after k1)⟩
theorem RdE.op {K : Fg} {r : R2} {r3 : R3} {va vb : TE} (ra : RdE K va ta) (rb : RdE K vb tb) (ro : RdO K r r3) : RdE K (tOp r va vb) (o3 r3 ta tb) := fun σ H Q ρ μ Q3 s m h k =>
  ra σ H _ ρ μ _ s m h fun x μ1 v H1 h1 k1 r1 m1 => rb σ H1 _ ρ μ1 _ (s.mono k1) m1 h1 fun y μ2 u H2 h2 k2 r2 m2 => ro x y v u H2 Q μ2 Q3 m2 (r1.mono k2) r2 h2 (k.after (k1.trans k2))
theorem RdT.test {K : Fg} {va : TE} (ra : RdE K va ta) : RdT K (tTest va) (b3 ta) := fun σ H Q ρ μ Q3 s m h k => by
  refine ra σ H _ ρ μ _ s m h fun d μ1 v H1 h1 k1 r1 m1 => ?_
  cases r1 with
  | bl c => exact ⟨c, rfl, k c μ1 H1 h1 k1 m1⟩
  | _ => exact False.elim h1
theorem re_cmp {op : CmpOp} {r3 : R3} (ho : RO X (compareOp op) r3) (ha : RE X a ta) (hb : RE X b tb) (hm : behindInMarks op b = false := by first | exact nomark _ | with_unfolding_all rfl) : RE X (.Compare a [op] [b] pos) (o3 r3 ta tb) := by
  obtain ⟨r, po, ro⟩ := ho
  obtain ⟨va, pa, ra⟩ := ha
  obtain ⟨vb, pb, rb⟩ := hb
  exact ⟨_, pe_cmpR po pa pb hm, ra.op rb ro⟩
theorem rt_cmp {op : CmpOp} {r3 : R3} (ho : RO X (compareOp op) r3) (ha : RE X a ta) (hb : RE X b tb) (hm : behindInMarks op b = false := by first | exact nomark _ | with_unfolding_all rfl) : RT X (.Compare a [op] [b] pos) (b3 (o3 r3 ta tb)) := by
  obtain ⟨r, po, ro⟩ := ho
  obtain ⟨va, pa, ra⟩ := ha
  obtain ⟨vb, pb, rb⟩ := hb
  exact ⟨_, pt_cmpR po pa pb hm, RdT.test (ra.op rb ro)⟩
theorem rt_val (ha : RE X a ta) (he : ∀ whole, isTrue a X.env whole = (do let v ← whole; standAt a.pos; holding [v] (truthy v)) := by intro _; rfl) : RT X a (b3 ta) := by
  obtain ⟨va, pa, ra⟩ := ha
  exact ⟨_, pt_val pa he, RdT.test ra⟩
variable {tA tB' : TT3} {rest : List Expr}
theorem RW.pt (h : RW X a tA) : RT X a tA := let ⟨t, p, r⟩ := h; ⟨t, p.pt, r⟩
theorem rw_pt (h : RW X a tA) : RT X a tA := h.pt
theorem rw_and1 (h : RT X a tA) : RW X (.BoolOp .And [a] pos) tA := let ⟨t, p, r⟩ := h; ⟨t, pw_and1 p, r⟩
theorem rw_or1 (h : RT X a tA) : RW X (.BoolOp .Or [a] pos) tA := let ⟨t, p, r⟩ := h; ⟨t, pw_or1 p, r⟩
theorem rw_and (ha : RT X a tA) (hb : RW X (.BoolOp .And (b :: rest) pos) tB') : RW X (.BoolOp .And (a :: b :: rest) pos) (and3 tA tB') := by
  obtain ⟨va, pa, ra⟩ := ha
  obtain ⟨vb, pb, rb⟩ := hb
  refine ⟨_, pw_and pa pb, fun σ H Q ρ μ Q3 s m h k => ra σ H _ ρ μ _ s m h fun c μ1 H1 h1 k1 m1 => ?_⟩
  cases c with
  | true => exact rb σ H1 Q ρ μ1 Q3 (s.mono k1) m1 h1 fun b μ' H' q e => k b μ' H' q (k1.trans e)
  | false => exact k _ _ _ h1 k1 m1
theorem rw_or (ha : RT X a tA) (hb : RW X (.BoolOp .Or (b :: rest) pos) tB') : RW X (.BoolOp .Or (a :: b :: rest) pos) (or3 tA tB') := by
  obtain ⟨va, pa, ra⟩ := ha
  obtain ⟨vb, pb, rb⟩ := hb
  refine ⟨_, pw_or pa pb, fun σ H Q ρ μ Q3 s m h k => ra σ H _ ρ μ _ s m h fun c μ1 H1 h1 k1 m1 => ?_⟩
  cases c with
  | true => exact k _ _ _ h1 k1 m1
  | false => exact rb σ H1 Q ρ μ1 Q3 (s.mono k1) m1 h1 fun b μ' H' q e => k b μ' H' q (k1.trans e)
theorem rt_not (ha : RT X a tA) : RT X (.UnaryOp .Not a pos) (not3 tA) := by
  obtain ⟨va, pa, ra⟩ := ha
  exact ⟨_, pt_not pa, fun σ H Q ρ μ Q3 s m h k => ra σ H _ ρ μ _ s m h fun c μ1 H1 h1 k1 m1 => k _ _ _ h1 k1 m1⟩
theorem re_one {op} (h : RE X a ta) : RE X (.BoolOp op [a] pos) ta := let ⟨t, p, r⟩ := h; ⟨t, pe_one p, r⟩
theorem re_and (ha : RE X a ta) (hb : RE X (.BoolOp .And (b :: rest) pos) tb) : RE X (.BoolOp .And (a :: b :: rest) pos) (andV3 ta tb) := by
  obtain ⟨va, pa, ra⟩ := ha
  obtain ⟨vb, pb, rb⟩ := hb
  refine ⟨_, pe_and pa pb, fun σ H Q ρ μ Q3 s m h k => ra σ H _ ρ μ _ s m h fun d μ1 v H1 h1 k1 r1 m1 => ?_⟩
  cases r1 with
  | bl c =>
    refine ⟨c, rfl, ?_⟩
    cases c with
    | true => exact rb σ H1 Q ρ μ1 Q3 (s.mono k1) m1 h1 (k.after k1)
    | false => exact k _ _ _ _ h1 k1 (.bl _) m1
  | _ => exact False.elim h1
theorem re_not (ha : RE X a ta) : RE X (.UnaryOp .Not a pos) (notV3 ta) := by
  obtain ⟨va, pa, ra⟩ := ha
  refine ⟨_, pe_not pa, fun σ H Q ρ μ Q3 s m h k => ra σ H _ ρ μ _ s m h fun d μ1 v H1 h1 k1 r1 m1 => ?_⟩
  cases r1 with
  | bl c => exact ⟨c, rfl, k _ _ _ _ h1 k1 (.bl _) m1⟩
  | _ => exact False.elim h1
/-! ### argument lists, displays -/
variable {es : List Expr} {t : TA3}
theorem ra_nil : RA X [] nil3 := ⟨_, pa_nil, fun σ H Q ρ μ Q3 s m h k => k [] μ [] H h (Kp.refl H) .nil m⟩
theorem ra_cons (ha : RE X e te) (hr : RA X es t) (hs : starEach (e :: es) X.env = (false, eval e X.env) :: starEach es X.env := by rfl) : RA X (e :: es) (cons3 te t) := by
  obtain ⟨va, pa, ra⟩ := ha
  obtain ⟨vb, pb, rb⟩ := hr
  exact ⟨_, pa_cons pa pb hs, fun σ H Q ρ μ Q3 s m h k => ra σ H _ ρ μ _ s m h fun d μ1 v H1 h1 k1 r1 m1 => rb σ H1 _ ρ μ1 _ (s.mono k1) m1 h1 fun ds μ2 vs H2 h2 k2 r2 m2 =>
    k _ _ _ _ h2 (k1.trans k2) (.cons (r1.mono k2) r2) m2⟩
theorem re_tup {x1} (h : RA X es t) : RE X (.Tuple es x1 pos) (tup3 t) := by
  obtain ⟨va, pa, ra⟩ := h
  refine ⟨_, pe_tup pa, fun σ H Q ρ μ Q3 s m h k => ra σ H _ ρ μ _ s m h fun ds μ1 vs H1 h1 k1 r1 m1 => ⟨by rw [← r1.length]; exact h1.1, fun p hp => ?_⟩⟩
  exact k _ _ _ _ h1.2 (k1.trans (Kp.new hp)) (.tup (SqT.of upd_same) (r1.mono (Kp.new hp))) (m1.newT hp)
theorem re_lst (h : RA X es t) : RE X (.List es pos) (lst3 t) := by
  obtain ⟨va, pa, ra⟩ := h
  refine ⟨_, pe_lst pa, fun σ H Q ρ μ Q3 s m h k => ra σ H _ ρ μ _ s m h fun ds μ1 vs H1 h1 k1 r1 m1 => ⟨by rw [← r1.length]; exact h1.1, fun p hp => ?_⟩⟩
  exact k _ _ _ _ (h1.2 p (m1.free hp)) (k1.trans (Kp.new hp)) (.ref p) (m1.newL hp r1)
/-! ### statements -/
variable {st : Stmt} {sts : List Stmt} {t3 u3 : TS3}
theorem rss_nil : RSs X [] next3 := ⟨_, pss_nil, fun σ H D ρ μ D3 s m h k => k.nx ρ μ σ H h (Kp.refl H) s m⟩
theorem rss_one (h : RS X st t3) : RSs X [st] t3 := let ⟨t, p, r⟩ := h; ⟨t, pss_one p, r⟩
theorem rss_cons (h1 : RS X st t3) (h2 : RSs X sts u3) : RSs X (st :: sts) (seq3 t3 u3) := by
  obtain ⟨va, pa, ra⟩ := h1
  obtain ⟨vb, pb, rb⟩ := h2
  refine ⟨_, pss_cons pa pb, fun σ H D ρ μ D3 s m h k => ra σ H _ ρ μ _ s m h ⟨fun ρ1 μ1 σ1 H1 h1 k1 s1 m1 => rb σ1 H1 D ρ1 μ1 D3 s1 m1 h1 (k.after k1), k.bk, k.ct, k.rt⟩⟩
theorem rs_expr (he : RE X e te) (hs : swapsWith e none pos.line X.env = pure false := by rfl) : RS X (.Expr e pos) (drop3 te) := by
  obtain ⟨va, pa, ra⟩ := he
  exact ⟨_, ps_expr pa hs, fun σ H D ρ μ D3 s m h k => ra σ H _ ρ μ _ s m h fun d μ1 v H1 h1 k1 r1 m1 => k.nx ρ μ1 σ H1 h1 k1 (s.mono k1) m1⟩
theorem rs_ret (he : RE X e te) : RS X (.Return (some e) pos) (ret3 te) := by
  obtain ⟨va, pa, ra⟩ := he
  exact ⟨_, ps_ret pa, fun σ H D ρ μ D3 s m h k => ra σ H _ ρ μ _ s m h k.rt⟩
theorem rs_if {as bs : List Stmt} (hc : RT X c tA) (ha : RSs X as t3) (hb : RSs X bs u3) : RS X (.If c as bs pos) (ifs3 tA t3 u3) := by
  obtain ⟨vc, pc, rc⟩ := hc
  obtain ⟨va, pa, ra⟩ := ha
  obtain ⟨vb, pb, rb⟩ := hb
  refine ⟨_, ps_if pc pa pb, fun σ H D ρ μ D3 s m h k => rc σ H _ ρ μ _ s m h fun c μ1 H1 h1 k1 m1 => ?_⟩
  cases c with
  | true => exact ra σ H1 D ρ μ1 D3 (s.mono k1) m1 h1 (k.after k1)
  | false => exact rb σ H1 D ρ μ1 D3 (s.mono k1) m1 h1 (k.after k1)
/-! ### targets -/
theorem rg_name {i : Nat} {x : Str} (hN : X.N.Nodup) (hi : X.N[i]? = some x := by rfl) (hx : Loc X.env.scope x := by first | exact Or.inl rfl | exact Or.inr rfl) (hf : X.fn x = true ∨ X.env.scope.names.lookup x = some .local := by first | exact .inl rfl | exact .inr rfl) :
    RG X (.Name x pos) (gn3 i) := ⟨_, pg_name hN hi hx hf, fun v d σ H Q ρ μ Q3 s m r h k => k _ _ _ _ h (Kp.refl H) (s.set i r) m⟩
theorem rs_set {i : Nat} {x : Str} {pos' : Pos} (hN : X.N.Nodup) (he : RE X e te) (hi : X.N[i]? = some x := by rfl) (hx : Loc X.env.scope x := by first | exact Or.inl rfl | exact Or.inr rfl) (hs : swapsWith e (some (.Name x pos')) pos.line X.env = pure false := by rfl)
    (hf : X.fn x = true ∨ X.env.scope.names.lookup x = some .local := by first | exact .inl rfl | exact .inr rfl) : RS X (.Assign [.Name x pos'] e pos) (set3 i te) := by
  obtain ⟨va, pa, ra⟩ := he
  exact ⟨_, ps_set hN hi hx pa hs hf, fun σ H D ρ μ D3 s m h k => ra σ H _ ρ μ _ s m h fun d μ1 v H1 h1 k1 r1 m1 => k.nx _ _ _ _ h1 k1 ((s.mono k1).set i r1) m1⟩
theorem rs_asg {tg : Expr} {g : TG3} (he : RE X e te) (hg : RG X tg g) (hs : swapsWithSole [tg] e pos.line X.env = pure false := by rfl) (hw : swappedStores [tg] e X.env = pure none := by rfl)
    (h1 : (assignEach [tg] X.env).map (·.2) = [assign tg X.env] := by rfl) : RS X (.Assign [tg] e pos) (asg3 te g) := by
  obtain ⟨va, pa, ra⟩ := he
  obtain ⟨vg, pg, rg⟩ := hg
  exact ⟨_, ps_asg pa pg hs hw h1, fun σ H D ρ μ D3 s m h k => ra σ H _ ρ μ _ s m h fun d μ1 v H1 h1 k1 r1 m1 => rg v d σ H1 _ ρ μ1 _ (s.mono k1) m1 r1 h1 fun ρ' μ' σ' H' q e => k.nx ρ' μ' σ' H' q (k1.trans e)⟩
theorem ixN_eq (n : Nat) (i : Int) : L2.ixN n i = ixN n i := rfl
theorem rg_sub {o i : Expr} {to ti : TE3} (ho : RE X o to) (hi : RE X i ti)
    (ha : ∀ v, assign (.Subscript o i pos) X.env v = (do
      let ov ← holding [v] (eval o X.env)
      let iv ← holding [v, ov] (eval i X.env)
      standAt pos
      holding [v, ov, iv] (setItem ov iv v)
      release [v, ov, iv] []) := by intro _; rfl) : RG X (.Subscript o i pos) (sub3 to ti) := by
  obtain ⟨va, pa, ra⟩ := ho
  obtain ⟨vb, pb, rb⟩ := hi
  refine ⟨_, pg_sub pa pb set_list ha, fun v d σ H Q ρ μ Q3 s m r h k => ra σ H _ ρ μ _ s m h fun o' μ1 ov H1 h1 k1 r1 m1 => rb σ H1 _ ρ μ1 _ (s.mono k1) m1 h1 fun i' μ2 iv H2 h2 k2 r2 m2 => ?_⟩
  cases r1 with
  | ref p =>
    cases r2 with
    | int kk =>
      dsimp only at h2
      cases e : μ2 p with
      | none => rw [e] at h2; exact h2.elim
      | some oo =>
        cases oo with
        | ins _ _ => rw [e] at h2; exact h2.elim
        | lst xs =>
          rw [e] at h2
          dsimp only at h2
          cases e2 : ixN xs.length kk with
          | none => rw [e2] at h2; exact h2.elim
          | some j =>
            rw [e2] at h2
            obtain ⟨vs, hv, rv⟩ := m2 p xs e
            have kk' := k1.trans k2
            refine ⟨p, vs, kk, j, rfl, rfl, hv, by rw [← rv.length]; exact e2, k _ _ _ _ h2 (kk'.trans (Kp.wr hv)) (s.mono (kk'.trans (Kp.wr hv))) (m2.wr hv (rv.set (r.mono kk') j))⟩
    | _ => exact False.elim h2
  | _ => cases r2 <;> exact False.elim h2
end
end Pv

namespace Pv
open PySem PySem.Spec PyProof.Rows L2
/-! ### what is walked -/
/-- the iterator hands out the items of l as long as S holds of the lists -/
noncomputable def ItOk (K : Fg) (J : It) (l : List D) (S : Mu → Prop) (H0 : Hp) : Prop := ∀ i H μ, Kp H0 H → RelM K μ H → S μ →
  (∀ d, l[i]? = some d → J.go i H ∧ ∀ x H2, J.yld i H x H2 → Kp H H2 ∧ RelM K μ H2 ∧ RelD K H2 d x) ∧ (l.length ≤ i → J.stop i H)
noncomputable def RdI (K : Fg) (wi : TI) (ti : TI3) : Prop := ∀ σ H R ρ μ R3, RSt K H ρ σ → RelM K μ H → ti ρ μ R3 → (∀ l S μ' J H', R3 l S μ' → Kp H H' → RelM K μ' H' → ItOk K J l S H' → R J H') → wi σ H R
noncomputable def RI (X : Cx) (tg iter : Expr) (ti : TI3) : Prop := ∃ wi, PI X tg iter wi ∧ RdI X.K wi ti
section
variable {X : Cx} {tg iter a b c e : Expr} {ta tb te : TE3} {pos : Pos}
/-- the signs of a text -/
noncomputable def Its (z : Str) : It := ⟨fun i _ => i < z.cps.size, fun i H x H' => H' = H ∧ ∃ c, z.cps[i]? = some c ∧ x = .str ⟨#[c]⟩, fun i _ => z.cps.size ≤ i⟩
theorem turn_str {P : Program} {w : World} {K : Fg} {tg : Expr} (T : String) (x : Str) (t : Tok) (it : Addr)
    (hT : ["enumerate", "zip", "dict_itemiterator", "dict_reverseitemiterator", "odict_iterator", "itertools.zip_longest", "itertools.pairwise"].contains T = false)
    (W : ∀ A : Around, A.handled = none → Walks P w A it [it] [it] x.cps.size (SignAt x) (fun i h => h.IsStrIter it T x t i))
    (sf : ∀ (A : Around) (i : Nat) (s : Shared) (Q : Value → Shared → Prop) (E : Value → Shared → Prop), s.heap.IsStrIter it T x t i → Q (.ref it) s → wpAny (model P w) A (pyIter (.ref it)) Q E s) :
    Turn P w K tg (Its x) [it] it (fun i h => h.IsStrIter it T x t i ∧ i ≤ x.cps.size) where
  mem := by simp
  obj := fun i h st b hb => by
    have e : b = it := by simpa using hb
    subst e
    obtain ⟨⟨o, e, c, d⟩, _⟩ := st
    exact ⟨o, e, fun v z => by rw [d] at z; cases z⟩
  keep := fun i h h' st k => by
    obtain ⟨⟨o, e, c, d⟩, l⟩ := st
    exact ⟨⟨o, k it (by simp) o e, c, d⟩, l⟩
  item := by
    intro X hP hw hK hc i pins s σ H E I hf st hg
    subst hP hw hK
    obtain ⟨f0, f1, f2, f3, f4, f5⟩ := hf it (by simp)
    refine (W X.A (I.ok.hd hc)).item i s _ E hg st.1 fun v h' tk hP hst' hk => ?_
    obtain ⟨c, u, ec, rfl⟩ := hP
    have I1 : Inv X pins σ H { s with heap := h', toks := tk } := I.turned (t' := tk) (fun b o hb e => hk b o (by simpa using hb) e) f0 f1 f3 f4 f5
    obtain ⟨o, e, c1, d⟩ := id hst'
    exact ⟨_, rfl, go_of (s := { s with heap := h', toks := tk }) e c1 d hT ⟨.str ⟨#[c]⟩, H, I1, ⟨u, rfl⟩, ⟨rfl, c, ec, rfl⟩, ⟨hst', hg⟩, fun b hb => (hf b hb).1⟩⟩
  done := by
    intro X hP hw hK hc i pins s σ H E I hf st hg
    subst hP hw hK
    have hg' : x.cps.size ≤ i := hg
    obtain ⟨f0, f1, f2, f3, f4, f5⟩ := hf it (by simp)
    have e1 : i = x.cps.size := Nat.le_antisymm st.2 hg'
    subst e1
    exact (W X.A (I.ok.hd hc)).done s _ E st.1 fun h' tk hk => ⟨rfl, I.turned (t' := tk) (fun b o hb e => hk b o (by simpa using hb) e) f0 f1 f3 f4 f5⟩
  self := fun A i s Q E st h => sf A i s Q E st.1 h
/-- a list or a tuple -/
noncomputable def iSeq (K : Fg) (tl : TE) : TI := fun σ H R => tl σ H fun x H1 => (∃ z, x = .str z ∧ R (Its z) H1) ∨ ∃ a, x = .ref a ∧ (((∃ xs, SqL K H1 a xs) ∧ R (Itl K a) H1) ∨ ((∃ xs, SqT K H1 a xs) ∧ R (Itt K a) H1))
theorem pi_seq {l : Expr} {tl : TE} (hl : PE X l tl) : PI X tg l (iSeq X.K tl) := by
  intro pins s σ H R I h
  refine thn (hl pins s σ H _ I h) fun v s1 ⟨x, H1, I1, r1, q1⟩ => ?_
  have fp : ∀ b ∈ [s1.heap.objs.size], FpOk X pins H1 b := fun b hb => by
    have e : b = s1.heap.objs.size := by simpa using hb
    subst e
    exact I1.fpOk (Nat.le_refl _) (I1.hok.fresh (Nat.le_refl _))
  rcases q1 with ⟨z, e, q⟩ | ⟨a, e, q⟩
  · subst e
    obtain ⟨t, rfl⟩ := r1
    cases ha : z.cps.all (· < 128)
    · refine wpAny_pyIter_wide ha ?_
      exact ⟨s1.heap.objs.size, [s1.heap.objs.size], _, _, H1, rfl, I1.kept (t' := s1.toks) fun b o e => Heap.get?_push_of_some _ e, turn_str "str_iterator" z t _ (by decide) (fun A hA => Walks.strWide hA _ z t) (fun _ _ _ _ _ st h => wpAny_pyIter_striter_wide st h), ⟨⟨_, Heap.get?_push_size _ rfl, rfl, rfl⟩, Nat.zero_le _⟩, fp, q⟩
    · refine wpAny_pyIter_ascii ha ?_
      exact ⟨s1.heap.objs.size, [s1.heap.objs.size], _, _, H1, rfl, I1.kept (t' := s1.toks) fun b o e => Heap.get?_push_of_some _ e, turn_str "str_ascii_iterator" z t _ (by decide) (fun A hA => Walks.strAscii hA _ z t) (fun _ _ _ _ _ st h => wpAny_pyIter_striter_ascii st h), ⟨⟨_, Heap.get?_push_size _ rfl, rfl, rfl⟩, Nat.zero_le _⟩, fp, q⟩
  subst e
  cases r1
  rcases q with ⟨⟨xs, hq⟩, q⟩ | ⟨⟨xs, hq⟩, q⟩
  · obtain ⟨its, rv, p, hz⟩ := I1.list hq
    refine wpAny_pyIter_list p.isList ?_
    exact ⟨s1.heap.objs.size, [s1.heap.objs.size], _, _, H1, rfl, I1.kept (t' := s1.toks) fun b o e => Heap.get?_push_of_some _ e, turn_list a _, ⟨_, Heap.get?_push_size _ rfl, rfl, rfl⟩, fp, q⟩
  · obtain ⟨its, rv, p, hz⟩ := I1.tuple hq
    refine wpAny_pyIter_tuple (show s1.heap.IsTuple a its.toArray from p) ?_
    exact ⟨s1.heap.objs.size, [s1.heap.objs.size], _, _, H1, rfl, I1.kept (t' := s1.toks) fun b o e => Heap.get?_push_of_some _ e, turn_tuple a _, ⟨_, Heap.get?_push_size _ rfl, rfl, rfl⟩, fp, q⟩
theorem itok_tup {K : Fg} {H0 : Hp} {a : Addr} {l : List D} {vs : List V} (h : SqT K H0 a vs) (r : RelDs K H0 l vs) : ItOk K (Itt K a) l (fun _ => True) H0 := fun i H μ k m _ => by
  refine ⟨fun d e => ?_, fun hl => ⟨vs, SqT.mono k h, by rw [← r.length]; exact hl⟩⟩
  obtain ⟨v, e1, r1⟩ := r.get e
  refine ⟨⟨vs, v, SqT.mono k h, e1⟩, fun x H2 y => ?_⟩
  obtain ⟨rfl, y⟩ := y
  have e2 := y vs (SqT.mono k h)
  rw [e1] at e2; cases e2
  exact ⟨Kp.refl _, m, r1.mono k⟩
theorem itok_fls {K : Fg} {H0 : Hp} {a : Addr} {l : List D} {vs : List V} (h : SqF K H0 a vs) (r : RelDs K H0 l vs) : ItOk K (Itl K a) l (fun _ => True) H0 := fun i H μ k m _ => by
  refine ⟨fun d e => ?_, fun hl => ⟨vs, (SqF.mono k h).l, by rw [← r.length]; exact hl⟩⟩
  obtain ⟨v, e1, r1⟩ := r.get e
  refine ⟨⟨vs, v, (SqF.mono k h).l, e1⟩, fun x H2 y => ?_⟩
  obtain ⟨rfl, y⟩ := y
  have e2 := y vs (SqF.mono k h).l
  rw [e1] at e2; cases e2
  exact ⟨Kp.refl _, m, r1.mono k⟩
theorem itok_lst {K : Fg} {H0 : Hp} {a : Addr} {l : List D} : ItOk K (Itl K a) l (fun μ => μ a = some (.lst l)) H0 := fun i H μ k m s => by
  obtain ⟨vs, h, r⟩ := m a l s
  refine ⟨fun d e => ?_, fun hl => ⟨vs, SqL.of h, by rw [← r.length]; exact hl⟩⟩
  obtain ⟨v, e1, r1⟩ := r.get e
  refine ⟨⟨vs, v, SqL.of h, e1⟩, fun x H2 y => ?_⟩
  obtain ⟨rfl, y⟩ := y
  have e2 := y vs (SqL.of h)
  rw [e1] at e2; cases e2
  exact ⟨Kp.refl _, m, r1⟩
theorem itok_str {K : Fg} {H0 : Hp} (z : Str) : ItOk K (Its z) (z.cps.toList.map fun c => D.str ⟨#[c]⟩) (fun _ => True) H0 := fun i H μ k m _ => by
  refine ⟨fun d e => ?_, fun hl => by show z.cps.size ≤ i; simpa using hl⟩
  rw [List.getElem?_map, Array.getElem?_toList] at e
  cases ec : z.cps[i]? with
  | none => rw [ec] at e; cases e
  | some c =>
    rw [ec] at e
    cases e
    refine ⟨?_, fun x H2 y => ?_⟩
    · show i < z.cps.size
      rcases Nat.lt_or_ge i z.cps.size with h | h
      · exact h
      · rw [Array.getElem?_eq_none h] at ec; cases ec
    · obtain ⟨rfl, c', ec', rfl⟩ := y
      rw [ec] at ec'; cases ec'
      exact ⟨Kp.refl _, m, .str _⟩
theorem ri_seq (ha : RE X a ta) : RI X tg a (is3 ta) := by
  obtain ⟨va, pa, ra⟩ := ha
  refine ⟨_, pi_seq pa, fun σ H R ρ μ R3 s m h k => ra σ H _ ρ μ _ s m h fun d μ1 v H1 h1 k1 r1 m1 => ?_⟩
  cases r1 with
  | str z => exact .inl ⟨z, rfl, k _ _ _ _ _ h1 k1 m1 (itok_str z)⟩
  | tup hq rs => exact .inr ⟨_, rfl, .inr ⟨⟨_, hq⟩, k _ _ _ _ _ h1 k1 m1 (itok_tup hq rs)⟩⟩
  | fls hq rs => exact .inr ⟨_, rfl, .inl ⟨⟨_, hq.l⟩, k _ _ _ _ _ h1 k1 m1 (itok_fls hq rs)⟩⟩
  | ref p =>
    dsimp only at h1
    cases e : μ1 p with
    | none => rw [e] at h1; exact h1.elim
    | some oo =>
      cases oo with
      | ins _ _ => rw [e] at h1; exact h1.elim
      | lst xs =>
        rw [e] at h1
        obtain ⟨vs, hv, rv⟩ := m1 p xs e
        exact .inr ⟨_, rfl, .inl ⟨⟨_, SqL.of hv⟩, k _ _ _ _ _ h1 k1 m1 itok_lst⟩⟩
  | _ => exact False.elim h1
theorem rngD_get (lo : Int) (n i : Nat) : (rngD lo n)[i]? = if i < n then some (.int (lo + i)) else none := by
  unfold rngD
  rw [List.getElem?_map]
  by_cases h : i < n
  · rw [List.getElem?_range h, if_pos h]; rfl
  · rw [List.getElem?_eq_none (by simpa using h), if_neg h]; rfl
theorem rngD_len (lo : Int) (n : Nat) : (rngD lo n).length = n := by simp [rngD]
theorem itok_rng {K : Fg} {H0 : Hp} (lo : Int) (n : Nat) : ItOk K (Itr lo n) (rngD lo n) (fun _ => True) H0 := fun i H μ k m _ => by
  refine ⟨fun d e => ?_, fun hl => by rw [rngD_len] at hl; exact hl⟩
  rw [rngD_get] at e
  split at e
  · next h =>
    cases e
    refine ⟨h, fun x H2 y => ?_⟩
    obtain ⟨rfl, rfl⟩ := y
    exact ⟨Kp.refl _, m, .int _⟩
  · cases e
theorem ri_range1 {p : Pos} (hm : X.mg "range" = none) (ha : RE X a ta) (hg : Gl X "range" := by rfl) (hs : starEach [a] X.env = [(false, eval a X.env)] := by rfl) : RI X tg (.Call (.Name "range" p) [a] [] pos) (ir3 (cons3 ta nil3)) := by
  obtain ⟨va, pa, ra⟩ := ra_cons ha ra_nil hs
  refine ⟨_, pi_range1 hg hm pa hs, fun σ H R ρ μ R3 s m h k => ra σ H _ ρ μ _ s m h fun ds μ1 vs H1 h1 k1 r1 m1 => ?_⟩
  cases r1 with
  | nil => exact False.elim h1
  | cons r1 r2 =>
    cases r2 with
    | cons _ _ => cases r1 <;> exact False.elim h1
    | nil =>
      cases r1 with
      | int j => exact ⟨j, rfl, h1.1.1, h1.1.2, k _ _ _ _ _ h1.2 k1 m1 (itok_rng _ _)⟩
      | _ => exact False.elim h1
/-! ### for, while -/
theorem rs_for {body : List Stmt} {ti : TI3} {g : TG3} {tb : TS3} (hp : PassesOwn (model X.prog X.w) X.A X.env X.xe) (hc : X.calm = true) (hi : RI X tg iter ti) (hg : RG X tg g) (hb : RSs X body tb)
    (hs : ∀ x, foldedSetIterable iter X.env x = pure x := by intro _; rfl) : RS X (.For tg iter body [] pos) (for3 ti g tb) := by
  obtain ⟨wi, pi, ri⟩ := hi
  obtain ⟨vg, pg, rg⟩ := hg
  obtain ⟨vb, pb, rb⟩ := hb
  refine ⟨_, ps_for hp hc pi pg pb hs, fun σ H D ρ μ D3 s m h k => ri σ H _ ρ μ _ s m h fun l S μ1 J H1 h1 k1 m1 ok => ?_⟩
  refine ⟨fun i n σ2 H2 => n = l.length - i ∧ i ≤ l.length ∧ ∃ ρ2 μ2, RSt X.K H2 ρ2 σ2 ∧ RelM X.K μ2 H2 ∧ Kp H1 H2 ∧ forS3 S g tb D3 (l.drop i) ρ2 μ2, ⟨l.length, rfl, Nat.zero_le _, ρ, μ1, s.mono k1, m1, Kp.refl _, h1⟩, ?_⟩
  rintro i n σ2 H2 ⟨rfl, hi, ρ2, μ2, s2, m2, k2, h2⟩
  by_cases hlt : i < l.length
  · rw [List.drop_eq_getElem_cons hlt] at h2
    obtain ⟨hS, N, hN, h2⟩ := h2
    obtain ⟨ok1, _⟩ := ok i H2 μ2 k2 m2 hS
    obtain ⟨go, yl⟩ := ok1 l[i] (List.getElem?_eq_getElem hlt)
    refine .inr ⟨go, fun σ3 H3 => ∃ ρ3 μ3, N ρ3 μ3 ∧ RSt X.K H3 ρ3 σ3 ∧ RelM X.K μ3 H3 ∧ Kp H1 H3, fun σ3 H3 ⟨ρ3, μ3, hn, s3, m3, k3⟩ => ⟨l.length - (i + 1), by omega, rfl, hlt, ρ3, μ3, s3, m3, k3, hN _ _ hn⟩, fun x H3 y => ?_⟩
    obtain ⟨k3, m3, r3⟩ := yl x H3 y
    refine rg x l[i] σ2 H3 _ ρ2 μ2 _ (s2.mono k3) m3 r3 h2 fun ρ4 μ4 σ4 H4 h4 k4 s4 m4 => ?_
    have k14 : Kp H1 H4 := k2.trans (k3.trans k4)
    exact rb σ4 H4 _ ρ4 μ4 _ s4 m4 h4 ⟨fun ρ5 μ5 σ5 H5 h5 k5 s5 m5 => ⟨ρ5, μ5, h5, s5, m5, k14.trans k5⟩, fun ρ5 μ5 σ5 H5 h5 k5 s5 m5 => k.nx _ _ _ _ h5 (k1.trans (k14.trans k5)) s5 m5,
      fun ρ5 μ5 σ5 H5 h5 k5 s5 m5 => ⟨ρ5, μ5, h5, s5, m5, k14.trans k5⟩, fun d μ5 v H5 h5 k5 r5 m5 => k.rt _ _ _ _ h5 (k1.trans (k14.trans k5)) r5 m5⟩
  · have e : i = l.length := by omega
    subst e
    rw [List.drop_length] at h2
    obtain ⟨hS, h2⟩ := h2
    exact .inl ⟨(ok _ H2 μ2 k2 m2 hS).2 (Nat.le_refl _), k.nx _ _ _ _ h2 (k1.trans k2) s2 m2⟩
/-! ### calls -/
noncomputable def lift (K : Fg) (sp : Sp3) : Sp := fun vs H Q _ => ∃ ds μ Q3, RelDs K H ds vs ∧ RelM K μ H ∧ sp ds μ Q3 ∧ Ks K H Q3 Q
/-- a def of the text keeps a promise (k: frames) -/
noncomputable def Cal (P : Program) (w : World) (K : Fg) (mg : Str → Option Value) (base : Heap) (k : Nat) (x : Str) (ps : List Str) (sp : Sp3) : Prop :=
  ∃ f fd, FnOk P w K mg base CX0 k f fd ps (lift K sp) ∧ mg x = some (.ref f) ∧ PySem.W.keepIn K (.ref f) = true ∧ Binds K fd ps []
theorem Cal.mono {P : Program} {w : World} {K : Fg} {mg : Str → Option Value} {base : Heap} {j k : Nat} {x : Str} {ps : List Str} {sp : Sp3} (c : Cal P w K mg base j x ps sp) (h : j ≤ k) : Cal P w K mg base k x ps sp := by
  obtain ⟨f, fd, F, r⟩ := c
  exact ⟨f, fd, F.mono h, r⟩
variable {es : List Expr} {t : TA3} {x : Str} {p : Pos}
theorem re_call {k : Nat} {ps : List Str} {sp : Sp3} (c : Cal X.prog X.w X.K X.mg X.base k x ps sp) (hr : Room k X.A) (ha : RA X (e :: es) t) (hg : Gl X x := by rfl) (hdb : (x == ("__debug__" : Str)) = false := by decide)
    (he : starEach (e :: es) X.env = (false, eval e X.env) :: starEach es X.env := by rfl) (hpl : (backTo pos (starEach es X.env)).any (·.1) = false := by rfl) : RE X (.Call (.Name x p) (e :: es) [] pos) (call3 sp t) := by
  obtain ⟨f, fd, F, hm, hk, hb⟩ := c
  obtain ⟨va, pa, ra⟩ := ha
  refine ⟨_, pe_call F hr hg hm hk hb .nil pass0 pa hdb he hpl, fun σ H Q ρ μ Q3 s m h k => ra σ H _ ρ μ _ s m h fun ds μ1 vs H1 h1 k1 r1 m1 => ?_⟩
  rw [List.append_nil]
  exact ⟨ds, μ1, Q3, r1, m1, h1, k.after k1⟩
theorem re_callB {r : C3} {id : String} (hc : RC X (.builtin id) r) (hm : X.mg x = none) (hv : bootBuiltins x = some (.builtin id)) (ha : RA X (e :: es) t) (hg : Gl X x := by rfl) (hn : x ≠ "__name__" := by decide) (hdb : (x == ("__debug__" : Str)) = false := by decide)
    (he : starEach (e :: es) X.env = (false, eval e X.env) :: starEach es X.env := by rfl) (hpl : (backTo pos (starEach es X.env)).any (·.1) = false := by rfl) : RE X (.Call (.Name x p) (e :: es) [] pos) (call3 r t) := by
  obtain ⟨r', pc, rc⟩ := hc
  obtain ⟨va, pa, ra⟩ := ha
  exact ⟨_, pe_callB pc hg hm hv pa hn hdb he hpl, fun σ H Q ρ μ Q3 s m h k => ra σ H _ ρ μ _ s m h fun ds μ1 vs H1 h1 k1 r1 m1 => rc ds vs H1 Q μ1 Q3 m1 r1 h1 (k.after k1)⟩
theorem re_callTy {r : C3} {T : String} (hc : RC X (.type T) r) (hm : X.mg x = none) (hv : bootBuiltins x = some (.type T)) (ha : RA X (e :: es) t) (hg : Gl X x := by rfl) (hn : x ≠ "__name__" := by decide) (hdb : (x == ("__debug__" : Str)) = false := by decide)
    (he : starEach (e :: es) X.env = (false, eval e X.env) :: starEach es X.env := by rfl) (hpl : (backTo pos (starEach es X.env)).any (·.1) = false := by rfl) : RE X (.Call (.Name x p) (e :: es) [] pos) (call3 r t) := by
  obtain ⟨r', pc, rc⟩ := hc
  obtain ⟨va, pa, ra⟩ := ha
  exact ⟨_, pe_callTy pc hg hm hv pa hn hdb he hpl, fun σ H Q ρ μ Q3 s m h k => ra σ H _ ρ μ _ s m h fun ds μ1 vs H1 h1 k1 r1 m1 => rc ds vs H1 Q μ1 Q3 m1 r1 h1 (k.after k1)⟩
theorem re_ix {r3 : R3} (hx : RX X r3) (ha : RE X a ta) (hb : RE X b tb) (hs : PlainIx b := by intro _ _; rfl) : RE X (.Subscript a b pos) (o3 r3 ta tb) := by
  obtain ⟨r, po, ro⟩ := hx
  obtain ⟨va, pa, ra⟩ := ha
  obtain ⟨vb, pb, rb⟩ := hb
  exact ⟨_, pe_ix po pa pb hs, ra.op rb ro⟩
end
/-! ### a def -/
section
variable {P : Program} {w : World} {K : Fg} {mg : Str → Option Value} {base : Heap}
theorem fnok_of {x : Str} {st : Stmt} {f : Addr} {fd : FuncData} {N ps : List Str} {k : Nat} {sp : Sp3} {t : TS3} (F : Fun K x x st f fd) (S : FnScope N ps (defScope st))
    (len : ∀ ds μ Q, sp ds μ Q → ds.length = ps.length)
    (body : ∀ (cdv : Value) (A : Around) (outer : List Env) (s : Shared) (H : Hp) (E : XK), Room k (A.deeper (envOfC x (defScope st) s.heap.objs.size f cdv)) → RSs (cxOf CX0 P w K mg base N x (defScope st) f cdv A outer s H E).nox (defBody st) t)
    (rd : ∀ ds μ Q, sp ds μ Q → t { nx := fun _ μ' => Q .non μ', rt := Q } (start3 N ds) μ) : FnOk P w K mg base CX0 (k + 1) f fd ps (lift K sp) := by
  refine F.ok S (fun vs H Q E h => ?_) (fun cdv A outer s H vs Q E hr h => ?_)
  · obtain ⟨ds, μ, Q3, r, m, q, ks⟩ := h
    rw [← r.length]; exact len _ _ _ q
  · obtain ⟨ds, μ, Q3, r, m, q, ks⟩ := h
    obtain ⟨tv, p, rt⟩ := body cdv A outer s H E hr
    exact ⟨tv, p, rt _ H _ _ μ _ (RSt.start N r) m (rd ds μ Q3 q) ⟨fun ρ μ' σ H' h' k' s' m' => ks _ _ _ _ h' k' .non m', fun ρ μ' σ H' h' => False.elim h', fun ρ μ' σ H' h' => False.elim h', ks⟩⟩
theorem cal_of {x : Str} {st : Stmt} {f : Addr} {fd : FuncData} {N ps : List Str} {k : Nat} {sp : Sp3} {t : TS3} (F : Fun K x x st f fd) (hm : mg x = some (.ref f)) (hb : Binds K fd ps []) (S : FnScope N ps (defScope st))
    (len : ∀ ds μ Q, sp ds μ Q → ds.length = ps.length)
    (body : ∀ (cdv : Value) (A : Around) (outer : List Env) (s : Shared) (H : Hp) (E : XK), Room k (A.deeper (envOfC x (defScope st) s.heap.objs.size f cdv)) → RSs (cxOf CX0 P w K mg base N x (defScope st) f cdv A outer s H E).nox (defBody st) t)
    (rd : ∀ ds μ Q, sp ds μ Q → t { nx := fun _ μ' => Q .non μ', rt := Q } (start3 N ds) μ) : Cal P w K mg base (k + 1) x ps sp :=
  ⟨f, fd, fnok_of F S len body rd, hm, F.kp, hb⟩
/-- a promise that asks nothing can be asked of nobody -/
theorem cal_zero {x : Str} {st : Stmt} {f : Addr} {fd : FuncData} {ps : List Str} {sp : Sp3} (F : Fun K x x st f fd) (hm : mg x = some (.ref f)) (hb : Binds K fd ps []) (no : ∀ ds μ Q, ¬ sp ds μ Q) : Cal P w K mg base 0 x ps sp := by
  have no' : ∀ vs H Q E, ¬ lift K sp vs H Q E := fun vs H Q E ⟨ds, μ, Q3, _, _, q, _⟩ => no _ _ _ q
  exact ⟨f, fd, ⟨fun vs H Q E h => absurd h (no' vs H Q E), fun A outer s H args us vs Q E _ _ _ _ h => absurd h (no' vs H Q E)⟩, hm, F.kp, hb⟩
end
end Pv

namespace Pv
open PySem PySem.Spec PyProof.Rows L2
section
variable {X : Cx}
/-! ### ints -/
theorem RdO.i0 {K : Fg} {g3 : Int → Int → D} {g : Int → Int → V} (hg : ∀ i j H, RelD K H (g3 i j) (g i j)) : RdO K (rI0 g) (int20 g3) := fun x y v u H Q μ Q3 m rx ry h k => by
  cases rx with
  | int i =>
    cases ry with
    | int j => exact ⟨i, j, rfl, rfl, k _ _ _ _ h (Kp.refl _) (hg i j H) m⟩
    | _ => exact False.elim h
  | _ => cases ry <;> exact False.elim h
theorem RdO.i2 {K : Fg} {C : Int → Int → Prop} {g3 : Int → Int → D} {g : Int → Int → V} (hg : ∀ i j H, RelD K H (g3 i j) (g i j)) : RdO K (rI C g) (int2 C g3) := fun x y v u H Q μ Q3 m rx ry h k => by
  cases rx with
  | int i =>
    cases ry with
    | int j => exact ⟨i, j, rfl, rfl, h.1, k _ _ _ _ h.2 (Kp.refl _) (hg i j H) m⟩
    | _ => exact False.elim h
  | _ => cases ry <;> exact False.elim h
theorem q_sub : RO X (binaryOp .Sub) subR := ⟨_, op_sub, RdO.i0 fun _ _ _ => .int _⟩
theorem q_mod : RO X (binaryOp .Mod) modR := ⟨_, op_mod, RdO.i2 fun _ _ _ => .int _⟩
theorem q_pow : RO X (binaryOp .Pow) powR := ⟨_, op_pow, RdO.i2 fun _ _ _ => .int _⟩
theorem log2_lt {n k : Nat} (hk : 0 < k) (h : n < 2 ^ k) : n.log2 < k := by
  rcases Nat.eq_zero_or_pos n with h0 | hp
  · rw [h0]; simpa using hk
  · exact (Nat.log2_lt (Nat.ne_of_gt hp)).mpr h
theorem op_fdivB : OpR X (binaryOp .FloorDiv) (rI (fun _ j => 0 < j ∧ j < 2 ^ 80) fun i j => .int (i / j)) := opI fun i j _ _ _ _ _ hc q => by
  have h1 : (0 : Int) < j := hc.1
  have h2 : j < 2 ^ 80 := hc.2
  refine floordiv_int (by omega) (by rw [Int.fdiv_eq_ediv_of_nonneg i (by omega)]; exact q) (.inl (PyProof.noPylong_of_log2 ?_))
  have h3 : j.natAbs < 2 ^ 80 := by omega
  exact Nat.lt_trans (log2_lt (by decide) h3) (by decide)
theorem q_fdiv : RO X (binaryOp .FloorDiv) fdivR := ⟨_, op_fdivB, RdO.i2 fun _ _ _ => .int _⟩
theorem CMul.mulok {i j : Int} (h : CMul i j) : IntMulOk i j := by
  rcases h with h | ⟨h1, h2⟩
  · exact L2.CMul.ok h
  · unfold IntMulOk
    intro e
    rw [Bool.and_eq_true] at e
    have e2 := e.2
    unfold Builtin.Int.intTooBig at e2
    have hb : ∀ x : Int, x.natAbs < Big → Builtin.Int.intBits x ≤ 1000 := fun x hx => by
      unfold Builtin.Int.intBits
      split
      · exact Nat.zero_le _
      · exact log2_lt (by decide) hx
    have b1 := hb i h1
    have b2 := hb j h2
    have e3 := of_decide_eq_true e2
    have e4 : (2000 : Nat) < bitsLine := by decide
    omega
theorem op_mulB : OpR X (binaryOp .Mult) (rI CMul fun i j => .int (i * j)) := opI fun _ _ _ _ _ _ _ hc q => mul_int q hc.mulok
theorem q_neg : RU X (unaryOp .USub) negR := ⟨_, un_neg, fun x v H Q μ Q3 m r h k => by
  cases r with
  | int i => exact ⟨i, rfl, k _ _ _ _ h (Kp.refl _) (.int _) m⟩
  | _ => exact False.elim h⟩
theorem q_lt : RO X (compareOp .Lt) ltR := ⟨_, op_lt, RdO.i0 fun _ _ _ => .bl _⟩
theorem q_le : RO X (compareOp .LtE) leR := ⟨_, op_le, RdO.i0 fun _ _ _ => .bl _⟩
theorem q_gt : RO X (compareOp .Gt) gtR := ⟨_, op_gt, RdO.i0 fun _ _ _ => .bl _⟩
theorem q_ge : RO X (compareOp .GtE) geR := ⟨_, op_ge, RdO.i0 fun _ _ _ => .bl _⟩
/-! ### + -/
/-- t + u, any -/
noncomputable def rCatA (K : Fg) : R2 := fun x y H Q => ∃ a b xs ys, x = .ref a ∧ y = .ref b ∧ SqT K H a xs ∧ SqT K H b ys ∧ xs.length + ys.length ≤ sizeLine ∧
  (xs = [] → Q (.ref b) H) ∧ (ys = [] → Q (.ref a) H) ∧ (∀ p, H p = none → Q (.ref p) (upd H p (.tup (xs ++ ys))))
theorem op_catA : OpR X (binaryOp .Add) (rCatA X.K) := by
  intro pins s σ H x y v u Q I rx ry h
  obtain ⟨a, b, xs, ys, rfl, rfl, ha, hb, hz, q1, q2, q3⟩ := h
  by_cases hx : xs = []
  · cases rx
    cases ry
    obtain ⟨its, r, ht, _⟩ := I.tuple ha
    obtain ⟨its2, r2, ht2, _⟩ := I.tuple hb
    have hi : its = [] := by subst hx; cases r; rfl
    obtain ⟨⟨cls, dd, data, sl⟩, ho, hc, n, hd⟩ := id ht
    obtain ⟨⟨cls2, dd2, data2, sl2⟩, ho2, hc2, n2, hd2⟩ := id ht2
    simp only at hc hd hc2 hd2
    subst hc hd hc2 hd2
    exact concat_meets ⟨_, ho, rfl⟩ ⟨_, ho2, rfl⟩ noFill_tuple_add seq_tuple_add PySem.F.slot_tuple_add PySem.F.entry_tuple_add (PySem.F.args_tuple_add_2 _ _)
      (tuple_addW0 a b its.toArray its2.toArray n n2 dd dd2 sl sl2 (by simp [hi])) ⟨ho, ho2, ⟨.ref b, H, I, rfl, q1 hx⟩⟩
  · exact op_catT pins s σ H _ _ v u Q I rx ry ⟨a, b, xs, ys, rfl, rfl, ha, hb, hx, hz, q2, fun _ => q3⟩
theorem q_add : RO X (binaryOp .Add) addR := by
  refine ⟨_, (op_add.or op_add_str).or (op_cat.or op_catA), fun x y v u H Q μ Q3 m rx ry h k => ?_⟩
  cases rx with
  | int i =>
    cases ry with
    | int j => exact .inl (.inl ⟨i, j, rfl, rfl, k _ _ _ _ h (Kp.refl _) (.int _) m⟩)
    | _ => exact False.elim h
  | str i =>
    cases ry with
    | str j => exact .inl (.inr ⟨i, j, rfl, rfl, h.1, k _ _ _ _ h.2 (Kp.refl _) (.str _) m⟩)
    | _ => exact False.elim h
  | ref p =>
    cases ry with
    | ref q =>
      dsimp only [addR] at h
      cases e : μ p with
      | none => rw [e] at h; exact h.elim
      | some oo =>
        cases oo with
        | ins _ _ => rw [e] at h; exact h.elim
        | lst xs =>
          cases e2 : μ q with
          | none => rw [e, e2] at h; exact h.elim
          | some o2 =>
            cases o2 with
            | ins _ _ => rw [e, e2] at h; exact h.elim
            | lst ys =>
              rw [e, e2] at h
              obtain ⟨vs, hv, rv⟩ := m p xs e
              obtain ⟨us, hu, ru⟩ := m q ys e2
              refine .inr (.inl ⟨p, q, vs, us, rfl, rfl, hv, hu, by rw [← rv.length, ← ru.length]; exact h.1, fun t ht => ?_⟩)
              exact k _ _ _ _ (h.2 t (m.free ht)) (Kp.new ht) (.ref t) (m.newL ht (rv.append ru))
    | _ => exact False.elim h
  | tup hq rs =>
    cases ry with
    | tup hq2 rs2 =>
      rename_i a l vs b l2 us
      refine .inr (.inr ⟨a, b, vs, us, rfl, rfl, hq, hq2, by rw [← rs.length, ← rs2.length]; exact h.1, fun e => ?_, fun e => ?_, fun t ht => ?_⟩)
      · subst e; cases rs
        exact k _ _ _ _ h.2 (Kp.refl _) (.tup hq2 rs2) m
      · subst e; cases rs2
        have h2 := h.2
        rw [List.append_nil] at h2
        exact k _ _ _ _ h2 (Kp.refl _) (.tup hq rs) m
      · exact k _ _ _ _ h.2 (Kp.new ht) (.tup (SqT.of upd_same) ((rs.append rs2).mono (Kp.new ht))) (m.newT ht)
    | _ => exact False.elim h
  | _ => cases ry <;> exact False.elim h
/-! ### a[i] -/
theorem RelDs.atI {K : Fg} {H : Hp} {l : List D} {vs : List V} {i : Int} {d : D} (r : RelDs K H l vs) (e : Pv.atI l i = some d) : ∃ v, L2.atI vs i = some v ∧ RelD K H d v := by
  unfold Pv.atI at e
  unfold L2.atI
  rw [ixN_eq, ← r.length]
  cases q : ixN l.length i with
  | none => rw [q] at e; cases e
  | some j =>
    rw [q] at e
    exact r.get e
theorem q_ix : RX X ixR := by
  refine ⟨_, ix_list.or ix_tup, fun x y v u H Q μ Q3 m rx ry h k => ?_⟩
  cases ry with
  | int i =>
    cases rx with
    | tup hq rs =>
      rename_i a l vs
      dsimp only [ixR] at h
      cases e : Pv.atI l i with
      | none => rw [e] at h; exact h.elim
      | some d =>
        rw [e] at h
        obtain ⟨w, e1, r1⟩ := rs.atI e
        exact .inr ⟨a, vs, i, w, rfl, rfl, hq, e1, k _ _ _ _ h (Kp.refl _) r1 m⟩
    | fls hq rs =>
      rename_i a l vs
      dsimp only [ixR] at h
      cases e : Pv.atI l i with
      | none => rw [e] at h; exact h.elim
      | some d =>
        rw [e] at h
        obtain ⟨w, e1, r1⟩ := rs.atI e
        exact .inl ⟨a, vs, i, w, rfl, rfl, hq.l, e1, k _ _ _ _ h (Kp.refl _) r1 m⟩
    | ref p =>
      dsimp only [ixR] at h
      cases e0 : μ p with
      | none => rw [e0] at h; exact h.elim
      | some oo =>
        cases oo with
        | ins _ _ => rw [e0] at h; exact h.elim
        | lst l =>
          rw [e0] at h
          dsimp only at h
          obtain ⟨vs, hv, rs⟩ := m p l e0
          cases e : Pv.atI l i with
          | none => rw [e] at h; exact h.elim
          | some d =>
            rw [e] at h
            obtain ⟨w, e1, r1⟩ := rs.atI e
            exact .inl ⟨p, vs, i, w, rfl, rfl, SqL.of hv, e1, k _ _ _ _ h (Kp.refl _) r1 m⟩
    | _ => exact False.elim h
  | _ => cases rx <;> exact False.elim h
/-! ### in a tuple of texts -/
theorem strs_rel {K : Fg} {H : Hp} : ∀ {l : List D} {vs : List V} {zs : List Str}, RelDs K H l vs → strs? l = some zs → vs = zs.map V.str
  | _, _, zs, .nil, e => by simp [strs?] at e; subst e; rfl
  | _, _, zs, .cons h r, e => by
    cases h with
    | str x =>
      simp only [strs?] at e
      split at e
      · next ys e1 =>
        simp only [Option.some.injEq] at e
        subst e
        rw [strs_rel r e1]; rfl
      · cases e
    | _ => simp [strs?] at e
theorem inV_strs (z : Str) (zs : List Str) : inV (.str z) (zs.map V.str) = zs.contains z := by
  unfold inV
  rw [List.any_map]
  induction zs with
  | nil => rfl
  | cons y r ih =>
    rw [List.any_cons, ih, List.contains_cons]
    congr 1
    show (y == z) = (z == y)
    rw [Bool.eq_iff_iff, beq_iff_eq, beq_iff_eq]
    exact eq_comm
theorem flat_strs (zs : List Str) : (zs.map V.str).all flatV = true := by
  rw [List.all_map, List.all_eq_true]; intro _ _; rfl
/-! ### built-in functions -/
theorem q_len : RC X (.builtin "len") lenR := by
  refine ⟨_, call_len_seq.or call_len_str, fun xs vs H Q μ Q3 m r h k => ?_⟩
  cases r with
  | nil => exact False.elim h
  | cons r1 r2 =>
    cases r2 with
    | cons _ _ => cases r1 <;> exact False.elim h
    | nil =>
      cases r1 with
      | tup hq rs =>
        rename_i a l vs
        refine .inl ⟨a, vs, rfl, .inr hq, ?_⟩
        rw [← rs.length]
        exact k _ _ _ _ h (Kp.refl _) (.int _) m
      | fls hq rs =>
        rename_i a l vs
        refine .inl ⟨a, vs, rfl, .inl hq.l, ?_⟩
        rw [← rs.length]
        exact k _ _ _ _ h (Kp.refl _) (.int _) m
      | str z => exact .inr ⟨z, rfl, h.1, k _ _ _ _ h.2 (Kp.refl _) (.int _) m⟩
      | ref p =>
        dsimp only [lenR] at h
        cases e : μ p with
        | none => rw [e] at h; exact h.elim
        | some oo =>
          cases oo with
          | ins _ _ => rw [e] at h; exact h.elim
          | lst l =>
            rw [e] at h
            obtain ⟨vs, hv, rs⟩ := m p l e
            refine .inl ⟨p, vs, rfl, .inl (SqL.of hv), ?_⟩
            rw [← rs.length]
            exact k _ _ _ _ h (Kp.refl _) (.int _) m
      | _ => exact False.elim h
theorem q_abs : RC X (.builtin "abs") absR := by
  refine ⟨_, call_abs, fun xs vs H Q μ Q3 m r h k => ?_⟩
  cases r with
  | nil => exact False.elim h
  | cons r1 r2 =>
    cases r2 with
    | cons _ _ => cases r1 <;> exact False.elim h
    | nil =>
      cases r1 with
      | int i => exact ⟨i, rfl, k _ _ _ _ h (Kp.refl _) (.int _) m⟩
      | _ => exact False.elim h
theorem q_tuple : RC X (.type "tuple") tupR := by
  refine ⟨_, call_tuple_of, fun xs vs H Q μ Q3 m r h k => ?_⟩
  cases r with
  | nil => exact False.elim h
  | cons r1 r2 =>
    cases r2 with
    | cons _ _ => cases r1 <;> exact False.elim h
    | nil =>
      cases r1 with
      | tup hq rs => exact ⟨_, _, rfl, .inr ⟨hq, k _ _ _ _ h (Kp.refl _) (.tup hq rs) m⟩⟩
      | ref p =>
        dsimp only [tupR] at h
        cases e : μ p with
        | none => rw [e] at h; exact h.elim
        | some oo =>
          cases oo with
          | ins _ _ => rw [e] at h; exact h.elim
          | lst l =>
            rw [e] at h
            obtain ⟨vs, hv, rs⟩ := m p l e
            exact ⟨p, vs, rfl, .inl ⟨SqL.of hv, fun t ht => k _ _ _ _ h (Kp.new ht) (.tup (SqT.of upd_same) (rs.mono (Kp.new ht))) (m.newT ht)⟩⟩
      | _ => exact False.elim h
theorem ints_rel {K : Fg} {H : Hp} : ∀ {l : List D} {vs : List V} {zs : List Int}, RelDs K H l vs → ints? l = some zs → vs = zs.map V.int
  | _, _, zs, .nil, e => by simp [ints?] at e; subst e; rfl
  | _, _, zs, .cons h r, e => by
    cases h with
    | int x =>
      simp only [ints?] at e
      split at e
      · next ys e1 =>
        simp only [Option.some.injEq] at e
        subst e
        rw [ints_rel r e1]; rfl
      · cases e
    | _ => simp [ints?] at e
theorem call_sum : X.calm = true → CallR X (.builtin "sum") (fun xs H Q => ∃ (p : Addr) (ns : List Int), xs = [.ref p] ∧ SqL X.K H p (ns.map V.int) ∧ Q (.int ns.sum) H) := by
  intro hc pins s σ H xs us Q I r h
  obtain ⟨p, ns, rfl, hq, q⟩ := h
  obtain ⟨u, rfl, rx⟩ := vals1 r
  cases rx
  obtain ⟨its, r', pl, hz⟩ := I.list hq
  have hi := intsAre_of r'
  obtain ⟨ys, e⟩ := hi.allInts.items
  have hl := pl.isList
  rw [e] at hl
  refine sum_intListG (I.ok.hd hc) hl fun h' tk t' hk => ?_
  refine ⟨.int ns.sum, H, I.kept (t' := tk) hk, ⟨t', ?_⟩, q⟩
  rw [preSum_eq, List.take_of_length_le (by simp), ← nums_intItems, ← e]
  show Value.int (numsOf its).sum t' = _
  rw [hi.numsOf]
theorem q_sum (hc : X.calm = true := by rfl) : RC X (.builtin "sum") sumR := by
  refine ⟨_, call_sum hc, fun xs vs H Q μ Q3 m r h k => ?_⟩
  cases r with
  | nil => exact False.elim h
  | cons r1 r2 =>
    cases r2 with
    | cons _ _ => cases r1 <;> exact False.elim h
    | nil =>
      cases r1 with
      | ref p =>
        dsimp only [sumR] at h
        cases e : μ p with
        | none => rw [e] at h; exact h.elim
        | some oo =>
          cases oo with
          | ins _ _ => rw [e] at h; exact h.elim
          | lst l =>
            rw [e] at h
            dsimp only at h
            obtain ⟨vs, hv, rs⟩ := m p l e
            cases e1 : ints? l with
            | none => rw [e1] at h; exact h.elim
            | some ns =>
              rw [e1] at h
              have ev := ints_rel rs e1
              subst ev
              exact ⟨p, ns, rfl, SqL.of hv, k _ _ _ _ h (Kp.refl _) (.int _) m⟩
      | _ => exact False.elim h
end
end Pv

namespace Pv
open PySem PySem.Spec PyProof.Rows L2
section
variable {X : Cx} {pins : List (Addr × Obj)} {σ : L2.St} {H : Hp} {s : Shared}
/-! ### == -/
mutual
theorem reads_of (I : Inv X pins σ H s) : ∀ {d : D} {v : V} {p : PyData} {u : Value}, RelD X.K H d v → dat d = some p → RelV v u → ∃ as, Reads s.heap u p as
  | _, _, p, u, .non, e, r => by simp only [dat, Option.some.injEq] at e; subst e; cases r; exact ⟨_, Reads.none⟩
  | _, _, p, u, .bl b, e, r => by simp only [dat, Option.some.injEq] at e; subst e; cases r; exact ⟨_, Reads.bool b⟩
  | _, _, p, u, .int i, e, r => by simp only [dat, Option.some.injEq] at e; subst e; obtain ⟨t, rfl⟩ := r; exact ⟨_, Reads.int i t⟩
  | _, _, p, u, .str x, e, r => by
    simp only [dat] at e
    split at e
    · simp only [Option.some.injEq] at e; subst e; obtain ⟨t, rfl⟩ := r; exact ⟨_, Reads.str x t⟩
    · cases e
  | _, _, p, u, .ref a, e, r => by simp [dat] at e
  | _, _, p, u, .ty n, e, r => by simp [dat] at e
  | _, _, p, u, .fls _ _, e, r => by simp [dat] at e
  | _, _, p, u, .exc _ _ _, e, r => by simp [dat] at e
  | _, _, p, u, .tup hq rs, e, r => by
    simp only [dat] at e
    split at e
    · next ps e1 =>
      simp only [Option.some.injEq] at e; subst e
      cases r
      obtain ⟨its, rv, ⟨o, ho, hc, n, hd⟩, hz⟩ := I.tuple hq
      obtain ⟨as, q⟩ := readsAll_of I rs e1 rv
      exact ⟨_, Reads.tuple ho hc hd (by simpa using q)⟩
    · cases e
theorem readsAll_of (I : Inv X pins σ H s) : ∀ {l : List D} {vs : List V} {ps : List PyData} {us : List Value}, RelDs X.K H l vs → dats l = some ps → Vals vs us → ∃ as, ReadsAll s.heap us ps as
  | _, _, ps, us, .nil, e, r => by simp only [dats, Option.some.injEq] at e; subst e; cases r; exact ⟨_, ReadsAll.nil⟩
  | _, _, ps, us, .cons h rs, e, r => by
    simp only [dats] at e
    split at e
    · next p e1 =>
      split at e
      · next qs e2 =>
        simp only [Option.some.injEq] at e; subst e
        cases r with
        | cons r1 r2 =>
          obtain ⟨as, q1⟩ := reads_of I h e1 r1
          obtain ⟨bs, q2⟩ := readsAll_of I rs e2 r2
          exact ⟨_, ReadsAll.cons q1 q2⟩
      · cases e
    · cases e
end
theorem readsM_of (I : Inv X pins σ H s) {μ : Mu} (m : RelM X.K μ H) {d : D} {v : V} {p : PyData} {u : Value} (h : RelD X.K H d v) (e : datM μ d = some p) (r : RelV v u) : ∃ as, Reads s.heap u p as := by
  cases h with
  | ref a =>
    simp only [datM] at e
    split at e
    · next l e0 =>
      split at e
      · next ps e1 =>
        simp only [Option.some.injEq] at e; subst e
        cases r
        obtain ⟨vs, hv, rs⟩ := m a l e0
        obtain ⟨its, rv, pl, hz⟩ := I.list (SqL.of hv)
        obtain ⟨o, ho, hc, n, hd⟩ := pl.isList
        obtain ⟨as, q⟩ := readsAll_of I rs e1 rv
        exact ⟨_, Reads.list ho hc hd (by simpa using q)⟩
      · cases e
    · cases e
  | non => exact reads_of I .non e r
  | bl b => exact reads_of I (.bl b) e r
  | int i => exact reads_of I (.int i) e r
  | str x => exact reads_of I (.str x) e r
  | ty n => exact reads_of I (.ty n) e r
  | tup hq rs => exact reads_of I (.tup hq rs) e r
  | fls hq rs => exact reads_of I (.fls hq rs) e r
  | exc a1 a2 a3 => simp [datM, dat] at e
mutual
theorem canLay_dat : ∀ (d : D) (p : PyData), dat d = some p → p.canLay0 = true
  | .non, p, e => by simp only [dat, Option.some.injEq] at e; subst e; rfl
  | .bl b, p, e => by simp only [dat, Option.some.injEq] at e; subst e; rfl
  | .int b, p, e => by simp only [dat, Option.some.injEq] at e; subst e; rfl
  | .str x, p, e => by
    simp only [dat] at e
    split at e
    · next h => simp only [Option.some.injEq] at e; subst e; exact h
    · cases e
  | .tup l, p, e => by
    simp only [dat] at e
    split at e
    · next ps e1 => simp only [Option.some.injEq] at e; subst e; simp only [PyData.canLay0]; exact canLay_dats l ps e1
    · cases e
  | .fls _, p, e => by simp [dat] at e
  | .ref _, p, e => by simp [dat] at e
  | .ty _, p, e => by simp [dat] at e
theorem canLay_dats : ∀ (l : List D) (ps : List PyData), dats l = some ps → PyData.canLayAll0 ps = true
  | [], ps, e => by simp only [dats, Option.some.injEq] at e; subst e; rfl
  | d :: r, ps, e => by
    simp only [dats] at e
    split at e
    · next p e1 =>
      split at e
      · next qs e2 =>
        simp only [Option.some.injEq] at e; subst e
        simp only [PyData.canLayAll0, Bool.and_eq_true]
        exact ⟨canLay_dat d p e1, canLay_dats r qs e2⟩
      · cases e
    · cases e
end
theorem canLay_datM {μ : Mu} {d : D} {p : PyData} (e : datM μ d = some p) : p.canLay0 = true := by
  cases d with
  | ref a =>
    simp only [datM] at e
    split at e
    · next l e0 =>
      split at e
      · next ps e1 => simp only [Option.some.injEq] at e; subst e; simp only [PyData.canLay0]; exact canLay_dats l ps e1
      · cases e
    · cases e
  | non => exact canLay_dat _ p e
  | bl b => exact canLay_dat _ p e
  | int i => exact canLay_dat _ p e
  | str x => exact canLay_dat _ p e
  | ty n => exact canLay_dat _ p e
  | tup l => exact canLay_dat _ p e
  | fls l => exact canLay_dat _ p e
  | exc c => simp [datM, dat] at e
theorem shaped_of {μ : Mu} {d : D} {p : PyData} (e : datM μ d = some p) (h : p.depth ≤ 64) : PySem.SeqAt.shaped p = true := by
  unfold PySem.SeqAt.shaped
  rw [canLay_datM e, decide_eq_true h]; rfl
/-- == of data -/
noncomputable def rEqD (K : Fg) (neg : Bool) : R2 := fun x y H Q => ∃ d e μ p q, RelM K μ H ∧ RelD K H d x ∧ RelD K H e y ∧ datM μ d = some p ∧ datM μ e = some q ∧ p.depth ≤ 64 ∧ q.depth ≤ 64 ∧ Q (.bl (if neg then !PyData.eqv p q else PyData.eqv p q)) H
theorem op_eqD (hu : X.A.units + 64 < cLine) : OpR X (compareOp .Eq) (rEqD X.K false) := by
  intro pins s σ H x y v u Q I rx ry h
  obtain ⟨d, e, μ, p, q, m, rd, re, e1, e2, h1, h2, k⟩ := h
  obtain ⟨as, q1⟩ := readsM_of I m rd e1 rx
  obtain ⟨bs, q2⟩ := readsM_of I m re e2 ry
  exact eq_dataH q1 q2 (shaped_of e1 h1) (shaped_of e2 h2) hu ⟨.bl _, H, I, rfl, k⟩
theorem op_neD (hu : X.A.units + 64 < cLine) : OpR X (compareOp .NotEq) (rEqD X.K true) := by
  intro pins s σ H x y v u Q I rx ry h
  obtain ⟨d, e, μ, p, q, m, rd, re, e1, e2, h1, h2, k⟩ := h
  obtain ⟨as, q1⟩ := readsM_of I m rd e1 rx
  obtain ⟨bs, q2⟩ := readsM_of I m re e2 ry
  exact ne_dataH q1 q2 (shaped_of e1 h1) (shaped_of e2 h2) hu ⟨.bl _, H, I, rfl, k⟩
theorem eqS_v {K : Fg} {H : Hp} {x y : D} {v u : V} {c : Bool} (rx : RelD K H x v) (ry : RelD K H y u) (e : eqS x y = some c) : scal v u = true ∧ decide (v = u) = c := by
  cases rx <;> cases ry <;> first | (cases e; done) | (cases e; exact ⟨rfl, rfl⟩) | (cases e; refine ⟨rfl, ?_⟩; simp)
theorem hu64 {A : Around} {k : Nat} (hr : Room k A) : A.units + 64 < cLine := by have := hr.un; omega
/-- in, of data -/
noncomputable def rInD (K : Fg) (neg : Bool) : R2 := fun x y H Q => ∃ d e μ p xs, ∃ b : Bool, RelM K μ H ∧ RelD K H d x ∧ RelD K H e y ∧ datM μ d = some p ∧ datM μ e = some (if b then .list xs else .tuple xs) ∧ p.depth ≤ 64 ∧ (if b then PyData.list xs else PyData.tuple xs).depth ≤ 64 ∧
  Q (.bl (if neg then !(xs.any fun e => PyData.eqv e p) else xs.any fun e => PyData.eqv e p)) H
theorem op_inD (hu : X.A.units + 65 < cLine) : OpR X (compareOp .In) (rInD X.K false) := by
  intro pins s σ H x y v u Q I rx ry h
  obtain ⟨d, e, μ, p, xs, b, m, rd, re, e1, e2, h1, h2, k⟩ := h
  obtain ⟨as, q1⟩ := readsM_of I m rd e1 rx
  obtain ⟨bs, q2⟩ := readsM_of I m re e2 ry
  cases b
  · exact PySem.SeqAt.in_tuple_reads q2 q1 (PySem.SeqAt.canLay_of_shaped (shaped_of e2 h2)) (PySem.SeqAt.canLay_of_shaped (shaped_of e1 h1)) (room_in_shaped (shaped_of e1 h1) hu) ⟨.bl _, H, I, rfl, k⟩
  · exact PySem.SeqAt.in_list_reads q2 q1 (PySem.SeqAt.canLay_of_shaped (shaped_of e2 h2)) (PySem.SeqAt.canLay_of_shaped (shaped_of e1 h1)) (room_in_shaped (shaped_of e1 h1) hu) ⟨.bl _, H, I, rfl, k⟩
theorem hu65 {A : Around} {k : Nat} (hr : Room k A) : A.units + 65 < cLine := by have := hr.un; omega
theorem inD_v {K : Fg} {neg : Bool} {x y : D} {v u : V} {H : Hp} {Q : VK} {μ : Mu} {Q3 : VK3} (m : RelM K μ H) (rx : RelD K H x v) (ry : RelD K H y u) (h : inD neg x y μ Q3) (k : Ks K H Q3 Q) : rInD K neg v u H Q := by
  unfold inD at h
  split at h
  · next d xs e1 e2 => exact ⟨x, y, μ, d, xs, true, m, rx, ry, e1, e2, h.1.1, h.1.2, k _ _ _ _ h.2 (Kp.refl _) (.bl _) m⟩
  · next d xs e1 e2 => exact ⟨x, y, μ, d, xs, false, m, rx, ry, e1, e2, h.1.1, h.1.2, k _ _ _ _ h.2 (Kp.refl _) (.bl _) m⟩
  · exact h.elim
theorem RdO.inn {K : Fg} {neg : Bool} : RdO K (fun x y H Q => (rIn K neg x y H Q ∨ ∃ i j, x = .str i ∧ y = .str j ∧ Q (.bl (if neg then !(!(Builtin.Str.occurrences j i 0 j.length 1).isEmpty) else !(Builtin.Str.occurrences j i 0 j.length 1).isEmpty)) H) ∨ rInD K neg x y H Q) (inR neg) := fun x y v u H Q μ Q3 m rx ry h k => by
  unfold inR at h
  split at h
  · next z l =>
    cases e : strs? l with
    | none => rw [e] at h; exact .inr (inD_v m rx ry h k)
    | some zs =>
      rw [e] at h
      cases rx
      cases ry with
      | tup hq rs =>
        rename_i a vs
        have ev := strs_rel rs e
        refine .inl <| .inl ⟨a, vs, rfl, .inr hq, rfl, by rw [ev]; exact flat_strs zs, ?_⟩
        rw [ev, inV_strs]
        exact k _ _ _ _ h (Kp.refl _) (.bl _) m
  · next z y =>
    cases rx
    cases ry
    exact .inl <| .inr ⟨z, y, rfl, rfl, k _ _ _ _ h (Kp.refl _) (.bl _) m⟩
  · exact .inr (inD_v m rx ry h k)
theorem q_in (hu : X.A.units + 65 < cLine) : RO X (compareOp .In) (inR false) := ⟨_, (op_in_seq.or op_in_str).or (op_inD hu), RdO.inn⟩
theorem q_eq (hu : X.A.units + 64 < cLine) : RO X (compareOp .Eq) eqR := by
  refine ⟨_, op_eq.or (op_eqD hu), fun x y v u H Q μ Q3 m rx ry h k => ?_⟩
  unfold eqR at h
  cases e : eqS x y with
  | some c =>
    rw [e] at h
    obtain ⟨h1, h2⟩ := eqS_v rx ry e
    refine .inl ⟨h1, ?_⟩
    rw [h2]
    exact k _ _ _ _ h (Kp.refl _) (.bl _) m
  | none =>
    rw [e] at h
    dsimp only at h
    cases e1 : datM μ x with
    | none => rw [e1] at h; exact h.elim
    | some p =>
      cases e2 : datM μ y with
      | none => rw [e1, e2] at h; exact h.elim
      | some q =>
        rw [e1, e2] at h
        exact .inr ⟨x, y, μ, p, q, m, rx, ry, e1, e2, h.1.1, h.1.2, k _ _ _ _ h.2 (Kp.refl _) (.bl _) m⟩
theorem q_ne (hu : X.A.units + 64 < cLine) : RO X (compareOp .NotEq) neR := by
  refine ⟨_, op_ne.or (op_neD hu), fun x y v u H Q μ Q3 m rx ry h k => ?_⟩
  unfold neR at h
  cases e : eqS x y with
  | some c =>
    rw [e] at h
    obtain ⟨h1, h2⟩ := eqS_v rx ry e
    refine .inl ⟨h1, ?_⟩
    rw [h2]
    exact k _ _ _ _ h (Kp.refl _) (.bl _) m
  | none =>
    rw [e] at h
    dsimp only at h
    cases e1 : datM μ x with
    | none => rw [e1] at h; exact h.elim
    | some p =>
      cases e2 : datM μ y with
      | none => rw [e1, e2] at h; exact h.elim
      | some q =>
        rw [e1, e2] at h
        exact .inr ⟨x, y, μ, p, q, m, rx, ry, e1, e2, h.1.1, h.1.2, k _ _ _ _ h.2 (Kp.refl _) (.bl _) m⟩
/-! ### isinstance -/
theorem isi_tab (K : Fg) : ∀ t ∈ ["int", "str", "tuple", "bool", "NoneType", "list"], ∀ T ∈ ["int", "str", "tuple", "bool", "list"], PySem.W.kitOne K (.type t) (.type T) = some (t == T || (t == "bool" && T == "int")) := by
  intro t ht T hT
  simp only [List.mem_cons, List.not_mem_nil, or_false] at ht hT
  rcases ht with rfl | rfl | rfl | rfl | rfl | rfl <;> rcases hT with rfl | rfl | rfl | rfl | rfl <;> with_unfolding_all rfl
theorem isIn_k {K : Fg} {t T : String} {b : Bool} (e : isIn t T = some b) (ht : t ∈ ["int", "str", "tuple", "bool", "NoneType", "list"]) (hT : T ∈ ["int", "str", "tuple", "bool", "list"]) : PySem.W.kitOne K (.type t) (.type T) = some b := by
  rw [isi_tab K t ht T hT]
  simp only [List.mem_cons, List.not_mem_nil, or_false] at ht hT
  rcases ht with rfl | rfl | rfl | rfl | rfl | rfl <;> rcases hT with rfl | rfl | rfl | rfl | rfl <;> simp [isIn] at e <;> subst e <;> rfl
theorem isIn_T {t T : String} {b : Bool} (e : isIn t T = some b) (ht : t ∈ ["int", "str", "tuple", "bool", "NoneType", "list"]) : T ∈ ["int", "str", "tuple", "bool", "list"] ∨ (t = T ∧ b = true) := by
  unfold isIn at e
  simp only [List.mem_cons, List.not_mem_nil, or_false] at ht ⊢
  split at e
  · next h => simp only [Option.some.injEq] at e; exact .inr ⟨h, e.symm⟩
  · split at e
    · next h => rw [h.2]; simp
    · split at e
      · next h => rcases h.2 with rfl | rfl | rfl | rfl | rfl <;> simp
      · cases e
theorem kit_same (K : Fg) (t : String) : PySem.W.kitOne K (.type t) (.type t) = some true := by
  unfold PySem.W.kitOne
  rw [if_pos (by simp)]
noncomputable def rIsi (K : Fg) : List V → Hp → VK → Prop := fun xs H Q => ∃ d v μ t T b, xs = [v, .ty T] ∧ RelM K μ H ∧ RelD K H d v ∧ tyN μ d = some t ∧ isIn t T = some b ∧ Q (.bl b) H
theorem call_isi : CallR X (.builtin "isinstance") (rIsi X.K) := by
  intro pins s σ H xs us Q I r h
  obtain ⟨d, v, μ, t, T, b, rfl, m, rd, e1, e2, q⟩ := h
  obtain ⟨u, w', rfl, rx, ry⟩ := vals2 r
  cases ry
  have fin : ∀ tk, EP X pins σ Q (.bool b) { s with toks := tk } := fun tk => ⟨.bl b, H, I.tok tk, rfl, q⟩
  have hk : ∀ t', t' ∈ ["int", "str", "tuple", "bool", "NoneType", "list"] → isIn t' T = some b → PySem.W.kitOne X.K (.type t') (.type T) = some b := fun t' h1 h2 => by
    rcases isIn_T h2 h1 with z | ⟨rfl, rfl⟩
    · exact isIn_k h2 h1 z
    · exact kit_same _ _
  cases rd with
  | non => simp only [tyN, Option.some.injEq] at e1; subst e1; cases rx; exact PySem.W.kia_one PySem.W.kitx_none I.kIn True.intro (hk _ (by simp) e2) (fun z => nomatch z) fin
  | bl y => simp only [tyN, Option.some.injEq] at e1; subst e1; cases rx; exact PySem.W.kia_one PySem.W.kitx_bool I.kIn True.intro (hk _ (by simp) e2) (fun z => nomatch z) fin
  | int i => simp only [tyN, Option.some.injEq] at e1; subst e1; obtain ⟨tk, rfl⟩ := rx; exact PySem.W.kia_one PySem.W.kitx_int I.kIn True.intro (hk _ (by simp) e2) (fun z => nomatch z) fin
  | str y => simp only [tyN, Option.some.injEq] at e1; subst e1; obtain ⟨tk, rfl⟩ := rx; exact PySem.W.kia_one PySem.W.kitx_str I.kIn True.intro (hk _ (by simp) e2) (fun z => nomatch z) fin
  | tup hq rs =>
    simp only [tyN, Option.some.injEq] at e1; subst e1; cases rx
    obtain ⟨its, rv, ⟨o, ho, hc, _⟩, hz⟩ := I.tuple hq
    exact PySem.W.kia_one PySem.W.kitx_tuple I.kIn ⟨o, ho, hc⟩ (hk _ (by simp) e2) (fun z => nomatch z) fin
  | ref p =>
    simp only [tyN] at e1
    split at e1
    · next l e0 =>
      simp only [Option.some.injEq] at e1; subst e1; cases rx
      obtain ⟨vs, hv, rs⟩ := m p l e0
      obtain ⟨its, rv, pl, hz⟩ := I.list (SqL.of hv)
      obtain ⟨o, ho, hc, _⟩ := pl.isList
      exact PySem.W.kia_one PySem.W.kitx_list I.kIn ⟨o, ho, hc⟩ (hk _ (by simp) e2) (fun z => nomatch z) fin
    · cases e1
  | ty n => simp [tyN] at e1
  | fls _ _ => simp [tyN] at e1
  | exc _ _ _ => simp [tyN] at e1
theorem q_isi : RC X (.builtin "isinstance") isiR := by
  refine ⟨_, call_isi, fun xs vs H Q μ Q3 m r h k => ?_⟩
  cases r with
  | nil => exact False.elim h
  | cons r1 r2 =>
    cases r2 with
    | nil => exact False.elim h
    | cons r2 r3 =>
      cases r3 with
      | cons _ _ => cases r2 <;> exact False.elim h
      | nil =>
        cases r2 with
        | ty T =>
          rename_i d v
          dsimp only [isiR] at h
          cases e : tyN μ d with
          | none => rw [e] at h; exact h.elim
          | some t =>
            rw [e] at h
            dsimp only at h
            cases e2 : isIn t T with
            | none => rw [e2] at h; exact h.elim
            | some b =>
              rw [e2] at h
              exact ⟨d, v, μ, t, T, b, rfl, m, r1, e, e2, k _ _ _ _ h (Kp.refl _) (.bl _) m⟩
        | _ => exact False.elim h
/-! ### methods of lists -/
variable {o e : Expr} {es : List Expr} {to : TE3} {t : TA3} {apos cpos : Pos}
theorem re_bm {name : Str} {id : String} {r : V → List V → Hp → VK → Prop} {r3 : D → List D → Mu → VK3 → Prop} (slot : Slot "list" name id) (hty : typeOf (.builtin id) = pure (.type "method_descriptor")) (hm : MtR X id r)
    (hrd : ∀ p xs v vs H Q μ Q3, RelM X.K μ H → RelD X.K H (.ref p) v → RelDs X.K H xs vs → r3 (.ref p) xs μ Q3 → Ks X.K H Q3 Q → r v vs H Q) (ho : RE X o to) (ha : RA X (e :: es) t)
    (hbase : attributeBase o name X.env (eval o X.env) = eval o X.env)
    (hfew : ((backTo cpos (starEach (e :: es) X.env)).all (fun x => !x.1) && (backToKw cpos (keywordEach [] X.env)).all (fun x => x.1.isSome)
      && decide ((e :: es).length + ([] : List Keyword).length + (if ([] : List Keyword).isEmpty then 0 else 1) < 30)) = true)
    (hline : (apos.endLine == cpos.line) = true) (hs : starEach (e :: es) X.env = (false, eval e X.env) :: starEach es X.env) (hplain : (backTo cpos (starEach es X.env)).any (·.1) = false) :
    RE X (.Call (.Attribute o name apos) (e :: es) [] cpos) (mt3 r3 to t) := by
  obtain ⟨va, pa, ra⟩ := ho
  obtain ⟨vb, pb, rb⟩ := ha
  refine ⟨_, pe_bm PySem.F.plainAttrs_list slot hty hm pa pb hbase hfew hline hs hplain, fun σ H Q ρ μ Q3 s m h k => ra σ H _ ρ μ _ s m h fun d μ1 v H1 h1 k1 r1 m1 => ?_⟩
  cases r1 with
  | ref p =>
    dsimp only at h1
    cases e0 : μ1 p with
    | none => rw [e0] at h1; exact h1.elim
    | some oo =>
      cases oo with
      | ins _ _ => rw [e0] at h1; exact h1.elim
      | lst l =>
        rw [e0] at h1
        obtain ⟨vs, hv, rs⟩ := m1 p l e0
        refine ⟨.inl ⟨rfl, vs, SqL.of hv⟩, rb σ H1 _ ρ μ1 _ (s.mono k1) m1 h1 fun xs μ2 ys H2 h2 k2 r2 m2 => ?_⟩
        exact hrd p xs _ ys H2 Q μ2 Q3 m2 (.ref p) r2 h2 (k.after (k1.trans k2))
  | _ => exact False.elim h1
theorem re_append (ho : RE X o to) (ha : RA X (e :: es) t) (hbase : attributeBase o "append" X.env (eval o X.env) = eval o X.env := by rfl)
    (hfew : ((backTo cpos (starEach (e :: es) X.env)).all (fun x => !x.1) && (backToKw cpos (keywordEach [] X.env)).all (fun x => x.1.isSome)
      && decide ((e :: es).length + ([] : List Keyword).length + (if ([] : List Keyword).isEmpty then 0 else 1) < 30)) = true := by rfl)
    (hline : (apos.endLine == cpos.line) = true := by rfl) (hs : starEach (e :: es) X.env = (false, eval e X.env) :: starEach es X.env := by rfl) (hplain : (backTo cpos (starEach es X.env)).any (·.1) = false := by rfl) :
    RE X (.Call (.Attribute o "append" apos) (e :: es) [] cpos) (mt3 appR to t) := by
  refine re_bm PySem.F.slot_list_append PySem.F.type_list_append mt_append (fun p xs v vs H Q μ Q3 m rp rx h k => ?_) ho ha hbase hfew hline hs hplain
  cases rp
  cases rx with
  | nil => exact False.elim h
  | cons r1 r2 =>
    cases r2 with
    | cons _ _ => exact False.elim h
    | nil =>
      dsimp only [appR] at h
      cases e0 : μ p with
      | none => rw [e0] at h; exact h.elim
      | some oo =>
        cases oo with
        | ins _ _ => rw [e0] at h; exact h.elim
        | lst l =>
          rw [e0] at h
          obtain ⟨vs, hv, rs⟩ := m p l e0
          exact ⟨p, vs, _, rfl, rfl, hv, by rw [← rs.length]; exact h.1, k _ _ _ _ h.2 (Kp.wr hv) .non (m.wr hv (rs.append (.cons r1 .nil)))⟩
theorem re_extend (ho : RE X o to) (ha : RA X (e :: es) t) (hbase : attributeBase o "extend" X.env (eval o X.env) = eval o X.env := by rfl)
    (hfew : ((backTo cpos (starEach (e :: es) X.env)).all (fun x => !x.1) && (backToKw cpos (keywordEach [] X.env)).all (fun x => x.1.isSome)
      && decide ((e :: es).length + ([] : List Keyword).length + (if ([] : List Keyword).isEmpty then 0 else 1) < 30)) = true := by rfl)
    (hline : (apos.endLine == cpos.line) = true := by rfl) (hs : starEach (e :: es) X.env = (false, eval e X.env) :: starEach es X.env := by rfl) (hplain : (backTo cpos (starEach es X.env)).any (·.1) = false := by rfl) :
    RE X (.Call (.Attribute o "extend" apos) (e :: es) [] cpos) (mt3 extR to t) := by
  refine re_bm PySem.F.slot_list_extend PySem.F.type_list_extend mt_extend (fun p xs v vs H Q μ Q3 m rp rx h k => ?_) ho ha hbase hfew hline hs hplain
  cases rp
  cases rx with
  | nil => exact False.elim h
  | cons r1 r2 =>
    cases r2 with
    | cons _ _ => cases r1 <;> exact False.elim h
    | nil =>
      cases r1 with
      | ref q =>
        dsimp only [extR] at h
        cases e0 : μ p with
        | none => rw [e0] at h; exact h.elim
        | some oo =>
          cases oo with
          | ins _ _ => rw [e0] at h; exact h.elim
          | lst l =>
            cases e2 : μ q with
            | none => rw [e0, e2] at h; exact h.elim
            | some o2 =>
              cases o2 with
              | ins _ _ => rw [e0, e2] at h; exact h.elim
              | lst l2 =>
                rw [e0, e2] at h
                obtain ⟨vs, hv, rs⟩ := m p l e0
                obtain ⟨us, hu, ru⟩ := m q l2 e2
                exact ⟨p, q, vs, us, rfl, rfl, hv, hu, by rw [← rs.length, ← ru.length]; exact h.1, k _ _ _ _ h.2 (Kp.wr hv) .non (m.wr hv (rs.append ru))⟩
      | _ => exact False.elim h
end
end Pv

namespace Pv
open PySem PySem.Spec PyProof.Rows L2
/-! ### a comprehension: a block of its own within the body -/
noncomputable abbrev compCx (X : Cx) (NN : List Str) (scope : Scope) (cl : List (Str × Addr)) (C : Addr) (fp : List Addr) (s₀ : Shared) (H₀ : Hp) (pn : List (Addr × Obj)) : Cx :=
  { X with N := NN, s₀ := s₀, H₀ := H₀, env := compEnvC scope cl C X.env, outer := X.stack, ex := fp, fn := fun _ => false, pn := pn, xe := fun _ _ => False }
structure CompSc (X : Cx) (NN : List Str) (scope : Scope) (cl : List (Str × Addr)) (js : List (Option Nat)) : Prop where
  clos : closureFor scope X.env = pure cl
  cell : ∀ y ∈ scope.names, y.2 ≠ .cell
  kind : scope.kind = .function
  names : ∀ y ∈ scope.names, y.2 = .local → scope.names.lookup y.1 = some .local
  sub : ∀ x c, cl.lookup x = some c → X.env.cells.lookup x = some c
  has : ∀ x, ((relabel scope X.env).names.lookup x = some .cell ∨ (relabel scope X.env).names.lookup x = some .free) → ∃ c, cl.lookup x = some c
  len : js.length = NN.length
  out : ∀ (i j : Nat), js[i]? = some (some j) → ∃ x, NN[i]? = some x ∧ X.N[j]? = some x ∧ Vis X.env.scope x ∧ X.env.scope.names.lookup x ≠ some .local ∧ ((relabel scope X.env).names.lookup x = some .cell ∨ (relabel scope X.env).names.lookup x = some .free)
theorem lookup_mem {α : Type} {x : Str} {k : α} : ∀ {l : List (Str × α)}, l.lookup x = some k → (x, k) ∈ l
  | [], h => by simp at h
  | (n, k') :: r, h => by
    rw [List.lookup_cons] at h
    split at h
    · next e => simp only [Option.some.injEq] at h; subst h; rw [eq_of_beq e]; exact List.mem_cons_self
    · exact List.mem_cons_of_mem _ (lookup_mem h)
/-- no name of the body's is used in it -/
theorem CompSc.closed {X : Cx} {NN : List Str} {scope : Scope} (hf : ∀ y ∈ scope.names, y.2 ≠ .free) (hc : ∀ y ∈ scope.names, y.2 ≠ .cell) (hk : scope.kind = .function) (hn : ∀ y ∈ scope.names, y.2 = .local → scope.names.lookup y.1 = some .local) :
    CompSc X NN scope [] (NN.map fun _ => none) where
  clos := closureFor_none hf
  cell := hc
  kind := hk
  names := hn
  sub := fun x c h => by simp at h
  has := fun x h => by
    exfalso
    have e : (relabel scope X.env).names = scope.names := map_eq_self (l := scope.names) (fun y hy => by
      obtain ⟨n, k⟩ := y
      have : (k == NameKind.free) = false := by simpa using hf _ hy
      simp [this])
    rw [e] at h
    rcases h with h | h
    · exact hc _ (lookup_mem h) rfl
    · exact hf _ (lookup_mem h) rfl
  len := by simp
  out := fun i j h => by
    rw [List.getElem?_map] at h
    cases q : NN[i]? with
    | none => rw [q] at h; cases h
    | some y => rw [q] at h; simp at h
noncomputable def initV (js : List (Option Nat)) (σ : L2.St) : L2.St := js.map fun j => j.bind fun j => (σ[j]?).bind id
/-- the tests -/
noncomputable def PTs (X : Cx) (ifs : List Expr) (t : TT) : Prop := ∀ (pins : List (Addr × Obj)) (s : Shared) (σ : L2.St) (H : Hp) (Q : Bool → Hp → Prop), Inv X pins σ H s → t σ H Q →
  wpAny (model X.prog X.w) X.A (forIn ifs true fun c r => if r = true then do let ok ← isTrue c X.env (eval c X.env); pure (ForInStep.yield ok) else pure (ForInStep.yield r)) (TP X pins σ Q) X.xe s
theorem pts_nil {X : Cx} : PTs X [] (fun _ H Q => Q true H) := fun _ _ _ H _ I h => wpAny_tests_nil ⟨H, I, h⟩
noncomputable def tComp (js : List (Option Nat)) (wi : TI) (g : TG) (tc : TT) (te : TE) : TE := fun σ H Q => wi σ H fun J H1 => ∀ p, H1 p = none →
  ∃ W : Nat → Nat → L2.St → Hp → Prop, (∃ m, W 0 m (initV js σ) (upd H1 p (.lst []))) ∧ ∀ i m σ' H', W i m σ' H' →
    ((J.stop i H' ∧ Q (.ref p) H') ∨ (J.go i H' ∧ ∀ x H2, J.yld i H' x H2 → g x σ' H2 fun σ3 H3 => tc σ3 H3 fun b H4 =>
      if b = true then te σ3 H4 fun y H5 => ∃ ys, H5 p = some (.lst ys) ∧ ys.length < sizeLine ∧ ∃ m', m' < m ∧ W (i + 1) m' σ3 (upd H5 p (.lst (ys ++ [y]))) else ∃ m', m' < m ∧ W (i + 1) m' σ3 H4))
section
variable {X : Cx} {NN : List Str} {scope : Scope} {cl : List (Str × Addr)} {js : List (Option Nat)}
theorem comp_ok {pins : List (Addr × Obj)} {σ : L2.St} {H : Hp} {s : Shared} {fp : List Addr} {pn : List (Addr × Obj)} (hc : X.calm = true) (S : CompSc X NN scope cl js) (I : Inv X pins σ H s) (f : ∀ b ∈ fp, FpOk X pins H b ∧ b < s.heap.objs.size) :
    (compCx X NN scope cl s.heap.objs.size fp s H pn).Ok where
  mod := I.ok.mod
  kind := S.kind
  glob := I.ok.glob
  blt := I.ok.blt
  above := Nat.le_refl _
  inj := fun x y c h1 h2 => I.ok.inj x y c (S.sub x c h1) (S.sub y c h2)
  has := fun x h => S.has x h
  cab := fun x c h => by cases h
  hd := fun _ => I.ok.hd hc
  frames := I.ok.frames
  stk := .inl rfl
  exf := fun b hb => ⟨Nat.ne_of_lt (f b hb).2, fun x c e => (f b hb).1.2.2.2.2.1 x c (S.sub x c e)⟩
  bs := I.bs
  bsz := Nat.le_trans I.ok.bsz I.sz
  noex := fun b o e hb => by
    rcases (f b hb).1.2.2.2.1 with z | z
    · exact I.ok.noex b o e z
    · exact absurd (Nat.lt_of_lt_of_le (Heap.lt_size e) (Nat.le_trans I.ok.bsz z)) (Nat.lt_irrefl _)
  exfs := fun b hb hfs => by
    rcases List.mem_cons.mp (I.stkSub b hfs) with z | z
    · exact (f b hb).1.2.1 z
    · exact (f b hb).1.2.2.1 z
  funs := I.stack
  frf := I.stkFree
theorem initV_get {js : List (Option Nat)} {σ : L2.St} {i : Nat} {v : V} (h : (initV js σ)[i]? = some (some v)) : ∃ j, js[i]? = some (some j) ∧ σ[j]? = some (some v) := by
  unfold initV at h
  rw [List.getElem?_map] at h
  cases q : js[i]? with
  | none => rw [q] at h; cases h
  | some o =>
    rw [q] at h
    cases o with
    | none => simp at h
    | some j =>
      refine ⟨j, rfl, ?_⟩
      simp only [Option.map_some, Option.bind_some, Option.some.injEq] at h
      cases e : σ[j]? with
      | none => rw [e] at h; simp at h
      | some w => rw [e] at h; simp only [Option.bind_some, id] at h; rw [h]
theorem comp_inv0 {pins : List (Addr × Obj)} {σ : L2.St} {H : Hp} {s : Shared} {fp : List Addr} {h₁ : Heap} {m : Str → Option Value} {tk : Nat} (hc : X.calm = true) (S : CompSc X NN scope cl js) (I : Inv X pins σ H s) (f : ∀ b ∈ fp, FpOk X pins H b ∧ b < s.heap.objs.size)
    (hn : h₁.Ns s.heap.objs.size m) (k : ∀ b u, s.heap.get? b = some u → h₁.get? b = some u) : Inv (compCx X NN scope cl s.heap.objs.size fp s H (X.pn ++ pins)) [] (initV js σ) H { s with heap := h₁, toks := tk } where
  ok := comp_ok hc S I f
  os := rfl
  bare := I.bare
  base := Un.kept k
  loc := by
    refine ⟨m, hn, fun i x v h1 h2 h3 => ?_⟩
    obtain ⟨j, e1, e2⟩ := initV_get h2
    obtain ⟨y, q1, q2, q3, q4, q5⟩ := S.out i j e1
    have q1' : NN[i]? = some x := h1
    rw [q1] at q1'; cases q1'
    obtain ⟨mX, _, hl⟩ := I.loc
    obtain ⟨u, r, l⟩ := hl j x v q2 e2 q3
    refine ⟨u, r, .inr ⟨q5, ?_⟩⟩
    rcases l with ⟨z, _⟩ | ⟨_, c, hc', hcell⟩
    · exact absurd z q4
    · obtain ⟨c', hc2⟩ := S.has x q5
      have e := S.sub x c' hc2
      rw [hc'] at e; cases e
      obtain ⟨o, ho, hd⟩ := hcell
      exact ⟨c, hc2, o, k _ _ ho, hd⟩
  cell := fun x c e => by
    obtain ⟨v, o, ho, hd⟩ := I.cell x c (S.sub x c e)
    exact ⟨v, o, k _ _ ho, hd⟩
  free := I.hok.fresh (Nat.le_refl _)
  freeC := fun x c e => I.freeC x c (S.sub x c e)
  pin := fun p hp => by
    have hp' : p ∈ X.pn ++ pins := by simpa using hp
    obtain ⟨h1, h2, h3, h4, h5⟩ := I.pin p hp'
    refine ⟨k _ _ h1, h2, Nat.ne_of_lt (Heap.lt_size h1), fun z => ?_, h5⟩
    rcases List.mem_cons.mp (I.stkSub _ z) with z | z
    · exact h3 z
    · exact h4 z
  hok := I.hok.kept k
  len := by show (initV js σ).length = NN.length; unfold initV; rw [List.length_map]; exact S.len
theorem pe_comp {elt target iter : Expr} {ifs : List Expr} {pos : Pos} {wi : TI} {g : TG} {tc : TT} {te : TE} (hc : X.calm = true) (S : CompSc X NN scope cl js) (hi : PI X target iter wi)
    (hg : ∀ C fp s₀ H₀ pn, PG (compCx X NN scope cl C fp s₀ H₀ pn) target g) (ht : ∀ C fp s₀ H₀ pn, PTs (compCx X NN scope cl C fp s₀ H₀ pn) ifs tc) (he : ∀ C fp s₀ H₀ pn, PE (compCx X NN scope cl C fp s₀ H₀ pn) elt te)
    (hs : ∀ x, foldedSetIterable iter X.env x = pure x) : PE X (.ListComp elt [⟨target, iter, ifs, 0⟩] scope pos) (tComp js wi g tc te) := by
  intro pins s σ H Q I h
  rw [eval_ListComp]
  refine wpAny_comprehension_free (use := none) rfl hs S.clos S.kind S.names (thn (hi pins s σ H _ I h) fun xv s1 h1 => thn h1 fun itv s2 h2 => ?_)
  obtain ⟨it, fp, tn, J, H2, rfl, I2, T, st2, f2, hW⟩ := h2
  refine wpAny_newObj_type (wpAny_newFunctionEnv S.cell (by intro y hy; simp at hy) (fun h₁ hns₁ hsb₁ => ?_) S.kind)
  dsimp only at hns₁ hsb₁ ⊢
  have hD : H2 s2.heap.objs.size = none := I2.hok.fresh (Nat.le_refl _)
  have I3 : Inv X pins σ (upd H2 s2.heap.objs.size (.lst [])) { s2 with heap := s2.heap.push { cls := .type "list", dict := none, data := .seq ([] : List Value).toArray } } :=
    I2.lnew (t' := s2.toks) (its := []) .nil (by rw [sizeLine_eq]; decide)
  generalize hsD : ({ s2 with heap := s2.heap.push { cls := .type "list", dict := none, data := .seq ([] : List Value).toArray } } : Shared) = sD at I3
  have eh : sD.heap = s2.heap.push { cls := .type "list", dict := none, data := .seq ([] : List Value).toArray } := by rw [← hsD]
  have es : ∀ (h : Heap) (tk : Nat), ({ s2 with heap := h, toks := tk } : Shared) = { sD with heap := h, toks := tk } := fun h tk => by rw [← hsD]
  have hsz : s2.heap.objs.size < sD.heap.objs.size := by rw [eh, Heap.size_push]; exact Nat.lt_succ_self _
  rw [← eh] at hns₁ hsb₁ ⊢
  generalize hp0 : s2.heap.objs.size = p0 at *
  have up : ∀ b u, s2.heap.get? b = some u → sD.heap.get? b = some u := fun b u e => by rw [eh]; exact Heap.get?_push_of_some _ e
  have k : ∀ b u, sD.heap.get? b = some u → h₁.get? b = some u := fun b u e => hsb₁.extBut b u (Nat.ne_of_lt (Heap.lt_size e)) (Heap.get?_push_of_some _ e)
  have f3 : ∀ b ∈ fp, FpOk X pins (upd H2 p0 (.lst [])) b ∧ b < sD.heap.objs.size := fun b hb => by
    obtain ⟨o, ho, _⟩ := T.obj 0 _ st2 b hb
    have hlt : b < p0 := by rw [← hp0]; exact Heap.lt_size ho
    refine ⟨⟨?_, (f2 b hb).2⟩, Nat.lt_trans hlt hsz⟩
    rw [upd_ne (Nat.ne_of_lt hlt)]; exact (f2 b hb).1
  obtain ⟨W, ⟨m0, w0⟩, turn⟩ := hW p0 hD
  have I4 := comp_inv0 (tk := s2.toks + ([] : List (Str × Value)).length) hc S I3 f3 hns₁ k
  have st4 : tn 0 h₁ := T.keep 0 _ _ st2 fun b _ o e => k b o (up b o e)
  rw [es]
  generalize hX' : compCx X NN scope cl sD.heap.objs.size fp sD (upd H2 p0 (.lst [])) (X.pn ++ pins) = X' at I4
  have a1 : X'.env = compEnvC scope cl sD.heap.objs.size X.env := by rw [← hX']
  have a2 : X'.prog = X.prog := by rw [← hX']
  have a3 : X'.w = X.w := by rw [← hX']
  have a4 : X'.A = X.A := by rw [← hX']
  have a5 : X'.K = X.K := by rw [← hX']
  have a6 : X'.calm = true := by rw [← hX']; exact hc
  have a7 : X'.xe = fun _ _ => False := by rw [← hX']
  have a8 : X'.ex = fp := by rw [← hX']
  have T' : Turn X'.prog X'.w X'.K target J fp it tn := by rw [a2, a3, a5]; exact T
  have hg' : PG X' target g := by rw [← hX']; exact hg _ _ _ _ _
  have ht' : PTs X' ifs tc := by rw [← hX']; exact ht _ _ _ _ _
  have he' : PE X' elt te := by rw [← hX']; exact he _ _ _ _ _
  have fin : ∀ {σ' : L2.St} {H' : Hp} {s' : Shared}, Inv X' [] σ' H' s' → Q (.ref p0) H' → compPost (model X.prog X.w) X.A X.xe none (EP X pins σ Q) (.ref p0) sD.heap.objs.size (.ok .next) s' := fun {σ' H' s'} I' q => by
    obtain ⟨m', hn', _⟩ := I'.loc
    rw [a1] at hn'
    refine ⟨m', hn', fun h' sb => ?_⟩
    have u : Un (frs X.stack) fp (upd H2 p0 (.lst [])) H' sD.heap s'.heap := by
      have := I'.base
      rw [← hX'] at this
      exact this
    have hch : ∀ b ∈ fp, (b ∈ X.ex ∨ X.s₀.heap.objs.size ≤ b) ∧ b ≠ X.env.locals ∧ (∀ x c, X.env.cells.lookup x = some c → c ≠ b) ∧ ∀ p ∈ X.pn ++ pins, p.1 ≠ b := fun b hb => by
      obtain ⟨_, z1, _, z3, z4, z5⟩ := (f3 b hb).1
      exact ⟨z3, z1, z4, z5⟩
    have os' : s'.os = sD.os := by
      have := I'.os
      rw [← hX'] at this
      exact this
    have hok' : HOk X.prog X.w H' s'.heap := by
      have := I'.hok
      rw [← hX'] at this
      exact this
    have I5 : Inv X pins σ H' s' := I3.call' os' u hok' I'.bare hch
    have hC : H' sD.heap.objs.size = none := by
      have := I'.free
      rw [a1] at this
      exact this
    refine ⟨.ref p0, H', I5.turned (t' := s'.toks) (it := sD.heap.objs.size) (fun b o hb e => sb.extBut b o hb e) hC (Nat.ne_of_gt I3.lt) (.inr I3.sz) (fun x c e => ?_) (fun p hp => ?_), rfl, q⟩
    · obtain ⟨v, o, ho, _⟩ := I3.cell x c e
      exact Nat.ne_of_lt (Heap.lt_size ho)
    · exact Nat.ne_of_lt (Heap.lt_size (I3.pin p hp).1)
  have fp4 : ∀ {H' : Hp}, (∀ b ∈ fp, H' b = none) → ∀ b ∈ fp, FpOk X' [] H' b := fun hn b hb => by
    obtain ⟨_, z1, z2, z3, z4, z5⟩ := (f3 b hb).1
    rw [← hX']
    refine ⟨hn b hb, Nat.ne_of_lt (f3 b hb).2, fun z => ?_, .inl hb, fun x c e => z4 x c (S.sub x c e), fun p hp => z5 p (by simpa using hp)⟩
    rcases List.mem_cons.mp (I3.stkSub _ z) with z | z
    · exact z1 z
    · exact z2 z
  have loop : ∀ s₃ : Shared, Inv X' [] (initV js σ) (upd H2 p0 (.lst [])) s₃ → tn 0 s₃.heap →
      codeAny (model X.prog X.w) X.A (.compLoop (.ListComp elt [⟨target, iter, ifs, 0⟩] scope pos) 0 (.ref it) (.ref p0) (compEnvC scope cl sD.heap.objs.size X.env)) (compPost (model X.prog X.w) X.A X.xe none (EP X pins σ Q) (.ref p0) sD.heap.objs.size) s₃ := by
    intro s₃ I₃ st₃
    refine codeAny_loop rfl (fun n s' => ∃ i σ' H', Inv X' [] σ' H' s' ∧ tn i s'.heap ∧ (∀ b ∈ fp, H' b = none) ∧ W i n σ' H') (fun n s' hI => ?_) m0 ⟨0, initV js σ, _, I₃, st₃, fun b hb => (f3 b hb).1.1, w0⟩
    obtain ⟨i, σ3, H3, J3, st3, fr3, w3⟩ := hI
    have tr := turn i n σ3 H3 w3
    show wpAny _ X.A ((compTurn (.ListComp elt [⟨target, iter, ifs, 0⟩] scope pos) 0 (.ref it) (.ref p0) (compEnvC scope cl sD.heap.objs.size X.env)).onRaise (fun x => do noteFrame x (compEnvC scope cl sD.heap.objs.size X.env); theTreesLotGoes x)) _ _ s'
    refine wpAny_noted ?_
    rw [compTurn_list, ← a1, ← a2, ← a3, ← a4]
    have nof : ∀ {α : Type} {t : Sem α} {Q' : α → Shared → Prop} {s'' : Shared} {E : Value → Shared → Prop}, wpAny (model X'.prog X'.w) X'.A t Q' X'.xe s'' → wpAny (model X'.prog X'.w) X'.A t Q' E s'' := fun h => wpAny_mono h (fun _ _ q => q) fun _ _ z => by rw [a7] at z; exact z.elim
    rcases tr with ⟨stop, qn⟩ | ⟨go, step⟩
    · refine wpAny_bind (wpAny_standAt (wpAny_bind (nof (thn (T'.done X' rfl rfl rfl a6 i [] s' σ3 H3 X'.xe J3 (fp4 fr3) st3 stop) fun r s4 ⟨hr, J4⟩ => ?_))))
      subst hr
      exact wpAny_pure (fin J4 qn)
    · refine wpAny_bind (wpAny_standAt (wpAny_bind (nof (thn (T'.item X' rfl rfl rfl a6 i [] s' σ3 H3 X'.xe J3 (fp4 fr3) st3 go) fun r s4 ⟨u, hr, h4⟩ => ?_))))
      subst hr
      refine wpAny_bind (nof (thn h4 fun _ s5 ⟨x, H5, I5, r5, y5, st5, fr5⟩ => ?_))
      have I5' := I5.pinned (fp4 fr5) (T.obj _ _ st5)
      refine wpAny_bind (nof (thn (hg' _ s5 σ3 H5 x u _ I5' r5 (step x H5 y5)) fun _ s6 ⟨σ6, H6, I6, q6⟩ => ?_))
      refine wpAny_bind (nof (thn (ht' _ s6 σ6 H6 _ I6 q6) fun ok s7 ⟨H7, I7, q7⟩ => ?_))
      have again : ∀ {s8 : Shared} {σ8 : L2.St} {H8 : Hp}, Inv X' ([] ++ pinsAt fp s5.heap) σ8 H8 s8 → (∃ m', m' < n ∧ W (i + 1) m' σ8 H8) → ∃ m, m < n ∧ ∃ i σ' H', Inv X' [] σ' H' s8 ∧ tn i s8.heap ∧ (∀ b ∈ fp, H' b = none) ∧ W i m σ' H' := fun {s8 σ8 H8} I8 ⟨m', hm, w8⟩ => by
        refine ⟨m', hm, i + 1, σ8, H8, I8.unpinned, T.keep _ _ _ st5 fun b hb o e => (I8.pin (b, o) (List.mem_append_right _ (List.mem_append_right _ (mem_pinsAt hb e)))).1, fun b hb => ?_, w8⟩
        obtain ⟨o, e, d⟩ := T.obj _ _ st5 b hb
        exact (I8.pin (b, o) (List.mem_append_right _ (List.mem_append_right _ (mem_pinsAt hb e)))).2.1
      cases ok with
      | false => exact wpAny_pure ⟨rfl, again I7 q7⟩
      | true =>
        refine wpAny_bind (wpAny_bind (nof (thn (he' _ s7 σ6 H7 _ I7 q7) fun xv s8 ⟨y, H8, I8, r8, ys, q8, hlen, q9⟩ => wpAny_bind (nof ?_))))
        refine thn (mt_append (X := X') _ s8 σ6 H8 (.ref p0) [y] (.ref p0) [xv] (fun v H9 => v = .non ∧ H9 = upd H8 p0 (.lst (ys ++ [y]))) I8 rfl (.cons r8 .nil) ⟨p0, ys, y, rfl, rfl, q8, hlen, rfl, rfl⟩) fun rv s9 ⟨v9, H9, I9, _, _, e9⟩ => ?_
        subst e9
        exact wpAny_pure (wpAny_pure ⟨rfl, again I9 q9⟩)
  exact codeAny_compStart_list (loop _ I4 st4) (T.self X.A 0 _ _ _ st4 (loop _ I4 st4))
end
end Pv

namespace Pv
open PySem PySem.Spec PyProof.Rows L2
theorem bz_len : bootBuiltins "len" = some (.builtin "len") := by decide +kernel
theorem bz_abs : bootBuiltins "abs" = some (.builtin "abs") := by decide +kernel
theorem bz_isinstance : bootBuiltins "isinstance" = some (.builtin "isinstance") := by decide +kernel
theorem bz_sum : bootBuiltins "sum" = some (.builtin "sum") := by decide +kernel
theorem bz_tuple : bootBuiltins "tuple" = some (.type "tuple") := by decide +kernel
theorem bz_int : bootBuiltins "int" = some (.type "int") := by decide +kernel
theorem bz_str : bootBuiltins "str" = some (.type "str") := by decide +kernel
theorem bz_bool : bootBuiltins "bool" = some (.type "bool") := by decide +kernel
noncomputable def RTs (X : Cx) (ifs : List Expr) (t : TT3) : Prop := ∃ tv, PTs X ifs tv ∧ RdT X.K tv t
theorem rts_nil {X : Cx} : RTs X [] tt3 := ⟨_, pts_nil, fun σ H Q ρ μ Q3 s m h k => k _ _ _ h (Kp.refl _) m⟩
theorem init_rel {K : Fg} {H : Hp} {ρ : St3} {σ : L2.St} (s : RSt K H ρ σ) (js : List (Option Nat)) : RSt K H (js.map fun j => j.bind (getI ρ)) (initV js σ) := by
  refine ⟨by simp [initV], fun i d e => ?_⟩
  rw [getI_eq, List.getElem?_map] at e
  unfold initV
  rw [List.getElem?_map]
  cases q : js[i]? with
  | none => rw [q] at e; cases e
  | some o =>
    rw [q] at e
    cases o with
    | none => simp at e
    | some j =>
      have e' : getI ρ j = some d := by simpa using e
      obtain ⟨v, h1, h2⟩ := s.at' j d e'
      exact ⟨v, by simp [h1], h2⟩
theorem RdE.comp {K : Fg} {js : List (Option Nat)} {wi : TI} {g : TG} {tc : TT} {te : TE} {ti : TI3} {g3 : TG3} {tc3 : TT3} {te3 : TE3} (ri : RdI K wi ti) (rg : RdG K g g3) (rt : RdT K tc tc3) (re : RdE K te te3) : RdE K (tComp js wi g tc te) (comp3 js ti g3 tc3 te3) := by
  intro σ H Q ρ μ Q3 s m h k
  refine ri σ H _ ρ μ _ s m h fun l S μ1 J H1 h1 k1 m1 ok p hp => ?_
  obtain ⟨W, w0, hS, hn, hs⟩ := h1 p (m1.free hp)
  have kn : Kp H1 (upd H1 p (.lst [])) := Kp.new hp
  refine ⟨fun i n σ2 H2 => n = l.length - i ∧ i ≤ l.length ∧ ∃ ρ2 μ2 ys, RSt K H2 ρ2 σ2 ∧ RelM K μ2 H2 ∧ Kp H1 H2 ∧ W (l.drop i) ys ρ2 μ2, ⟨l.length, rfl, Nat.zero_le _, _, _, [], (init_rel (s.mono k1) js).mono kn, m1.newL hp .nil, kn, w0⟩, ?_⟩
  rintro i n σ2 H2 ⟨rfl, hi, ρ2, μ2, ys, s2, m2, k2, w2⟩
  obtain ⟨hS2, hp2⟩ := hS _ _ _ _ w2
  by_cases hlt : i < l.length
  · rw [List.drop_eq_getElem_cons hlt] at w2
    obtain ⟨hz, h2⟩ := hs _ _ _ _ _ w2
    obtain ⟨ok1, _⟩ := ok i H2 μ2 k2 m2 hS2
    obtain ⟨go, yl⟩ := ok1 l[i] (List.getElem?_eq_getElem hlt)
    refine .inr ⟨go, fun x H3 y => ?_⟩
    obtain ⟨k3, m3, r3⟩ := yl x H3 y
    refine rg x l[i] σ2 H3 _ ρ2 μ2 _ (s2.mono k3) m3 r3 h2 fun ρ4 μ4 σ4 H4 h4 k4 s4 m4 => ?_
    refine rt σ4 H4 _ ρ4 μ4 _ s4 m4 h4 fun b μ5 H5 h5 k5 m5 => ?_
    have k15 : Kp H1 H5 := k2.trans (k3.trans (k4.trans k5))
    cases b with
    | false => exact ⟨l.length - (i + 1), by omega, rfl, hlt, ρ4, μ5, ys, s4.mono k5, m5, k15, h5⟩
    | true =>
      refine re σ4 H5 _ ρ4 μ5 _ (s4.mono k5) m5 h5 fun d μ6 v H6 h6 k6 r6 m6 => ?_
      obtain ⟨vs, hv, rv⟩ := m6 p ys h6.1
      refine ⟨vs, hv, by rw [← rv.length]; exact hz, l.length - (i + 1), by omega, rfl, hlt, ρ4, _, _, ((s4.mono k5).mono k6).mono (Kp.wr hv), m6.wr hv (rv.append (.cons r6 .nil)), (k15.trans k6).trans (Kp.wr hv), h6.2⟩
  · have e : i = l.length := by omega
    subst e
    rw [List.drop_length] at w2
    exact .inl ⟨(ok _ H2 μ2 k2 m2 hS2).2 (Nat.le_refl _), k _ _ _ _ (hn _ _ _ w2) (k1.trans k2) (.ref p) m2⟩
section
variable {X : Cx} {elt target iter : Expr} {ifs : List Expr} {pos : Pos} {ti : TI3} {g : TG3} {tc : TT3} {te : TE3} {NN : List Str} {scope : Scope} {cl : List (Str × Addr)} {js : List (Option Nat)}
theorem re_compG (hc : X.calm = true) (S : CompSc X NN scope cl js) (hi : RI X target iter ti) (hg : ∀ C fp s₀ H₀ pn, RG (compCx X NN scope cl C fp s₀ H₀ pn) target g)
    (ht : ∀ C fp s₀ H₀ pn, RTs (compCx X NN scope cl C fp s₀ H₀ pn) ifs tc) (he : ∀ C fp s₀ H₀ pn, RE (compCx X NN scope cl C fp s₀ H₀ pn) elt te)
    (hs : ∀ x, foldedSetIterable iter X.env x = pure x) : RE X (.ListComp elt [⟨target, iter, ifs, 0⟩] scope pos) (comp3 js ti g tc te) := by
  obtain ⟨wi, pi, ri⟩ := hi
  -- one reading for all blocks: the union of theirs
  let gU : TG := fun v σ H Q => ∀ (r : TG3), r = g → ∃ d ρ μ Q3, RSt X.K H ρ σ ∧ RelM X.K μ H ∧ RelD X.K H d v ∧ g d ρ μ Q3 ∧ (∀ ρ' μ' σ' H', Q3 ρ' μ' → Kp H H' → RSt X.K H' ρ' σ' → RelM X.K μ' H' → Q σ' H')
  let tU : TT := fun σ H Q => ∃ ρ μ Q3, RSt X.K H ρ σ ∧ RelM X.K μ H ∧ tc ρ μ Q3 ∧ (∀ b μ' H', Q3 b μ' → Kp H H' → RelM X.K μ' H' → Q b H')
  let eU : TE := fun σ H Q => ∃ ρ μ Q3, RSt X.K H ρ σ ∧ RelM X.K μ H ∧ te ρ μ Q3 ∧ Ks X.K H Q3 Q
  have hg' : ∀ C fp s₀ H₀ pn, PG (compCx X NN scope cl C fp s₀ H₀ pn) target gU := fun C fp s₀ H₀ pn => by
    obtain ⟨tv, p, r⟩ := hg C fp s₀ H₀ pn
    intro pins s σ H v u Q I rv h
    obtain ⟨d, ρ, μ, Q3, a1, a2, a3, a4, a5⟩ := h g rfl
    exact p pins s σ H v u Q I rv (r v d σ H Q ρ μ Q3 a1 a2 a3 a4 a5)
  have ht' : ∀ C fp s₀ H₀ pn, PTs (compCx X NN scope cl C fp s₀ H₀ pn) ifs tU := fun C fp s₀ H₀ pn => by
    obtain ⟨tv, p, r⟩ := ht C fp s₀ H₀ pn
    intro pins s σ H Q I h
    obtain ⟨ρ, μ, Q3, a1, a2, a3, a4⟩ := h
    exact p pins s σ H Q I (r σ H Q ρ μ Q3 a1 a2 a3 a4)
  have he' : ∀ C fp s₀ H₀ pn, PE (compCx X NN scope cl C fp s₀ H₀ pn) elt eU := fun C fp s₀ H₀ pn => by
    obtain ⟨tv, p, r⟩ := he C fp s₀ H₀ pn
    intro pins s σ H Q I h
    obtain ⟨ρ, μ, Q3, a1, a2, a3, a4⟩ := h
    exact p pins s σ H Q I (r σ H Q ρ μ Q3 a1 a2 a3 a4)
  exact ⟨_, pe_comp hc S pi hg' ht' he' hs, RdE.comp ri (fun v d σ H Q ρ μ Q3 a1 a2 a3 a4 a5 _ _ => ⟨d, ρ, μ, Q3, a1, a2, a3, a4, a5⟩) (fun σ H Q ρ μ Q3 a1 a2 a3 a4 => ⟨ρ, μ, Q3, a1, a2, a3, a4⟩) (fun σ H Q ρ μ Q3 a1 a2 a3 a4 => ⟨ρ, μ, Q3, a1, a2, a3, a4⟩)⟩
/-- no name of the body's is used within -/
theorem re_comp (hf : ∀ y ∈ scope.names, y.2 ≠ .free) (hcl : ∀ y ∈ scope.names, y.2 ≠ .cell) (hn : ∀ y ∈ scope.names, y.2 = .local → scope.names.lookup y.1 = some .local) (hi : RI X target iter ti) (hg : ∀ C fp s₀ H₀ pn, RG (compCx X NN scope [] C fp s₀ H₀ pn) target g)
    (ht : ∀ C fp s₀ H₀ pn, RTs (compCx X NN scope [] C fp s₀ H₀ pn) ifs tc) (he : ∀ C fp s₀ H₀ pn, RE (compCx X NN scope [] C fp s₀ H₀ pn) elt te) (hc : X.calm = true := by rfl) (hk : scope.kind = .function := by rfl)
    (hs : ∀ x, foldedSetIterable iter X.env x = pure x := by intro _; rfl) : RE X (.ListComp elt [⟨target, iter, ifs, 0⟩] scope pos) (comp3 (NN.map fun _ => none) ti g tc te) :=
  re_compG hc (CompSc.closed hf hcl hk hn) hi hg ht he hs
end
end Pv

namespace Pv
open PySem PySem.Spec PyProof.Rows L2
/-! ### the module's constants -/
mutual
inductive TupK (K : Fg) : List D → Addr → Prop where
  | mk {a : Addr} {l : List D} {its : Array Value} {n : Nat} {od : Option Addr} {sl : Array (Option Value)} : K.lookup a = some ⟨.type "tuple", od, .seq its n, sl⟩ → its.size ≤ sizeLine → ItK K l its.toList → TupK K l a
inductive ItK (K : Fg) : List D → List Value → Prop where
  | nil : ItK K [] []
  | int {i : Int} {t : Tok} {l : List D} {us : List Value} : ItK K l us → ItK K (.int i :: l) (.int i t :: us)
  | str {x : Str} {t : Tok} {l : List D} {us : List Value} : ItK K l us → ItK K (.str x :: l) (.str x t :: us)
  | bl {b : Bool} {l : List D} {us : List Value} : ItK K l us → ItK K (.bl b :: l) (.bool b :: us)
  | tup {a : Addr} {l' l : List D} {us : List Value} : TupK K l' a → ItK K l us → ItK K (.tup l' :: l) (.ref a :: us)
end
mutual
theorem TupK.rel {K : Fg} : ∀ {l : List D} {a : Addr}, TupK K l a → ∀ H, RelD K H (.tup l) (.ref a)
  | _, _, .mk h1 h2 h3, H => by
    obtain ⟨vs, r, rd⟩ := h3.rel
    exact .tup (.inr ⟨_, _, _, h1, rfl, rfl, h2, r⟩) (rd H)
theorem ItK.rel {K : Fg} : ∀ {l : List D} {us : List Value}, ItK K l us → ∃ vs, Vals vs us ∧ ∀ H, RelDs K H l vs
  | _, _, .nil => ⟨[], .nil, fun _ => .nil⟩
  | _, _, .int h => let ⟨vs, r, rd⟩ := h.rel; ⟨_, .cons (show RelV (.int _) _ from ⟨_, rfl⟩) r, fun H => .cons (.int _) (rd H)⟩
  | _, _, .str h => let ⟨vs, r, rd⟩ := h.rel; ⟨_, .cons (show RelV (.str _) _ from ⟨_, rfl⟩) r, fun H => .cons (.str _) (rd H)⟩
  | _, _, .bl h => let ⟨vs, r, rd⟩ := h.rel; ⟨_, .cons (show RelV (.bl _) _ from rfl) r, fun H => .cons (.bl _) (rd H)⟩
  | _, _, .tup h0 h => let ⟨vs, r, rd⟩ := h.rel; ⟨_, .cons (show RelV (.ref _) _ from rfl) r, fun H => .cons (h0.rel H) (rd H)⟩
end
section
variable {K : Fg} {h : Heap} {mg : Str → Option Value} {x : Str}
theorem gd_int {i : Int} {t : Tok} (X : K.In h) (G : h.Ns mainGlobals mg) (e : PySem.W.nsIn K mainGlobals x = some (some (.int i t))) : Gd K mg x (.int i) := ⟨_, .int i, PySem.W.mg_of X G e, ⟨_, rfl⟩, fun _ => .int i⟩
theorem gd_tup {a : Addr} {l : List D} (X : K.In h) (G : h.Ns mainGlobals mg) (e : PySem.W.nsIn K mainGlobals x = some (some (.ref a))) (r : TupK K l a) : Gd K mg x (.tup l) := ⟨_, .ref a, PySem.W.mg_of X G e, rfl, fun H => r.rel H⟩
end
/-! ### the law's own call -/
theorem ints_rels {K : Fg} {H : Hp} : ∀ ns : List Int, RelDs K H (ns.map D.int) (ns.map V.int)
  | [] => .nil
  | n :: r => .cons (.int n) (ints_rels r)
theorem law_lift {K : Fg} {H : Hp} {a : Addr} {ns : List Int} {sp : Sp3} (hO : Only H) (hS : SqL K H a (ns.map V.int)) (h : sp [.fls (ns.map D.int)] (fun _ => none) (fun d _ => d = .bl true)) :
    lift K sp [.ref a] H (fun v _ => v = .bl true) fun _ _ _ => False := by
  have hF : SqF K H a (ns.map V.int) := by
    rcases hS with (h1 | ⟨o, h1⟩) | h1
    · rcases hO a with z | ⟨o, xs, z⟩
      · rw [h1] at z; cases z
      · rw [h1] at z; cases z
    · exact .inl ⟨o, h1⟩
    · exact .inr h1
  refine ⟨_, _, _, .cons (.fls hF (ints_rels ns)) .nil, (⟨fun p xs e => (by cases e), fun p c fs e => (by cases e)⟩), h, fun d μ' v H' q _ r _ => ?_⟩
  subst q
  cases r
  rfl
end Pv

namespace Pv
open PySem PySem.Spec PyProof.Rows L2
open PySem.AutoSeq1 (wpAny_loadPart')
/-! ### a tuple so often -/
theorem tuple_mulW0 (l : Addr) (items : Array Value) (n : Nat) (dd : Option Addr) (sl : Array (Option Value)) (x : Int) (u : Tok) (hc0 : (decide (x < -(2 ^ 63)) || decide (x ≥ 2 ^ 63)) = false) (hc1 : (items.isEmpty || x == 1) = true) :
    Meets (Builtin.«tuple.__mul__» ⟨[.ref l, .int x u], []⟩) (fun _ R s => s.heap.get? l = some { cls := .type "tuple", dict := dd, data := .seq items n, slots := sl } ∧ R (.ok (.ret (.ref l))) s) :=
  .of_wp fun prog w A R s h => by
    obtain ⟨hp, g, d, tk, os⟩ := s; obtain ⟨hl, h⟩ := h
    have f1 := AutoSeq1.idx_int
    have f2 := AutoSeq1.sub_tuple_tuple
    wp_walk using wpAny_loadPart' hl
    refine wpAny_ite_false (decide_eq_false (by rw [hc0]; exact Bool.false_ne_true)) ?_
    wp_walk using wpAny_loadPart' hl
    exact ⟨_, rfl, h⟩
theorem tuple_mulW1 (l : Addr) (items : Array Value) (n : Nat) (dd : Option Addr) (sl : Array (Option Value)) (x : Int) (u : Tok) (hc0 : (decide (x < -(2 ^ 63)) || decide (x ≥ 2 ^ 63)) = false) (hc1 : (items.isEmpty || x == 1) = false) (hc2 : (decide (x ≤ 0) || items.isEmpty) = true) :
    Meets (Builtin.«tuple.__mul__» ⟨[.ref l, .int x u], []⟩) (fun _ R s => s.heap.get? l = some { cls := .type "tuple", dict := dd, data := .seq items n, slots := sl } ∧ R (.ok (.ret (.ref s.heap.objs.size))) { s with heap := s.heap.push { cls := .type "tuple", data := .seq #[] } }) :=
  .of_wp fun prog w A R s h => by
    obtain ⟨hp, g, d, tk, os⟩ := s; obtain ⟨hl, h⟩ := h
    have f1 := AutoSeq1.idx_int
    have f2 := AutoSeq1.sub_tuple_tuple
    wp_walk using wpAny_loadPart' hl
    refine wpAny_ite_false (decide_eq_false (by rw [hc0]; exact Bool.false_ne_true)) ?_
    wp_walk using wpAny_loadPart' hl
    exact ⟨_, rfl, h⟩
theorem tuple_mulW2 (l : Addr) (items : Array Value) (n : Nat) (dd : Option Addr) (sl : Array (Option Value)) (x : Int) (u : Tok) (hc0 : (decide (x < -(2 ^ 63)) || decide (x ≥ 2 ^ 63)) = false) (hc1 : (items.isEmpty || x == 1) = false) (hc2 : (decide (x ≤ 0) || items.isEmpty) = false)
    (hc3 : ¬ ((items.size : Int) * x > (2 ^ 63 - 1) / 8)) (hc4 : Builtin.Tuple.tupleTooMany ((items.size : Int) * x) = false) (hz : ((List.replicate x.toNat items).foldl (· ++ ·) #[]).size ≤ sizeLine) :
    Meets (Builtin.«tuple.__mul__» ⟨[.ref l, .int x u], []⟩) (fun _ R s => s.heap.get? l = some { cls := .type "tuple", dict := dd, data := .seq items n, slots := sl } ∧ R (.ok (.ret (.ref s.heap.objs.size))) { s with heap := s.heap.push { cls := .type "tuple", data := .seq ((List.replicate x.toNat items).foldl (· ++ ·) #[]) } }) :=
  .of_wp fun prog w A R s h => by
    obtain ⟨hp, g, d, tk, os⟩ := s; obtain ⟨hl, h⟩ := h
    have f1 := AutoSeq1.idx_int
    have f2 := AutoSeq1.sub_tuple_tuple
    wp_walk using wpAny_loadPart' hl
    refine wpAny_ite_false (decide_eq_false (by rw [hc0]; exact Bool.false_ne_true)) ?_
    wp_walk using wpAny_loadPart' hl
    refine wpAny_ite_false (decide_eq_false hc3) ?_
    wp_walk using wpAny_loadPart' hl
    all_goals try (refine wpAny_ite_false (decide_eq_false (by rw [hc4]; exact Bool.false_ne_true)) ?_)
    have hsz : ((List.replicate x.toNat items).foldl (· ++ ·) #[]).size ≤ sizeLine := hz
    wp_walk using wpAny_loadPart' hl
    exact ⟨_, rfl, h⟩

theorem noFill_tupleMul : fillsNumberSlot (.type "tuple") "mul" = pure false :=
  PySem.fillsNumberSlot_seq (id := "tuple.__mul__") (r := some (.builtin "tuple.__rmul__")) F.slot_tuple_mul.lookup (by decide +kernel) F.slot_tuple_rmul.lookup (by decide +kernel)
theorem repeat_tupleMul : seqRepeat? (.type "tuple") = pure (some (.builtin "tuple.__mul__")) := by
  unfold seqRepeat?
  rw [PySem.seqSlot_of F.slot_tuple_mul.lookup (T := "tuple") (name := "__mul__") (id := "tuple.__mul__") (by decide +kernel), PySem.seqSlot_of F.slot_tuple_rmul.lookup (T := "tuple") (name := "__rmul__") (id := "tuple.__rmul__") (by decide +kernel)]
  rfl
theorem int_rmul_tuple (a : Int) (t : Tok) (l : Addr) (its : Array Value) (n : Nat) (dd : Option Addr) (sl : Array (Option Value)) :
    Meets (Builtin.«int.__rmul__» ⟨[.int a t, .ref l], []⟩) (fun _ R s => s.heap.get? l = some ⟨.type "tuple", dd, .seq its n, sl⟩ ∧ R (.ok (.ret .notImplemented)) s) :=
  .of_wp fun prog w A R s h => by
    obtain ⟨hp, g, d, tk, os⟩ := s
    obtain ⟨hl, h⟩ := h
    wp_walk using wpAny_loadPart' hl
    exact ⟨_, rfl, h⟩
section
variable {X : Cx}
noncomputable def rRepT (K : Fg) : R2 := fun x y H Q => ∃ a k xs, x = .ref a ∧ y = .int k ∧ SqT K H a xs ∧ -(2 ^ 62) ≤ k ∧ k < 2 ^ 62 ∧ xs.length * k.toNat ≤ 1000000 ∧ (xs = [] ∨ k = 1 → Q (.ref a) H) ∧ ∀ p, H p = none → Q (.ref p) (upd H p (.tup (List.replicate k.toNat xs).flatten))
theorem op_repT : OpR X (binaryOp .Mult) (rRepT X.K) := by
  intro pins s σ H x y v u Q I rx ry h
  obtain ⟨a, k, xs, rfl, rfl, hq, h1, h2, hz, q1, q2⟩ := h
  cases rx
  obtain ⟨t, rfl⟩ := ry
  obtain ⟨its, r, ⟨⟨cls, dd, data, sl⟩, ho, hc, n, hd⟩, hl⟩ := I.tuple hq
  simp only at hc hd
  subst hc hd
  have hlen : its.length = xs.length := r.length.symm
  have c0 : (decide (k < -(2 ^ 63)) || decide (k ≥ 2 ^ 63)) = false := by
    rw [decide_eq_false (by omega), decide_eq_false (by omega)]; rfl
  refine wpAny_binaryOp_repeat_ref (T := "tuple") (U := "int") (by decide) ⟨_, ho, rfl⟩ (fun s' => typeIs_int s' k t) noFill_tupleMul F.fills_int_mul F.slot_int_rmul repeat_tupleMul F.slot_int_index.lookup
    (call_meets F.slot_int_rmul (typeIs_int s k t) F.entry_int_rmul (F.args_int_rmul_2 _ _) (int_rmul_tuple k t a its.toArray n dd sl) ⟨ho, rfl, ⟨_, ho, rfl⟩, ?_⟩)
  by_cases e1 : xs = [] ∨ k = 1
  · refine call_meets F.slot_tuple_mul ⟨_, ho, rfl⟩ F.entry_tuple_mul (F.args_tuple_mul_2 _ _) (tuple_mulW0 a its.toArray n dd sl k t c0 ?_) ⟨ho, ⟨.ref a, H, I, rfl, q1 e1⟩⟩
    rcases e1 with e1 | e1
    · subst e1; cases r; rfl
    · subst e1; simp
  · have hne : its ≠ [] := fun z => e1 (.inl (by subst z; cases r; rfl))
    have hk1 : k ≠ 1 := fun z => e1 (.inr z)
    have c1 : (its.toArray.isEmpty || k == 1) = false := by simp [hne, hk1]
    have hf : H s.heap.objs.size = none := I.hok.fresh (Nat.le_refl _)
    by_cases e2 : k ≤ 0
    · have hk0 : k.toNat = 0 := by omega
      refine call_meets F.slot_tuple_mul ⟨_, ho, rfl⟩ F.entry_tuple_mul (F.args_tuple_mul_2 _ _) (tuple_mulW1 a its.toArray n dd sl k t c0 c1 (by simp [e2])) ⟨ho, ?_⟩
      refine ⟨.ref _, upd H s.heap.objs.size (.tup []), I.laid (t' := s.toks) (fun b ob q => Heap.get?_push_of_some _ q) (Nat.le_refl _) ⟨by rw [sizeLine_eq]; decide, [], .nil, IsTup.new _ _⟩, rfl, ?_⟩
      have := q2 _ hf
      rw [hk0] at this
      exact this
    · have fr : List.foldl (· ++ ·) #[] (List.replicate k.toNat its.toArray) = (List.replicate k.toNat its).flatten.toArray := by
        have := foldl_rep its k.toNat []
        rw [List.nil_append] at this
        exact this
      have hb : (1000000 : Nat) ≤ sizeLine := by rw [sizeLine_eq]; decide
      have hm : (its.toArray.size : Int) * k ≤ 1000000 := by
        rw [List.size_toArray, hlen]
        have : ((xs.length * k.toNat : Nat) : Int) ≤ 1000000 := by omega
        rw [Int.natCast_mul, Int.toNat_of_nonneg (by omega)] at this
        exact this
      have hsz : (List.replicate k.toNat its).flatten.length ≤ sizeLine := by rw [len_rep, Nat.mul_comm, hlen]; omega
      refine call_meets F.slot_tuple_mul ⟨_, ho, rfl⟩ F.entry_tuple_mul (F.args_tuple_mul_2 _ _) (tuple_mulW2 a its.toArray n dd sl k t c0 c1 (by simp [hne]; omega) (by omega) ?_ (by rw [fr, List.size_toArray]; exact hsz)) ⟨ho, ?_⟩
      · unfold Builtin.Tuple.tupleTooMany
        rw [decide_eq_false (by omega)]
      · rw [fr]
        refine ⟨.ref _, upd H s.heap.objs.size (.tup (List.replicate k.toNat xs).flatten), I.laid (t' := s.toks) (fun b ob q => Heap.get?_push_of_some _ q) (Nat.le_refl _) ⟨?_, _, r.rep k.toNat, IsTup.new _ _⟩, rfl, q2 _ hf⟩
        rw [len_rep, Nat.mul_comm]; omega
theorem q_mul : RO X (binaryOp .Mult) mulR := by
  refine ⟨_, op_mulB.or (op_repT.or op_rep), fun x y v u H Q μ Q3 m rx ry h k => ?_⟩
  cases ry with
  | int j =>
    cases rx with
    | int i => exact .inl ⟨i, j, rfl, rfl, h.1, k _ _ _ _ h.2 (Kp.refl _) (.int _) m⟩
    | tup hq rs =>
      rename_i a l vs
      refine .inr (.inl ⟨a, j, vs, rfl, rfl, hq, h.1.1.1, h.1.1.2, by rw [← rs.length]; exact h.1.2, fun e => ?_, fun p hp => ?_⟩)
      · rcases e with e | e
        · subst e; cases rs
          have h2 := h.2
          have e : (List.replicate j.toNat ([] : List D)).flatten = [] := by simp
          rw [e] at h2
          exact k _ _ _ _ h2 (Kp.refl _) (.tup hq .nil) m
        · subst e
          have h2 := h.2
          have e : (List.replicate (1 : Int).toNat l).flatten = l := by simp
          rw [e] at h2
          exact k _ _ _ _ h2 (Kp.refl _) (.tup hq rs) m
      · exact k _ _ _ _ h.2 (Kp.new hp) (.tup (SqT.of upd_same) ((rs.rep _).mono (Kp.new hp))) (m.newT hp)
    | ref p =>
      dsimp only [mulR] at h
      cases e : μ p with
      | none => rw [e] at h; exact h.elim
      | some oo =>
        cases oo with
        | ins _ _ => rw [e] at h; exact h.elim
        | lst l =>
          rw [e] at h
          obtain ⟨vs, hv, rv⟩ := m p l e
          have hb : (1000000 : Nat) ≤ sizeLine := by rw [sizeLine_eq]; decide
          refine .inr (.inr ⟨p, j, vs, rfl, rfl, hv, by have := h.1.1.1; omega, by have := h.1.1.2; omega, by rw [← rv.length]; exact Nat.le_trans h.1.2 hb, fun t ht => ?_⟩)
          exact k _ _ _ _ (h.2 t (m.free ht)) (Kp.new ht) (.ref t) (m.newL ht (rv.rep _))
    | _ => exact False.elim h
  | _ => cases rx <;> exact False.elim h
/-! ### slices -/
theorem tup_whole {prog : Program} {w : World} {A : Around} {E : Value → Shared → Prop} {s : Shared} {t sl : Addr} {items : Array Value} {vl vu : Value} {lo hi : Option Int} {Q : Value → Shared → Prop} (ht : IsTup s.heap t items) (hs : s.heap.IsSliceOf sl vl vu .none) (pl : IsPart vl lo) (pu : IsPart vu hi)
    (hw : HT.sIx items.size 0 lo = 0 ∧ HT.sIx items.size items.size hi = items.size) (h : Q (.ref t) s) : wpAny (model prog w) A (getItem (.ref t) (.ref sl)) Q E s := by
  obtain ⟨os, hos, hcs, hds⟩ := id hs
  have hTs : s.TypeIs (.ref sl) "slice" := ⟨os, hos, hcs⟩
  unfold getItem
  try with_reducible refine wpAny_holding ?_
  first | refine wpAny_bind (wpAny_pure ?_) | skip
  refine wpAny_bind (wpAny_sequenceKey ht.typeIs (by decide) ?_)
  refine wpAny_bind (wpAny_callSpecial?_slot ht.typeIs (name := Str.ofString "__getitem__") PyProof.Rows.slot_tuple_getitem (wpAny_call_entry PyProof.Rows.slot_tuple_getitem ht.typeIs entry_tuple_getitem ?_ (args_tuple_getitem _ _)))
  show wpAny _ _ (Builtin.Tuple.tupleItemsOf (.ref t) >>= _) _ _ s
  refine wpAny_bind (tupleItemsOf_ ht ?_)
  refine wpAny_bind (wpAny_typeOf hTs ?_)
  rw [if_pos (by decide)]
  refine wpAny_bind (HT.sliceApplied_gen hs pl pu ?_)
  rw [hw.1, hw.2]
  show wpAny _ _ (if ((((0 : Nat) : Int) == 0 && (1 : Int) == 1 && (items.size - 0) == items.size) = true) then _ else _) _ _ s
  rw [if_pos (by simp)]
  refine wpAny_bind (m := Builtin.Tuple.tupleIsExact _) (wpAny_bind (wpAny_typeOf ht.typeIs (wpAny_pure ?_)))
  rw [if_pos (by decide)]
  refine wpAny_bind (wpAny_rule ?_)
  first
    | exact wpAny_pure ⟨_, rfl, wpAny_pure h⟩
    | exact wpAny_bind (wpAny_pure (wpAny_pure ⟨_, rfl, wpAny_pure h⟩))
    | exact wpAny_bind (wpAny_bind (wpAny_pure (wpAny_pure (wpAny_pure ⟨_, rfl, wpAny_pure h⟩))))
noncomputable def rSlA (K : Fg) : V → Option Int → Option Int → Hp → VK → Prop := fun x lo hi H Q => ∃ a xs, x = .ref a ∧ SqT K H a xs ∧ (cutV xs lo hi = xs → Q (.ref a) H) ∧ ∀ p, H p = none → Q (.ref p) (upd H p (.tup (cutV xs lo hi)))
theorem sl_tupA : SlR X (rSlA X.K) := by
  intro pins s σ H x v vl vu lo hi sl Q I rx hs pl pu h
  obtain ⟨a, xs, rfl, hx, q1, q2⟩ := h
  by_cases hw : HT.sIx xs.length 0 lo = 0 ∧ HT.sIx xs.length xs.length hi = xs.length
  · cases rx
    obtain ⟨its, r, ht, hz⟩ := I.tuple hx
    have hlen : its.toArray.size = xs.length := by rw [List.size_toArray]; exact r.length.symm
    have e : cutV xs lo hi = xs := by unfold cutV; rw [hw.1, hw.2]; simp
    exact ⟨"tuple", _, PyProof.Rows.slot_tuple_getitem.lookup, ht.typeIs, tup_whole ht hs pl pu (by rw [hlen]; exact hw) ⟨.ref a, H, I, rfl, q1 e⟩⟩
  · exact sl_tup pins s σ H _ v vl vu lo hi sl Q I rx hs pl pu ⟨a, xs, rfl, hx, hw, q2⟩
theorem sIx3_eq : ∀ (n d : Nat) (o : Option Int), HT.sIx n d o = sIx3 n d o
  | _, _, none => rfl
  | _, _, some _ => rfl
theorem RelDs.cut {K : Fg} {H : Hp} {l : List D} {vs : List V} (r : RelDs K H l vs) (lo hi : Option Int) : RelDs K H (cut3 l lo hi) (cutV vs lo hi) := by
  unfold cut3 cutV
  rw [← r.length]
  simp only [sIx3_eq]
  exact (r.drop _).take _
noncomputable def RdP (K : Fg) (tv : TO) (t : TO3) : Prop := ∀ σ H Q ρ μ Q3, RSt K H ρ σ → RelM K μ H → t ρ μ Q3 → (∀ o μ' H', Q3 o μ' → Kp H H' → RelM K μ' H' → Q o H') → tv σ H Q
noncomputable def RP (X : Cx) (e : Option Expr) (t : TO3) : Prop := ∃ tv, PO X e tv ∧ RdP X.K tv t
theorem ro_none : RP X none np3 := ⟨_, po_none, fun σ H Q ρ μ Q3 s m h k => k _ _ _ h (Kp.refl _) m⟩
theorem ro_some {e : Expr} {te : TE3} (h : RE X e te) : RP X (some e) (pt3 te) := by
  obtain ⟨tv, p, r⟩ := h
  refine ⟨_, po_some p, fun σ H Q ρ μ Q3 s m h k => r σ H _ ρ μ _ s m h fun d μ1 v H1 h1 k1 r1 m1 => ?_⟩
  cases r1 with
  | int i => exact ⟨i, rfl, k _ _ _ h1 k1 m1⟩
  | _ => exact False.elim h1
noncomputable def RL (X : Cx) (r3 : D → Option Int → Option Int → Mu → VK3 → Prop) : Prop := ∃ r, SlR X r ∧ ∀ x v lo hi H Q μ Q3, RelM X.K μ H → RelD X.K H x v → r3 x lo hi μ Q3 → Ks X.K H Q3 Q → r v lo hi H Q
noncomputable def rSlS : V → Option Int → Option Int → Hp → VK → Prop := fun x lo hi H Q => ∃ z : Str, x = .str z ∧ z.length ≤ sizeLine ∧ Q (.str ⟨(cut3 z.cps.toList lo hi).toArray⟩) H
theorem strIx (lo hi : Option Int) (n : Nat) : Builtin.Str.strSliceIndices lo hi 1 n = sliceRange ((sIx3 n 0 lo : Nat) : Int) ((sIx3 n n hi : Nat) : Int) 1 := by
  unfold Builtin.Str.strSliceIndices
  have a1 : ∀ (d : Nat) (v : Option Int), (match v with | none => ((d : Nat) : Int) | some i => (if (1 : Int) > 0 then max 0 (min (if i < 0 then i + (n : Int) else i) (n : Int)) else max (-1) (min (if i < 0 then i + (n : Int) else i) ((n : Int) - 1)))) = ((sIx3 n d v : Nat) : Int) := fun d v => by
    cases v with
    | none => rfl
    | some i =>
      simp only [sIx3, show (1 : Int) > 0 by decide, if_true]
      by_cases h : i < 0
      · simp only [h, if_true]; omega
      · simp only [h, if_false]; omega
  have e1 := a1 0 lo
  have e2 := a1 n hi
  simp only [show (1 : Int) > 0 by decide, if_true] at e1 e2 ⊢
  rw [← e1, ← e2]
  cases lo <;> cases hi <;> rfl
theorem six_le (n : Nat) (o : Option Int) : sIx3 n n o ≤ n := by
  cases o with
  | none => exact Nat.le_refl _
  | some v =>
    show (if v < 0 then (v + (n : Int)).toNat else min v.toNat n) ≤ n
    split <;> omega
theorem sl_str : SlR X rSlS := by
  intro pins s σ H x v vl vu lo hi sl Q I rx hs pl pu h
  obtain ⟨z, rfl, hz, q⟩ := h
  obtain ⟨t, rfl⟩ := rx
  refine ⟨"str", _, F.slot_str_getitem.lookup, typeIs_str _ _ _, ?_⟩
  have hl : ∃ l : Option (Int × Tok), partValue l = vl ∧ l.map (·.1) = lo := by
    cases pl with
    | none => exact ⟨none, rfl, rfl⟩
    | int i t => exact ⟨some (i, t), rfl, rfl⟩
  have hu : ∃ u : Option (Int × Tok), partValue u = vu ∧ u.map (·.1) = hi := by
    cases pu with
    | none => exact ⟨none, rfl, rfl⟩
    | int i t => exact ⟨some (i, t), rfl, rfl⟩
  obtain ⟨l, rfl, rfl⟩ := hl
  obtain ⟨u, rfl, rfl⟩ := hu
  refine wpAny_getItem_str_slice (l := l) (u := u) (st := none) hs rfl ?_
  have e : (slicePicked z l u none).filterMap (z.cps[·]?) = cut3 z.cps.toList (l.map (·.1)) (u.map (·.1)) := by
    unfold slicePicked
    show (Builtin.Str.strSliceIndices _ _ 1 z.length).filterMap (z.cps[·]?) = _
    rw [strIx, sliceRange_one, pick_run]
    unfold cut3
    rw [Array.length_toList]
    rfl
  unfold sliceMade
  split
  · next hw =>
    have hlen : (slicePicked z l u none).length = z.length := by
      rw [Bool.and_eq_true] at hw
      simpa using hw.2
    have ez : cut3 z.cps.toList (l.map (·.1)) (u.map (·.1)) = z.cps.toList := by
      have h1 : (Builtin.Str.strSliceIndices (l.map (·.1)) (u.map (·.1)) 1 z.length).length = z.length := hlen
      rw [strIx, sliceRange_one, List.length_map, List.length_range] at h1
      have h2 := six_le z.length (u.map (·.1))
      have hs : z.length = z.cps.size := rfl
      unfold cut3
      rw [Array.length_toList, ← hs]
      rcases Nat.eq_zero_or_pos z.length with h0 | h0
      · have : z.cps.toList = [] := List.eq_nil_of_length_eq_zero (by rw [Array.length_toList, ← hs]; exact h0)
        rw [this]; simp
      · have ha : sIx3 z.length 0 (l.map (·.1)) = 0 := by omega
        rw [ha, List.drop_zero]
        exact List.take_of_length_le (by rw [Array.length_toList, ← hs]; omega)
    rw [ez] at q
    exact ⟨.str z, H, I, ⟨t, rfl⟩, q⟩
  · rw [e]
    refine ⟨?_, .str _, H, I.tok _, ⟨_, rfl⟩, q⟩
    refine Nat.le_trans ?_ hz
    show (cut3 z.cps.toList (l.map (·.1)) (u.map (·.1))).toArray.size ≤ z.cps.size
    rw [List.size_toArray]
    unfold cut3
    rw [List.length_take, List.length_drop, Array.length_toList]
    omega
theorem q_sl : RL X slR := by
  refine ⟨_, (sl_tupA.or sl_list).or sl_str, fun x v lo hi H Q μ Q3 m rx h k => ?_⟩
  cases rx with
  | str z => exact .inr ⟨z, rfl, h.1, k _ _ _ _ h.2 (Kp.refl _) (.str _) m⟩
  | tup hq rs =>
    refine .inl <| .inl ⟨_, _, rfl, hq, fun e => ?_, fun p hp => k _ _ _ _ h (Kp.new hp) (.tup (SqT.of upd_same) ((rs.cut lo hi).mono (Kp.new hp))) (m.newT hp)⟩
    refine k _ _ _ _ h (Kp.refl _) (.tup hq ?_) m
    have := rs.cut lo hi
    rw [e] at this
    exact this
  | fls hq rs => exact .inl <| .inr ⟨_, _, rfl, hq.l, fun p hp => k _ _ _ _ (h p (m.free hp)) (Kp.new hp) (.ref p) (m.newL hp (rs.cut lo hi))⟩
  | ref p =>
    dsimp only [slR] at h
    cases e : μ p with
    | none => rw [e] at h; exact h.elim
    | some oo =>
      cases oo with
      | ins _ _ => rw [e] at h; exact h.elim
      | lst l =>
        rw [e] at h
        obtain ⟨vs, hv, rs⟩ := m p l e
        exact .inl <| .inr ⟨p, vs, rfl, SqL.of hv, fun t ht => k _ _ _ _ (h t (m.free ht)) (Kp.new ht) (.ref t) (m.newL ht (rs.cut lo hi))⟩
  | _ => exact False.elim h
theorem re_slice {e : Expr} {te : TE3} {lo hi : Option Expr} {tl th : TO3} {pos p2 : Pos} {r3 : D → Option Int → Option Int → Mu → VK3 → Prop} (hr : RL X r3) (he : RE X e te) (hl : RP X lo tl) (hu : RP X hi th) : RE X (.Subscript e (.Slice lo hi none p2) pos) (sl3 r3 te tl th) := by
  obtain ⟨r, pr, rr⟩ := hr
  obtain ⟨va, pa, ra⟩ := he
  obtain ⟨vb, pb, rb⟩ := hl
  obtain ⟨vc, pc, rc⟩ := hu
  exact ⟨_, pe_slice pr pa pb pc, fun σ H Q ρ μ Q3 s m h k => ra σ H _ ρ μ _ s m h fun x μ1 v H1 h1 k1 r1 m1 => rb σ H1 _ ρ μ1 _ (s.mono k1) m1 h1 fun l μ2 H2 h2 k2 m2 => rc σ H2 _ ρ μ2 _ ((s.mono k1).mono k2) m2 h2 fun u μ3 H3 h3 k3 m3 =>
    rr x v l u H3 Q μ3 Q3 m3 (r1.mono (k2.trans k3)) h3 (k.after (k1.trans (k2.trans k3)))⟩
/-! ### all, any of a list of truths -/
theorem bls_rel {K : Fg} {H : Hp} : ∀ {l : List D} {vs : List V} {bs : List Bool}, RelDs K H l vs → bls? l = some bs → vs = bs.map V.bl
  | _, _, bs, .nil, e => by simp [bls?] at e; subst e; rfl
  | _, _, bs, .cons h r, e => by
    cases h with
    | bl x =>
      simp only [bls?] at e
      split at e
      · next ys e1 =>
        simp only [Option.some.injEq] at e
        subst e
        rw [bls_rel r e1]; rfl
      · cases e
    | _ => simp [bls?] at e
theorem RdC.bools {K : Fg} {f : List Bool → Bool} {r3 : C3} (hr : ∀ ds μ Q3, r3 ds μ Q3 → ∃ p l bs, ds = [.ref p] ∧ μ p = some (.lst l) ∧ bls? l = some bs ∧ Q3 (.bl (f bs)) μ) :
    RdC K (fun xs H Q => ∃ (p : Addr) (bs : List Bool), xs = [.ref p] ∧ SqL K H p (bs.map V.bl) ∧ Q (.bl (f bs)) H) r3 := fun xs vs H Q μ Q3 m r h k => by
  obtain ⟨p, l, bs, rfl, e, e1, q⟩ := hr _ _ _ h
  cases r with
  | cons r1 r2 =>
    cases r2
    cases r1
    obtain ⟨us, hv, rs⟩ := m p l e
    have ev := bls_rel rs e1
    subst ev
    exact ⟨p, bs, rfl, SqL.of hv, k _ _ _ _ q (Kp.refl _) (.bl _) m⟩
end
end Pv

namespace Pv
open PySem PySem.Spec PyProof.Rows L2
section
variable {prog : Program} {w : World} {A : Around} {E : Value → Shared → Prop} {s : Shared} {R : Result → Shared → Prop} {I l : Addr} {items : Array Value}
end
section
variable {X : Cx} {e : Expr} {te : TE3} {p p2 pos pos2 : Pos}
/-! ### methods of texts -/
theorem q_str : RC X (.type "str") strR := by
  refine ⟨_, call_str_int, fun xs vs H Q μ Q3 m r h k => ?_⟩
  cases r with
  | nil => exact False.elim h
  | cons r1 r2 =>
    cases r2 with
    | cons _ _ => cases r1 <;> exact False.elim h
    | nil =>
      cases r1 with
      | int i => exact ⟨i, rfl, h.1, k _ _ _ _ h.2 (Kp.refl _) (.str _) m⟩
      | _ => exact False.elim h
variable {o : Expr} {es : List Expr} {to : TE3} {t : TA3} {apos cpos : Pos}
theorem re_smt {name : Str} {id : String} {r : V → List V → Hp → VK → Prop} {r3 : Str → List D → Mu → VK3 → Prop} (slot : Slot "str" name id) (hty : typeOf (.builtin id) = pure (.type "method_descriptor")) (hm : MtR X id r)
    (hrd : ∀ z xs vs H Q μ Q3, RelM X.K μ H → RelDs X.K H xs vs → r3 z xs μ Q3 → Ks X.K H Q3 Q → r (.str z) vs H Q) (ho : RE X o to) (ha : RA X (e :: es) t)
    (hbase : attributeBase o name X.env (eval o X.env) = eval o X.env)
    (hfew : ((backTo cpos (starEach (e :: es) X.env)).all (fun x => !x.1) && (backToKw cpos (keywordEach [] X.env)).all (fun x => x.1.isSome)
      && decide ((e :: es).length + ([] : List Keyword).length + (if ([] : List Keyword).isEmpty then 0 else 1) < 30)) = true)
    (hline : (apos.endLine == cpos.line) = true) (hs : starEach (e :: es) X.env = (false, eval e X.env) :: starEach es X.env) (hplain : (backTo cpos (starEach es X.env)).any (·.1) = false) :
    RE X (.Call (.Attribute o name apos) (e :: es) [] cpos) (smt3 r3 to t) := by
  obtain ⟨va, pa, ra⟩ := ho
  obtain ⟨vb, pb, rb⟩ := ha
  refine ⟨_, pe_bm PySem.F.plainAttrs_str slot hty hm pa pb hbase hfew hline hs hplain, fun σ H Q ρ μ Q3 s m h k => ra σ H _ ρ μ _ s m h fun d μ1 v H1 h1 k1 r1 m1 => ?_⟩
  cases r1 with
  | str z => exact ⟨rfl, rb σ H1 _ ρ μ1 _ (s.mono k1) m1 h1 fun xs μ2 ys H2 h2 k2 r2 m2 => hrd z xs ys H2 Q μ2 Q3 m2 r2 h2 (k.after (k1.trans k2))⟩
  | _ => exact False.elim h1
theorem strsAre_of : ∀ {ys : List Str} {us : List Value}, Vals (ys.map V.str) us → StrsAre us ys
  | [], us, r => by cases r; exact .nil
  | y :: ys, us, r => by
    cases r with
    | cons r1 r2 =>
      obtain ⟨t, rfl⟩ := r1
      exact .cons y t (strsAre_of r2)
theorem mt_join : MtR X "str.join" (fun x xs H Q => ∃ z p ys, x = .str z ∧ xs = [.ref p] ∧ SqL X.K H p (ys.map V.str) ∧ (z.length ≤ 16 ∧ (ys.map (·.length)).sum + ys.length ≤ 1048576) ∧ Q (.str (Str.join z ys)) H) := by
  intro pins s σ H x xs v us Q I rx rv h
  obtain ⟨z, p, ys, rfl, rfl, hq, hz, q⟩ := h
  obtain ⟨t, rfl⟩ := rx
  obtain ⟨u, rfl, ru⟩ := rv.one
  cases ru
  obtain ⟨its, r, pl, hsz⟩ := I.list hq
  refine join_listW pl.isList (strsAre_of r) hz.1 hz.2 fun t' k => ?_
  refine ⟨.str (Str.join z ys), H, I.tok _, ⟨t', ?_⟩, q⟩
  show Value.str (Builtin.Str.glued z ys) t' = _
  rw [StrLaws.glued_eq_join]
theorem re_join (ho : RE X o to) (ha : RA X (e :: es) t) (hbase : attributeBase o "join" X.env (eval o X.env) = eval o X.env := by rfl)
    (hfew : ((backTo cpos (starEach (e :: es) X.env)).all (fun x => !x.1) && (backToKw cpos (keywordEach [] X.env)).all (fun x => x.1.isSome)
      && decide ((e :: es).length + ([] : List Keyword).length + (if ([] : List Keyword).isEmpty then 0 else 1) < 30)) = true := by rfl)
    (hline : (apos.endLine == cpos.line) = true := by rfl) (hs : starEach (e :: es) X.env = (false, eval e X.env) :: starEach es X.env := by rfl) (hplain : (backTo cpos (starEach es X.env)).any (·.1) = false := by rfl) :
    RE X (.Call (.Attribute o "join" apos) (e :: es) [] cpos) (smt3 joinR to t) := by
  refine re_smt PySem.F.slot_str_join PySem.F.type_str_join mt_join (fun z xs vs H Q μ Q3 m rx h k => ?_) ho ha hbase hfew hline hs hplain
  cases rx with
  | nil => exact False.elim h
  | cons r1 r2 =>
    cases r2 with
    | cons _ _ => cases r1 <;> exact False.elim h
    | nil =>
      cases r1 with
      | ref p =>
        dsimp only [joinR] at h
        cases e0 : μ p with
        | none => rw [e0] at h; exact h.elim
        | some oo =>
          cases oo with
          | ins _ _ => rw [e0] at h; exact h.elim
          | lst l =>
            rw [e0] at h
            dsimp only at h
            cases e1 : strs? l with
            | none => rw [e1] at h; exact h.elim
            | some ys =>
              rw [e1] at h
              obtain ⟨ws, hv, rs⟩ := m p l e0
              have ev := strs_rel rs e1
              subst ev
              exact ⟨z, p, ys, rfl, rfl, SqL.of hv, h.1, k _ _ _ _ h.2 (Kp.refl _) (.str _) m⟩
      | _ => exact False.elim h
end
end Pv

namespace Pv
open PySem PySem.Spec PyProof.Rows L2
/-! ### a comprehension that uses names of the body -/
noncomputable def closL (cells : List (Str × Addr)) : List (Str × NameKind) → List (Str × Addr) → List (Str × Addr)
  | [], acc => acc
  | (n, k) :: r, acc => if k == .free then closL cells r ((n, (cells.lookup n).getD 0) :: acc) else closL cells r acc
theorem closureFor_eq {scope : Scope} {env : Env} (h : ∀ y ∈ scope.names, y.2 = .free → (env.cells.lookup y.1).isSome = true) : closureFor scope env = pure (closL env.cells scope.names []) := by
  unfold closureFor
  have key : ∀ (l : List (Str × NameKind)) (acc : List (Str × Addr)), (∀ y ∈ l, y.2 = .free → (env.cells.lookup y.1).isSome = true) →
      (forIn l acc (fun x r => if (x.2 == NameKind.free) = true then do let c ← cellOf env x.1; pure (ForInStep.yield ((x.1, c) :: r)) else pure (ForInStep.yield r)) : Sem (List (Str × Addr))) = pure (closL env.cells l acc) := by
    intro l
    induction l with
    | nil => intro acc _; rfl
    | cons y r ih =>
      intro acc hl
      obtain ⟨n, k⟩ := y
      rw [List.forIn_cons]
      have ih' := fun a => ih a fun z hz => hl z (List.mem_cons_of_mem _ hz)
      by_cases hk : k = .free
      · subst hk
        have hs := hl (n, .free) (List.mem_cons_self ..) rfl
        obtain ⟨c, hc⟩ := Option.isSome_iff_exists.mp hs
        have ec : cellOf env n = pure c := by unfold cellOf; rw [hc]
        simp only [closL, ec, pure_bind, beq_self_eq_true, if_true, hc, Option.getD_some]
        exact ih' _
      · have hk' : (k == NameKind.free) = false := by simpa using hk
        simp only [closL, hk', Bool.false_eq_true, if_false, pure_bind]
        exact ih' _
  have := key scope.names [] h
  refine Eq.trans ?_ this
  refine Eq.trans (bind_pure (forIn scope.names ([] : List (Str × Addr)) _ : Sem (List (Str × Addr)))) ?_
  congr 1
theorem closL_sub {cells : List (Str × Addr)} {x : Str} {c : Addr} : ∀ (l : List (Str × NameKind)) (acc : List (Str × Addr)), (∀ y ∈ l, y.2 = .free → (cells.lookup y.1).isSome = true) → (acc.lookup x = some c → cells.lookup x = some c) →
    (closL cells l acc).lookup x = some c → cells.lookup x = some c
  | [], acc, _, ha, h => ha h
  | (n, k) :: r, acc, hl, ha, h => by
    unfold closL at h
    split at h
    · next hk =>
      refine closL_sub r _ (fun z hz => hl z (List.mem_cons_of_mem _ hz)) (fun h2 => ?_) h
      rw [List.lookup_cons] at h2
      split at h2
      · next e =>
        have e' : x = n := eq_of_beq e
        subst e'
        obtain ⟨c', hc⟩ := Option.isSome_iff_exists.mp (hl (x, k) (List.mem_cons_self ..) (eq_of_beq hk))
        rw [hc] at h2
        simp only [Option.getD_some, Option.some.injEq] at h2
        rw [hc, h2]
      · exact ha h2
    · exact closL_sub r acc (fun z hz => hl z (List.mem_cons_of_mem _ hz)) ha h
theorem closL_has {cells : List (Str × Addr)} {x : Str} : ∀ (l : List (Str × NameKind)) (acc : List (Str × Addr)), ((∃ c, acc.lookup x = some c) ∨ (x, NameKind.free) ∈ l) → ∃ c, (closL cells l acc).lookup x = some c
  | [], acc, h => by
    rcases h with h | h
    · exact h
    · cases h
  | (n, k) :: r, acc, h => by
    unfold closL
    split
    · next hk =>
      refine closL_has r _ ?_
      by_cases e : x = n
      · subst e
        left
        exact ⟨(cells.lookup x).getD 0, by rw [List.lookup_cons]; simp⟩
      · rcases h with ⟨c, h⟩ | h
        · left
          refine ⟨c, ?_⟩
          rw [List.lookup_cons]
          have : (x == n) = false := by simpa using e
          rw [this]; exact h
        · right
          rcases List.mem_cons.mp h with h | h
          · exact absurd (congrArg Prod.fst h) e
          · exact h
    · next hk =>
      refine closL_has r acc ?_
      rcases h with h | h
      · exact .inl h
      · rcases List.mem_cons.mp h with h | h
        · cases h; exact absurd rfl hk
        · exact .inr h
/-- free names are cells of the body: js tells where they lie among the body's names -/
theorem CompSc.free {X : Cx} {NN : List Str} {scope : Scope} {js : List (Option Nat)} (hcell : ∀ y ∈ scope.names, y.2 ≠ .cell) (hk : scope.kind = .function) (hfn : X.env.scope.kind = .function)
    (hn : ∀ y ∈ scope.names, y.2 = .local → scope.names.lookup y.1 = some .local) (hfree : ∀ y ∈ scope.names, y.2 = .free → X.env.scope.names.lookup y.1 = some .cell) (hlook : ∀ y ∈ scope.names, y.2 = .free → scope.names.lookup y.1 = some .free)
    (hcl : ∀ x, X.env.scope.names.lookup x = some .cell → (X.env.cells.lookup x).isSome = true) (len : js.length = NN.length)
    (hout : ∀ i ∈ List.range js.length, ∀ j, js.getD i none = some j → ∃ x, NN[i]? = some x ∧ X.N[j]? = some x ∧ scope.names.lookup x = some .free) :
    CompSc X NN scope (closL X.env.cells scope.names []) js where
  clos := closureFor_eq fun y hy e => hcl _ (hfree y hy e)
  cell := hcell
  kind := hk
  names := hn
  sub := fun x c h => closL_sub scope.names [] (fun y hy e => hcl _ (hfree y hy e)) (fun h => by simp at h) h
  has := fun x h => by
    refine closL_has scope.names [] (.inr ?_)
    have hm : ∃ k, (x, k) ∈ scope.names ∧ (k = .free ∨ k = .cell) := by
      have key : ∀ kk, (relabel scope X.env).names.lookup x = some kk → (kk = .cell ∨ kk = .free) → ∃ k, (x, k) ∈ scope.names ∧ (k = .free ∨ k = .cell) := fun kk hkk hc => by
        have hmem := lookup_mem hkk
        obtain ⟨⟨n, k⟩, hy, e⟩ := List.mem_map.mp hmem
        dsimp only at e
        split at e
        · next hq =>
          cases e
          simp only [Bool.and_eq_true] at hq
          exact ⟨k, hy, .inl (by simpa using hq.1.1)⟩
        · cases e
          exact ⟨kk, hy, hc.symm⟩
      rcases h with h | h
      · exact key _ h (.inl rfl)
      · exact key _ h (.inr rfl)
    obtain ⟨k, hk1, hk2⟩ := hm
    rcases hk2 with rfl | rfl
    · exact hk1
    · exact absurd rfl (hcell _ hk1)
  len := len
  out := fun i j h => by
    have hi : i < js.length := by
      rcases Nat.lt_or_ge i js.length with z | z
      · exact z
      · rw [List.getElem?_eq_none z] at h; cases h
    obtain ⟨x, e1, e2, e3⟩ := hout i (List.mem_range.mpr hi) j (by rw [List.getD_eq_getElem?_getD, h]; rfl)
    have hf := hfree (x, .free) (lookup_mem e3) rfl
    refine ⟨x, e1, e2, .inr (.inl hf), by rw [hf]; simp, ?_⟩
    left
    have key : ∀ (l : List (Str × NameKind)), l.lookup x = some .free → (l.map fun (n, k) => if (k == NameKind.free && X.env.scope.kind == .function && X.env.kindOf n == some .cell) then (n, NameKind.cell) else (n, k)).lookup x = some .cell := fun l => by
      induction l with
      | nil => intro h; simp at h
      | cons y r ih =>
        obtain ⟨n, k⟩ := y
        intro h
        rw [List.lookup_cons] at h
        rw [List.map_cons, List.lookup_cons]
        by_cases e : x = n
        · subst e
          simp only [beq_self_eq_true, Option.some.injEq] at h
          subst h
          have hkind : (X.env.kindOf x == some NameKind.cell) = true := by
            show (X.env.scope.names.lookup x == some NameKind.cell) = true
            rw [hf]; rfl
          simp [hfn, hkind]
        · have e' : (x == n) = false := by simpa using e
          rw [e'] at h
          have ih' := ih h
          by_cases hq : (k == NameKind.free && X.env.scope.kind == ScopeKind.function && X.env.kindOf n == some NameKind.cell) = true
          · simp only [hq, if_true, e']; exact ih'
          · simp only [hq, Bool.false_eq_true, if_false, e']; exact ih'
    exact key _ e3
/-- for a comprehension in the body of a def -/
theorem comp_sc {CX : CXT} {P : Program} {w : World} {K : Fg} {mg : Str → Option Value} {base : Heap} {N : List Str} {qual : Str} {sc : Scope} {f : Addr} {cdv : Value} {A : Around} {outer : List Env} {s : Shared} {H : Hp} {E : XK} {NN : List Str} {scope : Scope} {js : List (Option Nat)}
    (hcell : ∀ y ∈ scope.names, y.2 ≠ .cell := by decide +kernel) (hk : scope.kind = .function := by rfl) (hfn : sc.kind = .function := by rfl)
    (hn : ∀ y ∈ scope.names, y.2 = .local → scope.names.lookup y.1 = some .local := by decide +kernel) (hfree : ∀ y ∈ scope.names, y.2 = .free → sc.names.lookup y.1 = some .cell := by decide +kernel)
    (hlook : ∀ y ∈ scope.names, y.2 = .free → scope.names.lookup y.1 = some .free := by decide +kernel) (len : js.length = NN.length := by rfl)
    (hout : ∀ i ∈ List.range js.length, ∀ j ∈ (js.getD i none).toList, ∃ x ∈ NN[i]?.toList, N[j]? = some x ∧ scope.names.lookup x = some .free := by decide +kernel) :
    CompSc (cxOf CX P w K mg base N qual sc f cdv A outer s H E).nox NN scope (closL (cxOf CX P w K mg base N qual sc f cdv A outer s H E).nox.env.cells scope.names []) js :=
  CompSc.free (X := (cxOf CX P w K mg base N qual sc f cdv A outer s H E).nox) hcell hk hfn hn hfree hlook (fun x h => by
    obtain ⟨c, hc⟩ := cell_has (n := _) h
    exact Option.isSome_iff_exists.mpr ⟨c, hc⟩) len fun i hi j hj => by
      obtain ⟨x, h1, h2, h3⟩ := hout i hi j (by rw [hj]; simp)
      exact ⟨x, by simpa using h1, h2, h3⟩
end Pv

namespace Pv
open PySem
end Pv

namespace Pv
open PySem
/-! ### exceptions -/
noncomputable abbrev XE3 := Str → Mu → Prop
noncomputable def raise3 (XE : XE3) (x : Str) (t : TA3) : TS3 := fun _ ρ μ => t ρ μ fun ds μ1 => ds.length ≤ sizeLine ∧ XE x μ1
/-- isinstance(e, C), e a caught exception -/
noncomputable def isx3 (t : TE3) (sub : Str → Option Bool) : TE3 := fun ρ μ Q => t ρ μ fun d μ1 => match d with
  | .exc c => match sub c with
    | some b => Q (.bl b) μ1
    | _ => False
  | _ => False
/-- try: y = f(..) (or f(..)) except C as n: suite -/
noncomputable def try3 (i : Nat) (spx : XE3 → Sp3) (st : D → St3 → St3) (ok : Str → Bool) (ta : TA3) (ts : TS3) : TS3 := fun D' ρ μ => ta ρ μ fun ds μ1 =>
  spx (fun c μ2 => ok c = true ∧ ts { nx := fun ρ' μ' => D'.nx (ρ'.set i none) μ', rt := fun _ _ => False } (ρ.set i (some (.exc c))) μ2) ds μ1 (fun d μ2 => D'.nx (st d ρ) μ2)
/-- no exception -/
noncomputable def NX : XE3 := fun _ _ => False
noncomputable def keepSt : D → St3 → St3 := fun _ ρ => ρ
end Pv

namespace Pv
open PySem PySem.Spec PyProof.Rows L2
/-- how an exception lies behind a call -/
noncomputable def CXn (P : Program) (w : World) : CXT := fun outer H s E e s' => ∃ (ea : Addr) (cls a0 : Value) (H' : Hp) (B : Heap), e = .ref ea ∧ s'.os = s.os ∧ AllBare s'.gens ∧ Un (frs outer) [] H H' s.heap s'.heap ∧ HOk P w H' s'.heap ∧
  Heap.FlyingW B outer ea cls a0 s'.heap ∧ H' ea = none ∧ (∀ b o, s'.heap.get? b = some o → b ∉ frs outer → (∃ o', s.heap.get? b = some o') → B.get? b = some o) ∧ (∀ b, H' b ≠ none → ∃ o, s'.heap.get? b = some o ∧ B.get? b = some o) ∧ E cls none H'
theorem passes_n {P : Program} {w : World} {K : Fg} {mg : Str → Option Value} {base : Heap} {N : List Str} {qual : Str} {scope : Scope} {f : Addr} {cd : Value} {A : Around} {outer : List Env} {s0 : Shared} {H0 : Hp} {E : XK} :
    Passes (CXn P w) (cxOf (CXn P w) P w K mg base N qual scope f cd A outer s0 H0 E) E := by
  intro pins σ H s e s' I h
  obtain ⟨ea, cls, a0, H', B, rfl, os, bare, u2, hok, fl, hea, cov1, cov2, hE⟩ := h
  have u1 : Un (frs outer) [] H0 H s0.heap s.heap := I.base
  have habove : s0.heap.objs.size ≤ (envOfC qual scope s0.heap.objs.size f cd).locals := I.ok.above
  have hloc : ∀ {b : Addr} {o : Obj}, s0.heap.get? b = some o → b ≠ (envOfC qual scope s0.heap.objs.size f cd).locals := fun {b o} q z => by
    have := Heap.lt_size q
    rw [z] at this
    exact absurd this (Nat.not_lt.mpr habove)
  have hfs : frs ((envOfC qual scope s0.heap.objs.size f cd) :: outer) = (envOfC qual scope s0.heap.objs.size f cd).locals :: frs outer := rfl
  have hfn : ∀ {b : Addr} {o : Obj}, s0.heap.get? b = some o → b ∉ frs outer → b ∉ frs ((envOfC qual scope s0.heap.objs.size f cd) :: outer) := fun {b o} q z hm => by
    rw [hfs] at hm
    rcases List.mem_cons.mp hm with hm | hm
    · exact hloc q hm
    · exact z hm
  show wpAny (model P w) (A.deeper (envOfC qual scope s0.heap.objs.size f cd)) (leaving (envOfC qual scope s0.heap.objs.size f cd) (.ref ea)) _ _ s'
  refine wpAny_leaves_onW I.ok.frames rfl fl fun h' fl' up => ?_
  -- an object of s0 that is no frame
  have far : ∀ b o, s0.heap.get? b = some o → b ∉ frs outer → ∃ o', s'.heap.get? b = some o' ∧ B.get? b = some o' ∧ h'.get? b = some o' := fun b o q hb => by
    obtain ⟨o1, e1⟩ := u1.there b o q (by simp)
    obtain ⟨o2, e2⟩ := u2.there b o1 e1 (by simp)
    have e3 := cov1 b o2 e2 (hfn q hb) ⟨o1, e1⟩
    exact ⟨o2, e2, e3, fl'.1 b o2 e3⟩
  have frm : ∀ b o, s'.heap.get? b = some o → b ∈ frs outer → ∃ sl, h'.get? b = some { o with slots := sl } := fun b o q hb => by
    have hm : b ∈ ((envOfC qual scope s0.heap.objs.size f cd) :: outer).filterMap (·.frame) := by
      show b ∈ frs _
      rw [hfs]; exact List.mem_cons_of_mem _ hb
    obtain ⟨_, o', ho, hnf⟩ := fl.2.2.1.mem hm
    rw [q] at ho; cases ho
    exact up b o q hnf
  refine ⟨ea, cls, a0, H', B, rfl, os.trans I.os, bare, ?_, ?_, fl', hea, ?_, ?_, hE⟩
  · refine ⟨fun b o q n hb _ => ?_, fun b o q n hb _ => ?_, fun b o q n _ => ?_, fun b o q _ => ?_, fun b xs q => u2.tups b xs (u1.tups b xs q), fun b o u q => u2.frzs b o u (u1.frzs b o u q), fun b ps q => ?_⟩
    · have e1 := u1.keep b o q n hb (by simp)
      have e2 := u2.keep b o e1 (u1.free b o q n (by simp)) (hfn q hb) (by simp)
      obtain ⟨o', e3, _, e5⟩ := far b o q hb
      rw [e2] at e3; cases e3
      exact e5
    · obtain ⟨sl, e1⟩ := u1.slot b o q n hb (by simp)
      obtain ⟨sl2, e2⟩ := u2.slot b _ e1 (u1.free b o q n (by simp)) (by show b ∈ frs ((envOfC qual scope s0.heap.objs.size f cd) :: outer); rw [hfs]; exact List.mem_cons_of_mem _ hb) (by simp)
      obtain ⟨sl3, e3⟩ := frm b _ e2 hb
      exact ⟨sl3, e3⟩
    · obtain ⟨o1, e1⟩ := u1.there b o q (by simp)
      exact u2.free b o1 e1 (u1.free b o q n (by simp)) (by simp)
    · by_cases hb : b ∈ frs outer
      · obtain ⟨o1, e1⟩ := u1.there b o q (by simp)
        obtain ⟨o2, e2⟩ := u2.there b o1 e1 (by simp)
        obtain ⟨sl, e3⟩ := frm b o2 e2 hb
        exact ⟨_, e3⟩
      · obtain ⟨o', _, _, e5⟩ := far b o q hb
        exact ⟨o', e5⟩
    · obtain ⟨m1, e1⟩ := u1.tbls b ps q
      obtain ⟨m2, e2⟩ := u2.tbls b _ e1
      exact ⟨m1 ++ m2, by rw [e2, Array.append_assoc]⟩
  · refine fun a o e => (hok a o e).stay (fun b u hb q => ?_) (fun _ h => h) (fun _ _ h => h)
    have hne : H' b ≠ none := by
      rcases hb with rfl | hb
      · rw [e]; simp
      · rw [hb]; simp
    obtain ⟨o', e1, e2⟩ := cov2 b hne
    rw [q] at e1; cases e1
    exact fl'.1 b _ e2
  · intro b o q hb ⟨o', q'⟩
    obtain ⟨o2, _, e4, e5⟩ := far b o' q' hb
    have q2 : h'.get? b = some o := q
    rw [e5] at q2; cases q2
    exact e4
  · intro b hb
    obtain ⟨o, e1, e2⟩ := cov2 b hb
    exact ⟨o, fl'.1 b o e2, e2⟩
theorem objOk_there {P : Program} {w : World} {H : Hp} {h : Heap} {a : Addr} {o : HO} (x : ObjOk P w H h a o) : ∃ ob, h.get? a = some ob := by
  induction o with
  | lst xs => obtain ⟨z, its, n, r, e⟩ := x; exact ⟨_, e⟩
  | tup xs => obtain ⟨z, its, r, ob, e, c⟩ := x; exact ⟨_, e⟩
  | dK kvs => obtain ⟨z, y, vs, r, ob, es, ep, e, c⟩ := x; exact ⟨_, e⟩
  | dT kvs => obtain ⟨z, y, xs, r, ob, es, ep, e, c⟩ := x; exact ⟨_, e⟩
  | set S n => obtain ⟨ob, es, ep, t, e, c⟩ := x; exact ⟨_, e⟩
  | ins C dx fs => obtain ⟨d, z, ne, e, mA, _, r⟩ := x; exact ⟨_, e⟩
  | own y => obtain ⟨ob, e⟩ := x; exact ⟨_, e⟩
  | xd fs => obtain ⟨mA, ⟨od, es, ep, e, c⟩, r⟩ := x; exact ⟨_, e⟩
  | rng lo hi => obtain ⟨t, u, v, e⟩ := x; exact ⟨_, e⟩
  | frz ob u ih => obtain ⟨e, q⟩ := x; exact ⟨_, e⟩
  | tbl ps => exact ⟨_, x⟩
  | met f y => exact ⟨_, x⟩
  | ext φ => obtain ⟨p, ⟨o, e⟩, st⟩ := x; exact ⟨_, e⟩
section
variable {P : Program} {w : World} {K : Fg} {mg : Str → Option Value} {base : Heap} {N : List Str} {qual : Str} {scope : Scope} {f : Addr} {cd : Value} {A : Around} {outer : List Env} {s0 : Shared} {H0 : Hp} {E : XK}
theorem raised {pins : List (Addr × Obj)} {σ : L2.St} {H : Hp} {s : Shared} {h1 : Heap} {e : Addr} {cls : Value} {us : List Value} (I : L2.Inv (cxOf (CXn P w) P w K mg base N qual scope f cd A outer s0 H0 E) pins σ H s) (hx : Heap.MadeExcOf s.heap h1 e cls us) (hE : E cls none H) :
    (cxOf (CXn P w) P w K mg base N qual scope f cd A outer s0 H0 E).xe (.ref e) { s with heap := h1 } := by
  have u1 : Un (frs outer) [] H0 H s0.heap s.heap := I.base
  have e0 := I.env0
  have habove : s0.heap.objs.size ≤ (envOfC qual scope s0.heap.objs.size f cd).locals := I.ok.above
  have hfs : frs ((envOfC qual scope s0.heap.objs.size f cd) :: outer) = (envOfC qual scope s0.heap.objs.size f cd).locals :: frs outer := rfl
  have hfn : ∀ {b : Addr} {o : Obj}, s0.heap.get? b = some o → b ∉ frs outer → b ∉ frs ((envOfC qual scope s0.heap.objs.size f cd) :: outer) := fun {b o} q z hm => by
    rw [hfs] at hm
    rcases List.mem_cons.mp hm with hm | hm
    · have := Heap.lt_size q
      rw [hm] at this
      exact absurd this (Nat.not_lt.mpr habove)
    · exact z hm
  have hin : ∀ env ∈ ((envOfC qual scope s0.heap.objs.size f cd) :: outer), ∀ b, env.frame = some b → b ∈ frs ((envOfC qual scope s0.heap.objs.size f cd) :: outer) := fun env he b hb => List.mem_filterMap.mpr ⟨env, he, hb⟩
  have hfun : s.heap.FunFrames base ((envOfC qual scope s0.heap.objs.size f cd) :: outer) := e0.funs
  have hl := PySem.W.funFrames_hide hfun hin
  show wpAny (model P w) (A.deeper (envOfC qual scope s0.heap.objs.size f cd)) (leaving (envOfC qual scope s0.heap.objs.size f cd) (.ref e)) _ _ _
  refine wpAny_leaves_madeW (s := { s with heap := h1 }) (base := PySem.W.hideAll s.heap (frs ((envOfC qual scope s0.heap.objs.size f cd) :: outer))) I.ok.frames rfl (fun b o q => PySem.W.of_hideAll _ q) hl hx fun h' t fl htup ht up => ?_
  have inB : ∀ b o, s.heap.get? b = some o → b ∉ frs ((envOfC qual scope s0.heap.objs.size f cd) :: outer) → (PySem.W.hideAll s.heap (frs ((envOfC qual scope s0.heap.objs.size f cd) :: outer))).get? b = some o := fun b o q hb => PySem.W.hideAll_get _ q hb
  have trk : ∀ b, H b ≠ none → ∃ o, s.heap.get? b = some o ∧ b ∉ frs ((envOfC qual scope s0.heap.objs.size f cd) :: outer) := fun b hb => by
    cases q : H b with
    | none => exact absurd q hb
    | some ho =>
      obtain ⟨o, eo⟩ := objOk_there (I.hok b ho q)
      refine ⟨o, eo, fun hm => ?_⟩
      have := e0.frf b hm
      rw [q] at this; cases this
  have frm : ∀ b o, s.heap.get? b = some o → b ∈ frs outer → ∃ sl, h'.get? b = some { o with slots := sl } := fun b o q hb => by
    have hm : b ∈ ((envOfC qual scope s0.heap.objs.size f cd) :: outer).filterMap (·.frame) := by
      show b ∈ frs _
      rw [hfs]; exact List.mem_cons_of_mem _ hb
    obtain ⟨_, o', ho, hnf⟩ := hfun.mem hm
    rw [q] at ho; cases ho
    exact up b o (hx.keeps b o q) hnf
  refine ⟨e, cls, .ref t, H, _, rfl, I.os, I.bare, ?_, ?_, fl, ?_, ?_, ?_, hE⟩
  · refine ⟨fun b o q n hb _ => ?_, fun b o q n hb _ => ?_, fun b o q n _ => u1.free b o q n (by simp), fun b o q _ => ?_, fun b xs q => u1.tups b xs q, fun b o u q => u1.frzs b o u q, fun b ps q => u1.tbls b ps q⟩
    · exact fl.1 b o (inB b o (u1.keep b o q n hb (by simp)) (hfn q hb))
    · obtain ⟨sl, e1⟩ := u1.slot b o q n hb (by simp)
      obtain ⟨sl2, e2⟩ := frm b _ e1 hb
      exact ⟨sl2, e2⟩
    · obtain ⟨o1, e1⟩ := u1.there b o q (by simp)
      by_cases hb : b ∈ frs outer
      · obtain ⟨sl, e2⟩ := frm b o1 e1 hb
        exact ⟨_, e2⟩
      · exact ⟨o1, fl.1 b o1 (inB b o1 e1 (hfn q hb))⟩
  · refine fun a o ha => (I.hok a o ha).stay (fun b u hb q => ?_) (fun _ h => h) (fun _ _ h => h)
    have hne : H b ≠ none := by
      rcases hb with rfl | hb
      · rw [ha]; simp
      · rw [hb]; simp
    obtain ⟨o', e1, e2⟩ := trk b hne
    exact fl.1 b u (inB b u q e2)
  · cases q : H e with
    | none => rfl
    | some ho =>
      obtain ⟨o, eo⟩ := objOk_there (I.hok e ho q)
      rw [hx.new] at eo; cases eo
  · intro b o q hb ⟨o', q'⟩
    obtain ⟨o1, e1⟩ := u1.there b o' q' (by simp)
    have e2 := inB b o1 e1 (hfn q' hb)
    have e3 := fl.1 b o1 e2
    have q2 : h'.get? b = some o := q
    rw [e3] at q2; cases q2
    exact e2
  · intro b hb
    obtain ⟨o, e1, e2⟩ := trk b hb
    exact ⟨o, fl.1 b o (inB b o e1 e2), inB b o e1 e2⟩
/-- raise C(..), C a class of the module -/
noncomputable def tRaise (E : XK) (C : Addr) (ta : TA) : TS := fun _ σ H => ta σ H fun vs H1 => vs.length ≤ sizeLine ∧ E (.ref C) none H1
theorem ps_raise {x : Str} {C : Addr} {Bn B newId inN nid initId : String} {bm bmN : List Value} {e₀ : Expr} {rest : List Expr} {np cpos pos : Pos} {ta : TA}
    (O : OwnCls x C bm newId mg base) (Fn : ExcBaseFacts Bn newId inN bmN) (hBn : bm.contains (.type Bn) = true) (FB : ExcBaseFacts B nid initId bm)
    (hg : Gl (cxOf (CXn P w) P w K mg base N qual scope f cd A outer s0 H0 E) x) (ha : PA (cxOf (CXn P w) P w K mg base N qual scope f cd A outer s0 H0 E) (e₀ :: rest) ta)
    (he : starEach (e₀ :: rest) (envOfC qual scope s0.heap.objs.size f cd) = (false, eval e₀ (envOfC qual scope s0.heap.objs.size f cd)) :: starEach rest (envOfC qual scope s0.heap.objs.size f cd) := by rfl)
    (hplain : (backTo cpos (starEach rest (envOfC qual scope s0.heap.objs.size f cd))).any (·.1) = false := by rfl) (hd : (x == ("__debug__" : Str)) = false := by decide) :
    PS (cxOf (CXn P w) P w K mg base N qual scope f cd A outer s0 H0 E) (.Raise (some (.Call (.Name x np) (e₀ :: rest) [] cpos)) none pos) (tRaise E C ta) := by
  intro pins s σ H D I h
  obtain ⟨tl, NN, nm, q, bs, hdct, sn, sub, ab, col, dd, k0, k1, k2, k3, k5, mN, hC, hN, hni, T⟩ := O.obj
  refine wpAny_Raise_call_subU (C := C) (nm := nm) (q := q) (N := NN) (bs := bs) (bm := tl) (hdct := hdct) (sn := sn) (sub := sub) (ab := ab) (col := col) (dd := dd) (k0 := k0) (k1 := k1) (k2 := k2) (k3 := k3) (k5 := k5)
    Fn hBn FB (mN := mN) (T.hasType FB.hasBase) (I.ok.hd rfl) (by
      show (backTo cpos (starEach (e₀ :: rest) (envOfC qual scope s0.heap.objs.size f cd))).any (·.1) = false
      rw [he]; show (false || (backTo cpos (starEach rest (envOfC qual scope s0.heap.objs.size f cd))).any (·.1)) = false; rw [hplain]; rfl) hni (ld_glob I hg O.bound ⟨rfl, ?_⟩ hd)
  have hA := ha cpos pins s σ H _ I h
  have he' : starEach (e₀ :: rest) (cxOf (CXn P w) P w K mg base N qual scope f cd A outer s0 H0 E).env = _ := he
  rw [he'] at hA ⊢
  refine Calls.evalArgs_plain (thn hA fun us s2 ⟨vs, H2, I2, r2, q2⟩ => ⟨rfl, ?_, I2.bk _ _ hC, hN.keeps I2.bk, T.keeps I2.bk, fun h' e hx => raised I2 hx q2.2⟩)
  rw [← r2.length]; exact q2.1
/-! ### values: promises with a wish about exceptions -/
noncomputable def EXok (K : Fg) (mg : Str → Option Value) (XE : XE3) (E : XK) : Prop := ∀ x C μ' H', XE x μ' → mg x = some (.ref C) → RelM K μ' H' → E (.ref C) none H'
noncomputable def liftX (K : Fg) (mg : Str → Option Value) (spx : XE3 → Sp3) : Sp := fun vs H Q E => ∃ ds μ Q3 XE, RelDs K H ds vs ∧ RelM K μ H ∧ spx XE ds μ Q3 ∧ Ks K H Q3 Q ∧ EXok K mg XE E
noncomputable def CalX (P : Program) (w : World) (K : Fg) (mg : Str → Option Value) (base : Heap) (k : Nat) (x : Str) (ps : List Str) (spx : XE3 → Sp3) : Prop :=
  ∃ f fd, FnOk P w K mg base (CXn P w) k f fd ps (liftX K mg spx) ∧ mg x = some (.ref f) ∧ PySem.W.keepIn K (.ref f) = true ∧ Binds K fd ps []
theorem CalX.mono {j k : Nat} {x : Str} {ps : List Str} {spx : XE3 → Sp3} (c : CalX P w K mg base j x ps spx) (h : j ≤ k) : CalX P w K mg base k x ps spx := by
  obtain ⟨f, fd, F, r⟩ := c
  exact ⟨f, fd, F.mono h, r⟩
variable {XE : XE3}
theorem rs_raise {x : Str} {C : Addr} {Bn B newId inN nid initId : String} {bm bmN : List Value} {e₀ : Expr} {rest : List Expr} {np cpos pos : Pos} {ta : TA3} (EX : EXok K mg XE E)
    (O : OwnCls x C bm newId mg base) (Fn : ExcBaseFacts Bn newId inN bmN) (hBn : bm.contains (.type Bn) = true) (FB : ExcBaseFacts B nid initId bm)
    (ha : RA (cxOf (CXn P w) P w K mg base N qual scope f cd A outer s0 H0 E) (e₀ :: rest) ta) (hg : Gl (cxOf (CXn P w) P w K mg base N qual scope f cd A outer s0 H0 E) x := by rfl)
    (he : starEach (e₀ :: rest) (envOfC qual scope s0.heap.objs.size f cd) = (false, eval e₀ (envOfC qual scope s0.heap.objs.size f cd)) :: starEach rest (envOfC qual scope s0.heap.objs.size f cd) := by rfl)
    (hplain : (backTo cpos (starEach rest (envOfC qual scope s0.heap.objs.size f cd))).any (·.1) = false := by rfl) (hd : (x == ("__debug__" : Str)) = false := by decide) :
    RS (cxOf (CXn P w) P w K mg base N qual scope f cd A outer s0 H0 E) (.Raise (some (.Call (.Name x np) (e₀ :: rest) [] cpos)) none pos) (raise3 XE x ta) := by
  obtain ⟨va, pa, ra⟩ := ha
  exact ⟨_, ps_raise O Fn hBn FB hg pa he hplain hd, fun σ H D ρ μ D3 s m h k => ra σ H _ ρ μ _ s m h fun ds μ1 vs H1 h1 k1 r1 m1 => ⟨by rw [← r1.length]; exact h1.1, EX x C μ1 H1 h1.2 O.bound m1⟩⟩
theorem re_callX {k : Nat} {ps : List Str} {spx : XE3 → Sp3} {x : Str} {e : Expr} {es : List Expr} {p pos : Pos} {t : TA3} (EX : EXok K mg XE E) (c : CalX P w K mg base k x ps spx) (hr : Room k (A.deeper (envOfC qual scope s0.heap.objs.size f cd)))
    (ha : RA (cxOf (CXn P w) P w K mg base N qual scope f cd A outer s0 H0 E) (e :: es) t) (hg : Gl (cxOf (CXn P w) P w K mg base N qual scope f cd A outer s0 H0 E) x := by rfl) (hdb : (x == ("__debug__" : Str)) = false := by decide)
    (he : starEach (e :: es) (envOfC qual scope s0.heap.objs.size f cd) = (false, eval e (envOfC qual scope s0.heap.objs.size f cd)) :: starEach es (envOfC qual scope s0.heap.objs.size f cd) := by rfl) (hpl : (backTo pos (starEach es (envOfC qual scope s0.heap.objs.size f cd))).any (·.1) = false := by rfl) :
    RE (cxOf (CXn P w) P w K mg base N qual scope f cd A outer s0 H0 E) (.Call (.Name x p) (e :: es) [] pos) (call3 (spx XE) t) := by
  obtain ⟨g, fd, F, hm, hk, hb⟩ := c
  obtain ⟨va, pa, ra⟩ := ha
  refine ⟨_, pe_call (X := cxOf (CXn P w) P w K mg base N qual scope f cd A outer s0 H0 E) F hr hg hm hk hb .nil passes_n pa hdb he hpl, fun σ H Q ρ μ Q3 s m h k => ra σ H _ ρ μ _ s m h fun ds μ1 vs H1 h1 k1 r1 m1 => ?_⟩
  rw [List.append_nil]
  exact ⟨ds, μ1, Q3, XE, r1, m1, h1, k.after k1, EX⟩
theorem calX_of {x : Str} {st : Stmt} {g : Addr} {fd : FuncData} {NN ps : List Str} {k : Nat} {spx : XE3 → Sp3} {t : XE3 → TS3} (F : Fun K x x st g fd) (hm : mg x = some (.ref g)) (hb : Binds K fd ps []) (S : FnScope NN ps (defScope st))
    (len : ∀ XE ds μ Q, spx XE ds μ Q → ds.length = ps.length)
    (body : ∀ (cdv : Value) (A : Around) (outer : List Env) (s : Shared) (H : Hp) (E : XK) (XE : XE3), Room k (A.deeper (envOfC x (defScope st) s.heap.objs.size g cdv)) → EXok K mg XE E →
      RSs (cxOf (CXn P w) P w K mg base NN x (defScope st) g cdv A outer s H E) (defBody st) (t XE))
    (rd : ∀ XE ds μ Q, spx XE ds μ Q → t XE { nx := fun _ μ' => Q .non μ', rt := Q } (start3 NN ds) μ) : CalX P w K mg base (k + 1) x ps spx := by
  refine ⟨g, fd, ?_, hm, F.kp, hb⟩
  obtain ⟨oc, od, kV, doc, pm, an, cdv, ct, osl, rfl, lk, hcd⟩ := F.ex
  refine fn_of lk hcd S (fun vs H Q E h => ?_) fun A outer s H vs Q E hr h => ?_
  · obtain ⟨ds, μ, Q3, XE, r, m, q, ks, ex⟩ := h
    rw [← r.length]; exact len _ _ _ _ q
  · obtain ⟨ds, μ, Q3, XE, r, m, q, ks, ex⟩ := h
    obtain ⟨tv, p, rt⟩ := body cdv A outer s H E XE hr ex
    exact ⟨tv, p, rt _ H _ _ μ _ (RSt.start NN r) m (rd XE ds μ Q3 q) ⟨fun ρ μ' σ H' h' k' s' m' => ks _ _ _ _ h' k' .non m', fun ρ μ' σ H' h' => False.elim h', fun ρ μ' σ H' h' => False.elim h', ks⟩⟩
end
end Pv

namespace Pv
open PySem PySem.Spec PyProof.Rows L2 PySem.Calls
section
variable {prog : Program} {w : World} {A : Around} {E : Value → Shared → Prop} {s : Shared} {K : PySem.W.Frag} {x D : Addr} {ox : Obj}
/-- what isinstance asks of an exception's class D -/
structure ExcK (K : PySem.W.Frag) (D : Addr) : Prop where
  ga : PySem.W.findIn K (.ref D) "__getattribute__" = some (some (.builtin "BaseException.__getattribute__"))
  no : PySem.W.findIn K (.ref D) "__getattr__" = some none
  be : PySem.W.mroIn K D (.type "BaseException") = some true
  cd : (PySem.W.clsIn K D).isSome = true
  ca : PySem.W.findIn K (.ref D) "__class__" = some (some (.builtin "object.__class__"))
  gt : PySem.W.specialIn K (.builtin "object.__class__") "__get__" = some (some (.builtin "getset_descriptor.__get__"))
  tk : PySem.W.takesIn K (.builtin "object.__class__") = some true
  ob : PySem.W.mroIn K D (.type "object") = some true
noncomputable def ExcAt (x D : Addr) (h : Heap) : Prop := ∃ ob, h.get? x = some ob ∧ ob.cls = .ref D
theorem ExcAt.type {M : Model} {h : Heap} (I : ExcAt x D h) : PySem.W.Looks M h (typeOf (.ref x)) (.ref D) := by
  obtain ⟨ob, h1, h2⟩ := I
  exact h2 ▸ (PySem.W.Looks.ld h1).andThen .now
theorem exc_find {M : Model} {h : Heap} (Z : ExcK K D) (X : K.In h) : PySem.W.Looks M h (Builtin.ObjectAttr.find (.ref x) (.ref D) "__class__") (.bind (.builtin "getset_descriptor.__get__") (.builtin "object.__class__")) := by
  have L1 := PySem.W.looks_findIn (M := M) X Z.ca
  have L2 := PySem.W.looks_specialIn (M := M) X Z.gt
  have L3 := PySem.W.looks_takesIn (M := M) X Z.tk
  refine L1.andThen (PySem.W.Looks.andThen (show PySem.W.Looks M h (Builtin.ObjectAttr.getOf (some (.builtin "object.__class__"))) (some (.builtin "getset_descriptor.__get__")) from L2) ?_)
  exact (show PySem.W.Looks M h (Builtin.ObjectAttr.dataDescriptor? (some (.builtin "object.__class__")) (some (.builtin "getset_descriptor.__get__"))) (some (.builtin "getset_descriptor.__get__", .builtin "object.__class__")) from L3.andThen .now).andThen (PySem.W.Looks.tag .now)
theorem exc_get {R : Result → Shared → Prop} {tp : Value} (Z : ExcK K D) (X : K.In s.heap) (I : ExcAt x D s.heap)
    (h : R (.ok (.ret (.ref D))) s) : codeAny (model prog w) A (.call (.builtin "getset_descriptor.__get__") ⟨[.builtin "object.__class__", .ref x, tp], []⟩) R s := by
  obtain ⟨ob, h1, h2⟩ := I
  obtain ⟨hh, g, dr, t, os⟩ := s
  have L0 := ExcAt.type (M := model prog w) (x := x) (D := D) (h := hh) ⟨ob, h1, h2⟩
  have L1 := PySem.W.looks_mroIn (M := model prog w) X Z.ob
  refine codeAny_call_builtin PySem.W.KF.slot_gs.plain PySem.W.KF.entry_gs (PySem.W.KF.slot_gs.check _ _ _ _ _ _ _ _ PySem.W.KF.type_class (PySem.W.KF.args_gs _ _ _) ?_)
  unfold Builtin.«getset_descriptor.__get__» Builtin.Getset_descriptor.descrGet
  rw [PySem.W.dga_obj]
  refine wpAny_bind (wpAny_pure ?_)
  unfold Builtin.Getset_descriptor.descrGetter Builtin.Getset_descriptor.descrCheckInstance Builtin.Getset_descriptor.descrNameAndClass isInstance
  simp only [PySem.W.KF.owner_class]
  repeat lk
  refine ⟨Code.quiet_builtin _ (by decide +kernel), codeAny_builtin PySem.W.KF.entry_class ?_⟩
  unfold Builtin.«object.__class__» shownTypeOf
  repeat lk
  exact h
theorem exc_class {Q : Option Value → Shared → Prop} (Z : ExcK K D) (X : K.In s.heap) (I : ExcAt x D s.heap) (h : Q (some (.ref D)) { s with toks := s.toks + 1 }) : wpAny (model prog w) A (getAttr? (.ref x) "__class__") Q E s := by
  obtain ⟨hh, g, d, t, os⟩ := s
  have L0 := I.type (M := model prog w)
  have L1 := PySem.W.looks_findIn (M := model prog w) X Z.ga
  have L2 := PySem.W.looks_findIn (M := model prog w) X Z.no
  have L3 := exc_find (M := model prog w) (x := x) Z X
  have L4 := PySem.W.looks_mroIn (M := model prog w) X Z.be
  unfold getAttr? getAttrBy? getAttrBy
  refine wpAny_bind (wpAny_mkText (wpAny_bind (wpAny_attempt (wpAny_holding (wpAny_bind (L0.at (wpAny_bind (L1.at ?_))))))))
  have hx2 : (Value.builtin "BaseException.__getattribute__" == Value.builtin "object.__getattribute__") = false := by decide +kernel
  simp only [hx2, Bool.and_false, Bool.false_eq_true, if_false]
  unfold getAttrByItsOwn hookBefore
  have hh1 : onTheHeap (Value.ref D) = true := rfl
  simp only [hh1, if_true]
  refine wpAny_bind (L2.at (wpAny_bind (wpAny_attempt (wpAny_holding ?_))))
  unfold callGetattribute boundAndCalled
  simp only [Bool.false_and, Bool.false_eq_true, if_false]
  have hb : bindSpecial (.builtin "BaseException.__getattribute__") (.ref x) = pure (.builtin "BaseException.__getattribute__", [.ref x]) := PySem.F.attr_ValueError.ga.bind _
  rw [hb]
  refine wpAny_bind (wpAny_pure ?_)
  refine wpAny_call (codeAny_call_builtin PySem.F.attr_ValueError.ga.plain F.entry_bexc_ga ?_)
  have hk : builtinKind "BaseException.__getattribute__" = some .slot := by decide +kernel
  have hsplit : splitId "BaseException.__getattribute__" = some ("BaseException", "__getattribute__") := by decide +kernel
  have ha := F.args_bexc_ga (.ref x) (.str "__class__" t)
  simp only [checkBuiltinCall, hk, hsplit]
  refine wpAny_bind ?_
  · unfold isInstance
    refine wpAny_bind (L0.at (L4.at ?_))
    simp only [Bool.not_true, Bool.false_eq_true, if_false]
    obtain ⟨ob, I1, I2⟩ := id I
    dsimp only at I1
    repeat (any_goals (first | assumption | (with_reducible refine wpAny_loadPart_at I1 ?_; rw [I2]) | with_reducible refine L3.at ?_ | wp_step))
    refine exc_get (s := ⟨hh, g, d, t + 1, os⟩) Z X I (wpAny_pure ?_)
    exact PySem.W.handed_on rfl (wpAny_pure h)
theorem kitx_exc (Z : ExcK K D) : PySem.W.KitX K (.ref x) (.ref D) (ExcAt x D) where
  ty := fun _ _ _ I => I.type
  it := fun _ _ X _ => by
    obtain ⟨cdD, hcD⟩ := Option.isSome_iff_exists.mp Z.cd
    unfold PySem.W.clsIn at hcD
    split at hcD
    · rename_i c' d' cd' sl' ho
      intro A' Q' E' s' k q
      unfold isType loadHead
      exact wpAny_bind (wpAny_loadPart (k _ _ (X _ _ ho)) (wpAny_pure q))
    · cases hcD
  ne := fun h tp dd its n sl X htp => by
    obtain ⟨cdD, hcD⟩ := Option.isSome_iff_exists.mp Z.cd
    refine Bool.eq_false_iff.mpr fun q => ?_
    have e : D = tp := Value.ref.inj (beq_iff_eq.mp q)
    subst e
    unfold PySem.W.clsIn at hcD
    split at hcD
    · rename_i c' d' cd' sl' ho
      have z := (X _ _ ho).symm.trans htp
      cases z
    · cases hcD
  ca := fun X I k => exc_class Z X I k
end
section
variable {X : Cx} {e : Expr} {te : TE3} {p p2 pos : Pos}
theorem frz_get {P : Program} {w : World} {H : Hp} {h : Heap} (hok : HOk P w H h) {a : Addr} {ob : Obj} {u : HO} (e : H a = some (.frz ob u)) : h.get? a = some ob := (show ObjOk P w H h a (.frz ob u) from hok a _ e).1
theorem call_isx {cV : V} {cv : Value} (rc : ∀ u, RelV cV u → u = cv) : CallR X (.builtin "isinstance") (fun xs H Q => ∃ a C ob u b, xs = [.ref a, cV] ∧ H a = some (.frz ob u) ∧ ob.cls = .ref C ∧ ExcK X.K C ∧ PySem.W.kitOne X.K (.ref C) cv = some b ∧ Q (.bl b) H) := by
  intro pins s σ H xs us Q I r h
  obtain ⟨a, C, ob, u, b, rfl, ha, h1, Z, hk, q⟩ := h
  obtain ⟨u1, u2, rfl, r1, r2⟩ := vals2 r
  cases r1
  cases rc _ r2
  have hg := frz_get I.hok ha
  have hi : ExcAt a C s.heap := ⟨ob, hg, h1⟩
  exact PySem.W.kia_one (kitx_exc Z) I.kIn hi hk (fun z => nomatch z) fun tk => ⟨.bl b, H, I.tok tk, rfl, q⟩
theorem pe_cls {y : Str} {C : Addr} (hg : Gl X y) (hm : X.mg y = some (.ref C)) (hd : (y == ("__debug__" : Str)) = false := by decide) : PE X (.Name y p2) (fun _ H Q => Q (.ref C) H) := fun pins s σ H Q I h => ld_glob I hg hm ⟨.ref C, H, I, rfl, h⟩ hd
theorem re_isx {y : Str} {cV : V} {cv : Value} {sub : Str → Option Bool} (he : RE X e te) (hc : PE X (.Name y p2) (fun _ H Q => Q cV H)) (rc : ∀ u, RelV cV u → u = cv)
    (hsub : ∀ c C b, sub c = some b → PySem.W.nsIn X.K mainGlobals c = some (some (.ref C)) → ExcK X.K C ∧ PySem.W.kitOne X.K (.ref C) cv = some b)
    (hm : X.mg "isinstance" = none) (hg : Gl X "isinstance" := by rfl)
    (hs : starEach [e, .Name y p2] X.env = (false, eval e X.env) :: starEach [.Name y p2] X.env := by rfl) (hs2 : starEach [.Name y p2] X.env = (false, eval (.Name y p2) X.env) :: starEach [] X.env := by rfl)
    (hpl : (backTo pos (starEach [.Name y p2] X.env)).any (·.1) = false := by rfl) :
    RE X (.Call (.Name "isinstance" p) [e, .Name y p2] [] pos) (isx3 te sub) := by
  obtain ⟨va, pa, ra⟩ := he
  refine ⟨_, pe_callB (call_isx rc) hg hm bz_isinstance (pa_cons pa (pa_cons hc pa_nil hs2) hs) (by decide) (by decide) hs hpl, fun σ H Q ρ μ Q3 s m h k => ra σ H _ ρ μ _ s m h fun d μ1 v H1 h1 k1 r1 m1 => ?_⟩
  cases r1 with
  | exc a1 a2 a3 =>
    dsimp only at h1
    split at h1
    · next b eb =>
      obtain ⟨z1, z2⟩ := hsub _ _ b eb a3
      exact ⟨_, _, _, _, b, rfl, a1, a2, z1, z2, k _ _ _ _ h1 k1 (.bl _) m1⟩
    · exact h1.elim
  | _ => exact False.elim h1
end
end Pv

namespace Pv
open PySem PySem.Spec PyProof.Rows L2 PySem.Calls
section
variable {X : Cx} {pins : List (Addr × Obj)} {σ : L2.St} {H H' : Hp} {s s' : Shared}
/-- the context of an except suite -/
noncomputable abbrev mark (X : Cx) (e : Value) : Cx := { X with A := X.A.mark (some e), calm := false, xe := fun _ _ => False }
theorem inv_mark (I : Inv X pins σ H s) (e : Value) : Inv (mark X e) pins σ H s :=
  ⟨⟨I.ok.mod, I.ok.kind, I.ok.glob, I.ok.blt, I.ok.above, I.ok.inj, I.ok.has, I.ok.cab, (fun z => Bool.noConfusion z), I.ok.frames, I.ok.stk, I.ok.exf, I.ok.bs, I.ok.bsz, I.ok.noex, I.ok.exfs, I.ok.funs, I.ok.frf⟩, I.os, I.bare, I.base, I.loc, I.cell, I.free, I.freeC, I.pin, I.hok, I.len⟩
theorem inv_unmark {e : Value} (ok : X.Ok) (I : Inv (mark X e) pins σ H s) : Inv X pins σ H s :=
  ⟨ok, I.os, I.bare, I.base, I.loc, I.cell, I.free, I.freeC, I.pin, I.hok, I.len⟩
/-- behind a caught exception -/
theorem caught_un {B h5 : Heap} {ea : Addr} {cls a0 : Value} (u2 : Un (frs X.stack) [] H H' s.heap s'.heap)
    (cov1 : ∀ b o, s'.heap.get? b = some o → b ∉ frs X.stack → (∃ o', s.heap.get? b = some o') → B.get? b = some o)
    (fl : Heap.FlyingW B X.stack ea cls a0 s'.heap) (st : ∀ b o, B.get? b = some o → h5.get? b = some o) (up : s'.heap.UpToSlots h5) : Un (frs X.stack) [] H H' s.heap h5 := by
  have frm : ∀ b o, s'.heap.get? b = some o → b ∈ frs X.stack → ∃ sl, h5.get? b = some { o with slots := sl } := fun b o q hb => by
    obtain ⟨_, o', ho, hnf⟩ := fl.2.2.1.mem hb
    rw [q] at ho; cases ho
    exact up b o q hnf
  refine ⟨fun b o q n hb _ => ?_, fun b o q n hb _ => ?_, fun b o q n hx => u2.free b o q n hx, fun b o q hx => ?_, u2.tups, u2.frzs, u2.tbls⟩
  · exact st b o (cov1 b o (u2.keep b o q n hb (by simp)) hb ⟨o, q⟩)
  · obtain ⟨sl, e1⟩ := u2.slot b o q n hb (by simp)
    obtain ⟨sl2, e2⟩ := frm b _ e1 hb
    exact ⟨sl2, e2⟩
  · obtain ⟨o1, e1⟩ := u2.there b o q hx
    by_cases hb : b ∈ frs X.stack
    · obtain ⟨sl, e2⟩ := frm b o1 e1 hb
      exact ⟨_, e2⟩
    · exact ⟨o1, st b o1 (cov1 b o1 e1 hb ⟨o, q⟩)⟩
theorem caught_hok {B h5 : Heap} {P : Program} {w : World} (hok : HOk P w H' s'.heap) (cov2 : ∀ b, H' b ≠ none → ∃ o, s'.heap.get? b = some o ∧ B.get? b = some o) (st : ∀ b o, B.get? b = some o → h5.get? b = some o) : HOk P w H' h5 := by
  refine fun a o e => (hok a o e).stay (fun b u hb q => ?_) (fun _ h => h) (fun _ _ h => h)
  have hne : H' b ≠ none := by
    rcases hb with rfl | hb
    · rw [e]; simp
    · rw [hb]; simp
  obtain ⟨o', e1, e2⟩ := cov2 b hne
  rw [q] at e1; cases e1
  exact st b _ e2
theorem upd_un {fs : List Addr} {h h5 : Heap} {ea : Addr} {o : HO} (u : Un fs [] H H' h h5) (he : H' ea = none) (hn : h.get? ea = none) : Un fs [] H (upd H' ea o) h h5 := by
  have ne : ∀ {b ob}, h.get? b = some ob → b ≠ ea := fun {b ob} q z => by subst z; rw [hn] at q; cases q
  have ne2 : ∀ {b u}, H' b = some u → b ≠ ea := fun {b u} q z => by subst z; rw [he] at q; cases q
  refine ⟨u.keep, u.slot, fun b ob q n hx => ?_, u.there, fun b xs q => ?_, fun b ob v q => ?_, fun b ps q => ?_⟩
  · rw [upd_ne (ne q)]; exact u.free b ob q n hx
  · have := u.tups b xs q; rw [upd_ne (ne2 this)]; exact this
  · have := u.frzs b ob v q; rw [upd_ne (ne2 this)]; exact this
  · obtain ⟨m, e⟩ := u.tbls b ps q; exact ⟨m, by rw [upd_ne (ne2 e)]; exact e⟩
theorem upd_hok {P : Program} {w : World} {h5 : Heap} {ea : Addr} {oe : Obj} (hok : HOk P w H' h5) (he : H' ea = none) (hg : h5.get? ea = some oe) : HOk P w (upd H' ea (.frz oe (.own 0))) h5 := by
  have ne2 : ∀ {b u}, H' b = some u → b ≠ ea := fun {b u} q z => by subst z; rw [he] at q; cases q
  intro a o e
  by_cases ha : a = ea
  · subst ha
    rw [upd_same] at e
    cases e
    exact ⟨hg, ⟨_, hg⟩⟩
  · rw [upd_ne ha] at e
    exact (hok a o e).stay (fun b u hb q => q) (fun b q => by rw [upd_ne (ne2 q)]; exact q) (fun b xs q => by rw [upd_ne (ne2 q)]; exact q)
theorem exc_matches {M : Model} {A : Around} {E : Value → Shared → Prop} {K : PySem.W.Frag} {ea C Pc : Addr} {ob : Obj} {Q : Bool → Shared → Prop} (Z : K.In s.heap) (h1 : s.heap.get? ea = some ob) (h2 : ob.cls = .ref C)
    (k1 : PySem.W.kitCls K (.ref C) (.ref Pc) = some true) (k2 : PySem.W.kitCls K (.ref Pc) (.type "BaseException") = some true) (k3 : PySem.W.kitCls K (.type "type") (.type "tuple") = some false) (hq : Q true s) : wpAny M A (excMatches (.ref ea) (.ref Pc)) Q E s := by
  obtain ⟨a1, a2, a3⟩ := PySem.W.kit_cls (M := M) Z k1
  obtain ⟨b1, b2, b3⟩ := PySem.W.kit_cls (M := M) Z k2
  obtain ⟨c1, c2, c3⟩ := PySem.W.kit_cls (M := M) Z k3
  have L0 := ExcAt.type (M := M) (x := ea) (D := C) (h := s.heap) ⟨ob, h1, h2⟩
  obtain ⟨hh, g, d, t, os⟩ := s
  unfold excMatches isInstance
  refine wpAny_bind (wpAny_bind (a1.at (c3.at ?_)))
  dsimp only
  simp only [Bool.false_eq_true, if_false, pure_bind, List.forIn_cons, List.forIn_nil]
  unfold isExcClass
  repeat (any_goals (first | assumption | with_reducible refine L0.at ?_ | with_reducible refine a3.at ?_ | with_reducible refine b3.at ?_ | with_reducible refine a2.at ?_ | with_reducible refine a1.at ?_ | wp_step))
theorem catch_as {e : Value} {E' : XK} {n x : Str} {i : Nat} {Pc : Addr} {b₀ : Stmt} {suite : List Stmt} {np pos : Pos} {Q : Flow → Shared → Prop} {EE : Value → Shared → Prop}
    (I : Inv X pins σ H s) (hst : X.stack = X.env :: X.outer) (hfr : X.env.frame = some X.env.locals) (h : CXn X.prog X.w X.stack H s E' e s')
    (hN : X.N.Nodup) (hi : X.N[i]? = some n) (hloc : X.env.scope.names.lookup n = some .local) (hg : Gl X x) (hm : X.mg x = some (.ref Pc)) (hd : (x == ("__debug__" : Str)) = false)
    (hcls : ∀ cls H', E' cls none H' → ∃ C, cls = .ref C ∧ PySem.W.kitCls X.K (.ref C) (.ref Pc) = some true) (k2 : PySem.W.kitCls X.K (.ref Pc) (.type "BaseException") = some true) (k3 : PySem.W.kitCls X.K (.type "type") (.type "tuple") = some false)
    (k : ∀ ea C H' ob s6, Kp H H' → E' (.ref C) none H' → H' ea = none → ob.cls = .ref C → Inv (mark X (.ref ea)) pins (σ.set i (some (.ref ea))) (upd H' ea (.frz ob (.own 0))) s6 →
      wpAny (model X.prog X.w) (X.A.mark (some (.ref ea))) (execs (b₀ :: suite) X.env) (fun f s₄ => wpAny (model X.prog X.w) X.A (do bindName X.env n .none; unbindBehindTheSuite X.env n pos) (fun _ s₅ => Q f s₅) EE s₄) (fun _ _ => False) s6) :
    wpAny (model X.prog X.w) X.A (noteFrame e X.env) (fun _ s₂ => wpAny (model X.prog X.w) X.A (setFlight e none) (fun _ s₃ =>
      wpAny (model X.prog X.w) X.A (handleBy e X.env [.ExceptHandler (some (.Name x np)) (some n) (b₀ :: suite) pos]) Q EE s₃) EE s₂) EE s' := by
  obtain ⟨ea, cls, a0, H', B, rfl, os, bare, u2, hok, fl, hea, cov1, cov2, hE⟩ := h
  obtain ⟨C, rfl, k1⟩ := hcls _ _ hE
  have fl0 := fl
  rw [hst] at fl
  refine wpAny_looks_onW (by rw [← hst]; exact I.ok.frames) hfr fl fun h4 held4 sm4 => ?_
  refine wpAny_landsW held4 fun h5 fl5 sm5 => ?_
  have I5 : Inv X pins σ H' { s' with heap := h5 } := I.call' (s' := { s' with heap := h5 }) (ch := []) os (caught_un u2 cov1 fl0 fl5.1 (sm4.trans sm5)) (caught_hok hok cov2 fl5.1) bare (fun b z => absurd z (by simp))
  obtain ⟨ob5, hob5, hc5⟩ := fl5.there
  refine wpAny_handleBy_cons (codeAny_handlers_test (ld_glob (inv_mark I5 (.ref ea)) hg hm ?_ hd)) (by intro q; cases q)
  refine exc_matches I5.kIn hob5 hc5 k1 k2 k3 ?_
  refine codeAny_handlers_suite_as ?_
  refine lands_againW (s := { s' with heap := h5 }) fl5 fun h6 fl6 sm6 => ?_
  obtain ⟨oe, ws, hoe, hoec, hoed, hoe0⟩ := fl6.first
  have hsn : s.heap.get? ea = none := by
    cases q : s.heap.get? ea with
    | none => rfl
    | some o =>
      exfalso
      obtain ⟨o1, e1⟩ := u2.there ea o q (by simp)
      by_cases hb : ea ∈ frs X.stack
      · obtain ⟨_, o', ho, hnf⟩ := fl0.2.2.1.mem hb
        obtain ⟨oe0, vs0, he0, _, hd0, _⟩ := fl0.first
        rw [he0] at ho; cases ho
        exact hnf _ hd0
      · have := cov1 ea o1 e1 hb ⟨o, q⟩
        rw [fl0.2.1] at this; cases this
  have I7 : Inv X pins σ (upd H' ea (.frz oe (.own 0))) { s' with heap := h6 } := I.call' (s' := { s' with heap := h6 }) (ch := []) os (upd_un (caught_un u2 cov1 fl0 fl6.1 ((sm4.trans sm5).trans sm6)) hea hsn) (upd_hok (caught_hok hok cov2 fl6.1) hea hoe) bare (fun b z => absurd z (by simp))
  refine store_ok I7 hN hi (.inl hloc) (v := .ref ea) (u := .ref ea) rfl (fun s8 I8 => ?_) (.inr hloc)
  exact wpAny_mono (k ea C H' oe s8 ⟨u2.tups, u2.frzs⟩ hE hea hoec (inv_mark I8 (.ref ea))) (fun f s4 z => z) (fun _ _ z => z.elim)
/-- the name of a caught exception goes -/
theorem goes_ok {M : Model} {A : Around} {E : Value → Shared → Prop} {i : Nat} {n : Str} {pos : Pos} {Q : Unit → Shared → Prop} (I : Inv X pins σ H s) (hN : X.N.Nodup) (hi : X.N[i]? = some n) (hk : X.env.scope.names.lookup n = some .local)
    (h : ∀ s', Inv X pins (σ.set i none) H s' → Q () s') : wpAny M A (do bindName X.env n .none; unbindBehindTheSuite X.env n pos) Q E s := by
  obtain ⟨m, hn, hl⟩ := id I.loc
  have hcls : (X.env.scope.kind == .class || (X.env.scope.kind == .module && X.env.locals != X.env.globals)) = false := by rw [I.ok.kind]; rfl
  have hiσ : i < σ.length := by rw [I.len]; exact (List.getElem?_eq_some_iff.mp hi).1
  have cne := I.cne
  have tracked : ∀ {a : Addr} {h' : Heap}, (∃ o, s.heap.get? a = some o ∧ H a = none) → Heap.SameBut a s.heap h' → HOk X.prog X.w H h' := fun {a h'} ha hs b ob e => by
    obtain ⟨_, _, hfree⟩ := ha
    refine (I.hok b ob e).stay (fun c w' hc q => (hs.2 c ?_).trans q) (fun _ q => q) fun _ _ q => q
    rintro rfl
    rcases hc with rfl | hc
    · rw [hfree] at e; cases e
    · rw [hfree] at hc; cases hc
  refine wpAny_nameGoes_keeps hk hn hcls fun h' v hn' hs => ?_
  obtain ⟨oL, _, _, hoL, _⟩ := id hn
  refine h _ ⟨I.ok, I.os, I.bare, ⟨fun b o e n hb hx => ?_, fun b o e n hb hx => ?_, I.base.free, fun b o e hx => ?_, I.base.tups, I.base.frzs, I.base.tbls⟩, ⟨_, hn', fun j y v' e1 e2 e3 => ?_⟩, fun y c e => ?_, I.free, I.freeC, fun p hp => ?_, tracked ⟨oL, hoL, I.free⟩ hs, by simpa using I.len⟩
  · exact (hs.2 b (Nat.ne_of_lt (Nat.lt_of_lt_of_le (Heap.lt_size e) I.ok.above))).trans (I.base.keep b o e n hb hx)
  · obtain ⟨sl, e1⟩ := I.base.slot b o e n hb hx
    exact ⟨sl, (hs.2 b (Nat.ne_of_lt (Nat.lt_of_lt_of_le (Heap.lt_size e) I.ok.above))).trans e1⟩
  · obtain ⟨o', e1⟩ := I.base.there b o e hx
    exact ⟨o', (hs.2 b (Nat.ne_of_lt (Nat.lt_of_lt_of_le (Heap.lt_size e) I.ok.above))).trans e1⟩
  · by_cases hj : j = i
    · subst hj
      rw [List.getElem?_set_self hiσ] at e2
      cases e2
    · rw [List.getElem?_set_ne (Ne.symm hj)] at e2
      obtain ⟨u', r', q⟩ := hl j y v' e1 e2 e3
      refine ⟨u', r', ?_⟩
      rcases q with ⟨k, e⟩ | ⟨k, c, e, z⟩
      · refine .inl ⟨k, ?_⟩
        have : y ≠ n := fun e => hj (nodup_ix hN e1 (e ▸ hi))
        simp [this, e]
      · exact .inr ⟨k, c, e, z.sameBut hs (cne y c e)⟩
  · obtain ⟨w', z⟩ := I.cell y c e
    exact ⟨w', z.sameBut hs (cne y c e)⟩
  · obtain ⟨e, n, ne, nf, d⟩ := I.pin p hp
    exact ⟨(hs.2 p.1 ne).trans e, n, ne, nf, d⟩
/-- a call in a try, and the suite behind it; st: what becomes of the call's value -/
noncomputable def tTry (K : Fg) (Pc : Addr) (i : Nat) (sp : Sp) (st : V → L2.St → L2.St) (ta : TA) (ts : Addr → TS) : TS := fun D σ H => ta σ H fun vs H1 => sp vs H1 (fun v H2 => D.nx (st v σ) H2)
  (fun cls _ H2 => ∃ C, cls = .ref C ∧ PySem.W.kitCls K (.ref C) (.ref Pc) = some true ∧ (Kp H1 H2 → ∀ ea ob, H2 ea = none → ob.cls = .ref C →
    ts ea { nx := fun σ' H' => D.nx (σ'.set i none) H', rt := fun _ _ => False, bk := fun _ _ => False, ct := fun _ _ => False } (σ.set i (some (.ref ea))) (upd H2 ea (.frz ob (.own 0)))))
variable {k : Nat} {f : Addr} {fd : FuncData} {ps : List Str} {sp : Sp} {fx n x : Str} {i : Nat} {Pc : Addr} {e : Expr} {es : List Expr} {b₀ : Stmt} {suite : List Stmt} {p cpos np hpos pos epos : Pos} {ta : TA} {ts : Addr → TS}
theorem try_call {st : V → L2.St → L2.St} {QV : Value → Shared → Prop} {D : Ends} (F : FnOk X.prog X.w X.K X.mg X.base (CXn X.prog X.w) k f fd ps sp) (hr : Room k X.A) (hgf : Gl X fx) (hmf : X.mg fx = some (.ref f)) (hkf : PySem.W.keepIn X.K (.ref f) = true) (hb : Binds X.K fd ps []) (ha : PA X (e :: es) ta)
    (hsu : ∀ ea, PSs (mark X (.ref ea)) (b₀ :: suite) (ts ea))
    (hN : X.N.Nodup) (hi : X.N[i]? = some n) (hloc : X.env.scope.names.lookup n = some .local) (hg : Gl X x) (hm : X.mg x = some (.ref Pc)) (hd : (x == ("__debug__" : Str)) = false)
    (k2 : PySem.W.kitCls X.K (.ref Pc) (.type "BaseException") = some true) (k3 : PySem.W.kitCls X.K (.type "type") (.type "tuple") = some false) (hst : X.stack = X.env :: X.outer) (hfr : X.env.frame = some X.env.locals)
    (hxe : ∀ v s, X.xe v s → False)
    (hdb : (fx == ("__debug__" : Str)) = false) (he : starEach (e :: es) X.env = (false, eval e X.env) :: starEach es X.env) (hpl : (backTo cpos (starEach es X.env)).any (·.1) = false)
    (I : Inv X pins σ H s) (h : tTry X.K Pc i sp st ta ts D σ H) (kv : ∀ v u H2 s2, RelV v u → Inv X pins σ H2 s2 → D.nx (st v σ) H2 → QV u s2) :
    wpAny (model X.prog X.w) X.A (eval (.Call (.Name fx p) (e :: es) [] cpos) X.env) QV
      (fun ex s₁ => wpAny (model X.prog X.w) X.A (noteFrame ex X.env) (fun _ s₂ => wpAny (model X.prog X.w) X.A (setFlight ex none) (fun _ s₃ => wpAny (model X.prog X.w) X.A (handleBy ex X.env [.ExceptHandler (some (.Name x np)) (some n) (b₀ :: suite) hpos]) (SP X pins D) X.xe s₃) X.xe s₂) X.xe s₁) s := by
  refine wpAny_Call_Name_kw (ld_glob I hgf hmf ?_ hdb)
  refine PySem.W.callWith_K (h₀ := X.base) I.ok.mod.kin hkf (wpAny_mono (ha cpos pins s σ H _ I h) (fun us s1 ⟨vs, H1, I1, r, q⟩ => ⟨I1.kIn, ?_⟩) fun _ _ z => (hxe _ _ z).elim) he hpl
  have hl : (us ++ []).length = ps.length := by rw [List.append_nil, ← r.length]; exact F.len _ _ _ _ q
  have hbb := hb s1 us I1.kIn hl
  rw [List.append_nil] at hbb
  refine wpAny_call (codeAny_mono (F.run X.A X.stack s1 H1 ⟨us, []⟩ us vs _ _ hr I1.env0 hbb r q) fun rr s' hq => ?_)
  cases rr with
  | error ex =>
    dsimp only [CR] at hq
    refine catch_as I1 hst hfr hq hN hi hloc hg hm hd (fun cls H' hE => ?_) k2 k3 fun ea C H' ob s6 hkp hE hea hob I6 => ?_
    · obtain ⟨C, e1, e2, _⟩ := hE
      exact ⟨C, e1, e2⟩
    · obtain ⟨C', e1, e2, e3⟩ := hE
      cases e1
      refine wpAny_mono (hsu ea pins s6 _ _ _ I6 (e3 hkp ea ob hea hob)) (fun fl s4 z => ?_) fun _ _ z => z
      cases fl with
      | next =>
        obtain ⟨σ', H4, I4, q4⟩ := z
        exact goes_ok (inv_unmark I1.ok I4) hN hi hloc fun s5 I5 => ⟨_, H4, I5, q4⟩
      | brk => obtain ⟨_, _, _, z⟩ := z; exact z.elim
      | cont => obtain ⟨_, _, _, z⟩ := z; exact z.elim
      | ret _ => obtain ⟨_, _, _, _, _, z⟩ := z; exact z.elim
  | ok fl =>
    cases fl with
    | ret u =>
      obtain ⟨v, H2, I2, rv, q2⟩ := I1.after hq
      exact kv v u H2 _ rv I2 q2
    | next => exact False.elim hq
    | brk => exact False.elim hq
    | cont => exact False.elim hq
/-- try: f(..) except C as n: suite -/
theorem ps_tryE (F : FnOk X.prog X.w X.K X.mg X.base (CXn X.prog X.w) k f fd ps sp) (hr : Room k X.A) (hgf : Gl X fx) (hmf : X.mg fx = some (.ref f)) (hkf : PySem.W.keepIn X.K (.ref f) = true) (hb : Binds X.K fd ps []) (ha : PA X (e :: es) ta)
    (hsu : ∀ ea, PSs (mark X (.ref ea)) (b₀ :: suite) (ts ea))
    (hN : X.N.Nodup) (hi : X.N[i]? = some n) (hloc : X.env.scope.names.lookup n = some .local) (hg : Gl X x) (hm : X.mg x = some (.ref Pc)) (hd : (x == ("__debug__" : Str)) = false)
    (k2 : PySem.W.kitCls X.K (.ref Pc) (.type "BaseException") = some true) (k3 : PySem.W.kitCls X.K (.type "type") (.type "tuple") = some false) (hst : X.stack = X.env :: X.outer) (hfr : X.env.frame = some X.env.locals)
    (hxe : ∀ v s, X.xe v s → False)
    (hdb : (fx == ("__debug__" : Str)) = false) (he : starEach (e :: es) X.env = (false, eval e X.env) :: starEach es X.env) (hpl : (backTo cpos (starEach es X.env)).any (·.1) = false)
    (hs : swapsWith (.Call (.Name fx p) (e :: es) [] cpos) none epos.line X.env = pure false) :
    PS X (.Try [.Expr (.Call (.Name fx p) (e :: es) [] cpos) epos] [.ExceptHandler (some (.Name x np)) (some n) (b₀ :: suite) hpos] [] [] pos) (tTry X.K Pc i sp (fun _ σ => σ) ta ts) := by
  intro pins s σ H D I h
  refine wpAny_Try_except (wpAny_execs_cons (wpAny_Expr_any ?_ I.quiet hs))
  exact try_call F hr hgf hmf hkf hb ha hsu hN hi hloc hg hm hd k2 k3 hst hfr hxe hdb he hpl I h (fun v u H2 s2 rv I2 q => wpAny_execs_nil (wpAny_execs_nil ⟨σ, H2, I2, q⟩))
end
end Pv

namespace Pv
open PySem PySem.Spec PyProof.Rows L2 PySem.Calls
theorem RSt.unset {K : Fg} {H : Hp} {ρ : St3} {σ : L2.St} (i : Nat) (s : RSt K H ρ σ) : RSt K H (ρ.set i none) (σ.set i none) := by
  refine ⟨by simp [s.len], fun j e h => ?_⟩
  rw [getI_set] at h
  split at h
  · cases h
  · next c =>
    obtain ⟨v, h1, r⟩ := s.at' j e h
    by_cases hj : i = j
    · exfalso
      apply c
      refine ⟨hj, ?_⟩
      rw [s.len, hj]
      exact (List.getElem?_eq_some_iff.mp h1).1
    · exact ⟨v, by rw [List.getElem?_set_ne hj]; exact h1, r⟩
theorem RelM.newF {K : Fg} {μ : Mu} {H : Hp} (m : RelM K μ H) {p : Addr} {o : HO} (h : H p = none) : RelM K μ (upd H p o) := m.newT h
section
variable {X : Cx} {k : Nat} {ps : List Str} {spx : XE3 → Sp3} {fx n x : Str} {i : Nat} {Pc : Addr} {e : Expr} {es : List Expr} {b₀ : Stmt} {suite : List Stmt} {p cpos np hpos pos epos : Pos} {ta : TA3} {ts : TS3} {ok : Str → Bool}
theorem rd_try {f : Addr} {va : TA} {tv : Addr → TS} {st : V → L2.St → L2.St} {st3 : D → St3 → St3} (hstp : ∀ {H : Hp} {ρ : St3} {σ : L2.St} {d : D} {v : V}, RSt X.K H ρ σ → RelD X.K H d v → RSt X.K H (st3 d ρ) (st v σ))
    (ra : RdA X.K va ta) (rt : ∀ ea, RdS X.K (tv ea) ts) (hok : ∀ c, ok c = true → ∃ C, PySem.W.nsIn X.K mainGlobals c = some (some (.ref C)) ∧ X.mg c = some (.ref C) ∧ PySem.W.kitCls X.K (.ref C) (.ref Pc) = some true) :
    RdS X.K (tTry X.K Pc i (liftX X.K X.mg spx) st va tv) (try3 i spx st3 ok ta ts) := by
  intro σ H D ρ μ D3 s m h kd
  refine ra σ H _ ρ μ _ s m h fun ds μ1 vs H1 h1 k1 r1 m1 => ?_
  refine ⟨ds, μ1, _, _, r1, m1, h1, fun d μ2 v H2 h2 k2 r2 m2 => ?_, fun c C μ2 H2 hX hmc m2 => ?_⟩
  · exact kd.nx _ _ _ _ h2 (k1.trans k2) (hstp (s.mono (k1.trans k2)) r2) m2
  · obtain ⟨o1, o2⟩ := hX
    obtain ⟨C', z1, z2, z3⟩ := hok c o1
    rw [hmc] at z2
    cases z2
    refine ⟨C, rfl, z3, fun kp ea ob hea hob => ?_⟩
    have kn : Kp H2 (upd H2 ea (.frz ob (.own 0))) := Kp.new hea
    refine rt ea _ _ _ _ _ _ ((((s.mono (k1.trans kp)).mono kn)).set i (.exc upd_same hob z1)) (m2.newF hea) o2 ⟨fun ρ' μ' σ' H' q k' s' m' => ?_, fun _ _ _ _ q => False.elim q, fun _ _ _ _ q => False.elim q, fun _ _ _ _ q => False.elim q⟩
    exact kd.nx _ _ _ _ q (k1.trans (kp.trans (kn.trans k'))) (s'.unset i) m'
theorem rs_tryE (c : CalX X.prog X.w X.K X.mg X.base k fx ps spx) (hr : Room k X.A) (ha : RA X (e :: es) ta) (hsu : ∀ ea, RSs (mark X (.ref ea)) (b₀ :: suite) ts) (hN : X.N.Nodup)
    (hm : X.mg x = some (.ref Pc)) (k2 : PySem.W.kitCls X.K (.ref Pc) (.type "BaseException") = some true) (k3 : PySem.W.kitCls X.K (.type "type") (.type "tuple") = some false)
    (hok : ∀ c, ok c = true → ∃ C, PySem.W.nsIn X.K mainGlobals c = some (some (.ref C)) ∧ X.mg c = some (.ref C) ∧ PySem.W.kitCls X.K (.ref C) (.ref Pc) = some true)
    (hi : X.N[i]? = some n := by rfl) (hloc : X.env.scope.names.lookup n = some .local := by rfl) (hg : Gl X x := by rfl) (hgf : Gl X fx := by rfl) (hd : (x == ("__debug__" : Str)) = false := by decide)
    (hst : X.stack = X.env :: X.outer := by rfl) (hfr : X.env.frame = some X.env.locals := by rfl) (hxe : ∀ v s, X.xe v s → False := by intro _ _ h; exact h)
    (hdb : (fx == ("__debug__" : Str)) = false := by decide) (he : starEach (e :: es) X.env = (false, eval e X.env) :: starEach es X.env := by rfl) (hpl : (backTo cpos (starEach es X.env)).any (·.1) = false := by rfl)
    (hs : swapsWith (.Call (.Name fx p) (e :: es) [] cpos) none epos.line X.env = pure false := by rfl) :
    RS X (.Try [.Expr (.Call (.Name fx p) (e :: es) [] cpos) epos] [.ExceptHandler (some (.Name x np)) (some n) (b₀ :: suite) hpos] [] [] pos) (try3 i spx keepSt ok ta ts) := by
  obtain ⟨f, fd, F, hmf, hkf, hb⟩ := c
  obtain ⟨va, pa, ra⟩ := ha
  exact ⟨_, ps_tryE F hr hgf hmf hkf hb pa (ts := fun ea => (hsu ea).choose) (fun ea => (hsu ea).choose_spec.1) hN hi hloc hg hm hd k2 k3 hst hfr hxe hdb he hpl hs, rd_try (f := f) (fun s _ => s) ra (fun ea => (hsu ea).choose_spec.2) hok⟩
end
end Pv

namespace Pv
open PySem PySem.Spec PyProof.Rows L2 PySem.Calls
/-- room for a call while an exception is handled -/
structure RoomM (k : Nat) (A : Around) : Prop where
  dp : A.depth + 3 * k + 5 < recursionLimit
  un : A.units + 16 * k + 200 < cLine
theorem RoomM.mono {j k : Nat} {A : Around} (r : RoomM k A) (h : j ≤ k) : RoomM j A := ⟨by have := r.dp; omega, by have := r.un; omega⟩
theorem RoomM.deeper {k : Nat} {A : Around} (r : RoomM (k + 1) A) (env : Env) : RoomM k (A.deeper env) :=
  ⟨by have := r.dp; show A.depth + 1 + 3 * k + 5 < _; omega, by have := r.un; show A.units + 3 + 16 * k + 200 < _; omega⟩
theorem RoomM.of {k : Nat} {A : Around} (r : Room k A) (e : Option Value) : RoomM k (A.mark e) := ⟨r.dp, r.un⟩
structure FnOkM (P : Program) (w : World) (K : PySem.W.Frag) (mg : Str → Option Value) (base : Heap) (CX : CXT) (k : Nat) (f : Addr) (fd : FuncData) (ps : List Str) (sp : Sp) : Prop where
  len : ∀ vs H Q E, sp vs H Q E → vs.length = ps.length
  run : ∀ (A : Around) (outer : List Env) (s : Shared) (H : Hp) (args : Args) (us : List Value) (vs : List V) (Q : VK) (E : XK), RoomM k A → Env0 P w K mg base A outer s H → BindsTo s fd args (ps.zip us) → Vals vs us → sp vs H Q E →
    codeAny (model P w) A (.call (.ref f) args) (CR CX outer P w H s Q E) s
noncomputable abbrev cxM (CX : CXT) (P : Program) (w : World) (K : PySem.W.Frag) (mg : Str → Option Value) (base : Heap) (N : List Str) (qual : Str) (scope : Scope) (f : Addr) (cd : Value) (A : Around) (outer : List Env) (s : Shared) (H : Hp) (E : XK) : Cx :=
  { cxOf CX P w K mg base N qual scope f cd A outer s H E with calm := false }
theorem inv_startM {CX : CXT} {P : Program} {w : World} {K : PySem.W.Frag} {mg : Str → Option Value} {base : Heap} {N ps : List Str} {qual : Str} {scope : Scope} {f : Addr} {cd : Value} {A : Around} {outer : List Env} {s s1 : Shared} {H : Hp} {E : XK} {us : List Value} {vs : List V}
    (S : FnScope N ps scope) (e0 : Env0 P w K mg base A outer s H) (hl : vs.length = ps.length) (r : Vals vs us)
    (x : InCallC s s.heap.objs.size (bindL (envOfC qual scope s.heap.objs.size f cd).kindOf (ps.zip us) fun _ => none) (cellsFrom (s.heap.objs.size + 1) scope.names []) (bindC (envOfC qual scope s.heap.objs.size f cd).kindOf (ps.zip us) fun _ => none) s1) :
    Inv (cxM CX P w K mg base N qual scope f cd A outer s H E) [] (start N vs) H s1 := by
  have I := inv_start (CX := CX) (P := P) (w := w) (K := K) (mg := mg) (base := base) (E := E) (A := { A with handled := none }) (outer := outer) S rfl ⟨e0.frames, e0.mod, e0.bs, e0.bsz, e0.funs, e0.frf, e0.hok, e0.bare⟩ hl r x
  exact ⟨⟨I.ok.mod, I.ok.kind, I.ok.glob, I.ok.blt, I.ok.above, I.ok.inj, I.ok.has, I.ok.cab, (fun z => Bool.noConfusion z), Around.frames_deeper e0.frames, I.ok.stk, I.ok.exf, I.ok.bs, I.ok.bsz, I.ok.noex, I.ok.exfs, I.ok.funs, I.ok.frf⟩, I.os, I.bare, I.base, I.loc, I.cell, I.free, I.freeC, I.pin, I.hok, I.len⟩
theorem fn_ofM {CX : CXT} {P : Program} {w : World} {K : PySem.W.Frag} {mg : Str → Option Value} {base : Heap} {k : Nat} {f : Addr} {name qual : Str} {params : Arguments} {body : List Stmt} {scope : Scope} {dV kV doc pm cdv ct oc : Value} {an od : Option Addr}
    {osl : Array (Option Value)} {N ps : List Str} {sp : Sp} (lk : K.lookup f = some ⟨oc, od, .func (PySem.W.fnOf name qual params body scope dV kV doc pm an cdv ct), osl⟩) (hcd : PySem.W.codeIn K cdv qual = true) (S : FnScope N ps scope)
    (len : ∀ vs H Q E, sp vs H Q E → vs.length = ps.length)
    (hbody : ∀ (A : Around) (outer : List Env) (s : Shared) (H : Hp) (vs : List V) (Q : VK) (E : XK), RoomM k (A.deeper (envOfC qual scope s.heap.objs.size f cdv)) → sp vs H Q E →
      ∃ t, PSs (cxM CX P w K mg base N qual scope f cdv A outer s H E) body t ∧ t { nx := fun _ H' => Q .non H', rt := Q } (start N vs) H) :
    FnOkM P w K mg base CX (k + 1) f (PySem.W.fnOf name qual params body scope dV kV doc pm an cdv ct) ps sp := by
  refine ⟨len, fun A outer s H args us vs Q E hr e0 hb r hsp => ?_⟩
  have hl := len _ _ _ _ hsp
  have KX : K.In s.heap := e0.mod.kin.keeps fun b o e => (e0.bs b o e).1
  have lim : s.heap.NoLimit := e0.mod.nolimit.keeps fun b o e => (e0.bs b o e).1
  have hkind : ∀ y ∈ ps.zip us, scope.names.lookup y.1 = some .local ∨ (scope.names.lookup y.1 = some .cell ∧ ((cellsFrom (s.heap.objs.size + 1) scope.names []).lookup y.1).isSome = true) := fun ⟨n, v⟩ hy => by
    rcases S.par n (List.of_mem_zip hy).1 with q | q
    · exact .inl q
    · exact .inr ⟨q, PySem.W.cellsFrom_some _ _ _ (.inl q)⟩
  have hdep : A.depth < recursionLimit := by have := hr.dp; omega
  refine codeAny_call_function hdep (KX _ _ lk) rfl S.co S.gen rfl (PySem.W.codeRec_of KX hcd) (hb _ _ _ _ ?_)
  refine wpAny_newFunctionEnv_cells S.kind hkind fun env he s1 x => ?_
  subst he
  refine ⟨lim.keeps x.toInCall.keep, codeAny_func ?_⟩
  obtain ⟨t, ht, hq⟩ := hbody A outer s H vs Q E (hr.deeper _) hsp
  have I : Inv (cxM CX P w K mg base N qual scope f cdv A outer s H E) [] (start N vs) H s1 := inv_startM S e0 hl r x
  refine wpAny_mono (ht [] s1 (start N vs) H _ I hq) (fun fl s' hs => ?_) fun e s' hs => hs
  have fin : ∀ {σ' : L2.St} {H' : Hp} {v : V} {u : Value}, Inv (cxM CX P w K mg base N qual scope f cdv A outer s H E) [] σ' H' s' → RelV v u → Q v H' → CE outer P w H s Q u s' :=
    fun {σ' H' v u} J rv q => ⟨v, H', J.os, J.bare, J.base, J.hok, rv, q⟩
  cases fl with
  | ret u =>
    obtain ⟨v, σ', H', J, rv, q⟩ := hs
    exact fin J rv q
  | next =>
    obtain ⟨σ', H', J, q⟩ := hs
    exact fin (v := V.non) (u := Value.none) J rfl q
  | brk =>
    obtain ⟨_, _, _, q⟩ := hs
    exact False.elim q
  | cont =>
    obtain ⟨_, _, _, q⟩ := hs
    exact False.elim q
noncomputable def CalM (P : Program) (w : World) (K : Fg) (mg : Str → Option Value) (base : Heap) (k : Nat) (x : Str) (ps : List Str) (sp : Sp3) : Prop :=
  ∃ f fd, FnOkM P w K mg base CX0 k f fd ps (lift K sp) ∧ mg x = some (.ref f) ∧ PySem.W.keepIn K (.ref f) = true ∧ Binds K fd ps []
theorem CalM.mono {P : Program} {w : World} {K : Fg} {mg : Str → Option Value} {base : Heap} {j k : Nat} {x : Str} {ps : List Str} {sp : Sp3} (c : CalM P w K mg base j x ps sp) (h : j ≤ k) : CalM P w K mg base k x ps sp := by
  obtain ⟨f, fd, F, r⟩ := c
  exact ⟨f, fd, ⟨F.len, fun A outer s H args us vs Q E hr => F.run A outer s H args us vs Q E (hr.mono h)⟩, r⟩
section
variable {X : Cx} {x : Str} {e : Expr} {es : List Expr} {p pos : Pos} {t : TA3}
theorem re_callM {k : Nat} {ps : List Str} {sp : Sp3} (c : CalM X.prog X.w X.K X.mg X.base k x ps sp) (hr : RoomM k X.A) (ha : RA X (e :: es) t) (hg : Gl X x := by rfl) (hdb : (x == ("__debug__" : Str)) = false := by decide)
    (he : starEach (e :: es) X.env = (false, eval e X.env) :: starEach es X.env := by rfl) (hpl : (backTo pos (starEach es X.env)).any (·.1) = false := by rfl) : RE X (.Call (.Name x p) (e :: es) [] pos) (call3 sp t) := by
  obtain ⟨f, fd, F, hm, hk, hb⟩ := c
  obtain ⟨va, pa, ra⟩ := ha
  refine ⟨tCall (lift X.K sp) [] E0 va, fun pins s σ H Q I h => ?_, fun σ H Q ρ μ Q3 s m h k => ra σ H _ ρ μ _ s m h fun ds μ1 vs H1 h1 k1 r1 m1 => ?_⟩
  · refine wpAny_Call_Name_kw (ld_glob I hg hm ?_ hdb)
    refine PySem.W.callWith_K (h₀ := X.base) I.ok.mod.kin hk (thn (pa pos pins s σ H _ I h) fun us s1 ⟨vs, H1, I1, r, q⟩ => ⟨I1.kIn, ?_⟩) he hpl
    dsimp only at q
    rw [List.append_nil] at q
    have hl : (us ++ []).length = ps.length := by rw [List.append_nil, ← r.length]; exact F.len _ _ _ _ q
    have hbb := hb s1 us I1.kIn hl
    rw [List.append_nil] at hbb
    refine wpAny_call (codeAny_mono (F.run X.A X.stack s1 H1 ⟨us, []⟩ us vs Q E0 hr I1.env0 hbb r q) fun rr s' hq => ?_)
    cases rr with
    | error ex => exact False.elim hq
    | ok fl =>
      cases fl with
      | ret u => exact I1.after hq
      | next => exact False.elim hq
      | brk => exact False.elim hq
      | cont => exact False.elim hq
  · rw [List.append_nil]
    exact ⟨ds, μ1, Q3, r1, m1, h1, k.after k1⟩
end
section
variable {P : Program} {w : World} {K : Fg} {mg : Str → Option Value} {base : Heap}
theorem calM_of {x : Str} {st : Stmt} {f : Addr} {fd : FuncData} {N ps : List Str} {k : Nat} {sp : Sp3} {t : TS3} (F : Fun K x x st f fd) (hm : mg x = some (.ref f)) (hb : Binds K fd ps []) (S : FnScope N ps (defScope st))
    (len : ∀ ds μ Q, sp ds μ Q → ds.length = ps.length)
    (body : ∀ (cdv : Value) (A : Around) (outer : List Env) (s : Shared) (H : Hp) (E : XK), RoomM k (A.deeper (envOfC x (defScope st) s.heap.objs.size f cdv)) → RSs (cxM CX0 P w K mg base N x (defScope st) f cdv A outer s H E).nox (defBody st) t)
    (rd : ∀ ds μ Q, sp ds μ Q → t { nx := fun _ μ' => Q .non μ', rt := Q } (start3 N ds) μ) : CalM P w K mg base (k + 1) x ps sp := by
  refine ⟨f, fd, ?_, hm, F.kp, hb⟩
  obtain ⟨oc, od, kV, doc, pm, an, cdv, ct, osl, rfl, lk, hcd⟩ := F.ex
  refine fn_ofM lk hcd S (fun vs H Q E h => ?_) fun A outer s H vs Q E hr h => ?_
  · obtain ⟨ds, μ, Q3, r, m, q, ks⟩ := h
    rw [← r.length]; exact len _ _ _ q
  · obtain ⟨ds, μ, Q3, r, m, q, ks⟩ := h
    obtain ⟨tv, p, rt⟩ := body cdv A outer s H E hr
    exact ⟨tv, p.nox, rt _ H _ _ μ _ (RSt.start N r) m (rd ds μ Q3 q) ⟨fun ρ μ' σ H' h' k' s' m' => ks _ _ _ _ h' k' .non m', fun ρ μ' σ H' h' => False.elim h', fun ρ μ' σ H' h' => False.elim h', ks⟩⟩
end
end Pv

namespace Pv
open PySem PySem.Spec PyProof.Rows L2 PySem.Calls
theorem own_mk {K : Fg} {h : Heap} {mg : Str → Option Value} {x : Str} {C : Addr} {bs : List Value} {ni : String} (Z : K.In h) (G : h.Ns mainGlobals mg) (e : PySem.W.nsIn K mainGlobals x = some (some (.ref C))) (w : PySem.W.excIn K C bs ni = true) : OwnCls x C bs ni mg h := by
  refine ⟨PySem.W.mg_of Z G e, ?_⟩
  unfold PySem.W.excIn at w
  split at w
  case h_2 => cases w
  case h_1 d1 c1 s1 ho =>
    split at w
    case h_2 => cases w
    case h_1 C2 b1 z0 z1 z2 z3 id z5 hm hs =>
      simp only [Bool.and_eq_true, beq_iff_eq, Bool.not_eq_true'] at w
      obtain ⟨⟨⟨⟨⟨w1, w2⟩, w3⟩, w4⟩, w5⟩, w6⟩ := w
      subst w1 w2
      cases c1
      dsimp only at hm w3 w5 w6
      subst hm w3
      have es : s1 = #[z0, z1, z2, z3, some (.builtin id), z5] := by cases s1; simp only at hs; rw [hs]
      rw [es] at ho
      exact ⟨b1, _, _, _, _, _, _, _, _, _, d1, z0, z1, z2, z3, z5, _, Z _ _ ho, .of_isNs (PySem.W.isNs_of_in Z w5), PySem.W.nsMap_none_of_in Z w5 w6, PySem.W.tail_of_in Z w4⟩
theorem calX_zero {P : Program} {w : World} {K : Fg} {mg : Str → Option Value} {base : Heap} {x : Str} {st : Stmt} {f : Addr} {fd : FuncData} {ps : List Str} {spx : XE3 → Sp3} (F : Fun K x x st f fd) (hm : mg x = some (.ref f)) (hb : Binds K fd ps []) (no : ∀ XE ds μ Q, ¬ spx XE ds μ Q) : CalX P w K mg base 0 x ps spx := by
  have no' : ∀ vs H Q E, ¬ liftX K mg spx vs H Q E := fun vs H Q E ⟨ds, μ, Q3, XE, _, _, q, _⟩ => no _ _ _ _ q
  exact ⟨f, fd, ⟨fun vs H Q E h => absurd h (no' vs H Q E), fun A outer s H args us vs Q E _ _ _ _ h => absurd h (no' vs H Q E)⟩, hm, F.kp, hb⟩
theorem re_callX0 {X : Cx} {k : Nat} {ps : List Str} {spx : XE3 → Sp3} {x : Str} {e : Expr} {es : List Expr} {p pos : Pos} {t : TA3} (c : CalX X.prog X.w X.K X.mg X.base k x ps spx) (hr : Room k X.A)
    (ha : RA X (e :: es) t) (hg : Gl X x := by rfl) (hdb : (x == ("__debug__" : Str)) = false := by decide)
    (he : starEach (e :: es) X.env = (false, eval e X.env) :: starEach es X.env := by rfl) (hpl : (backTo pos (starEach es X.env)).any (·.1) = false := by rfl) :
    RE X (.Call (.Name x p) (e :: es) [] pos) (call3 (spx NX) t) := by
  obtain ⟨g, fd, F, hm, hk, hb⟩ := c
  obtain ⟨va, pa, ra⟩ := ha
  have ps : Passes (CXn X.prog X.w) X (fun _ _ _ => False) := fun pins σ H s e s' I h => by
    obtain ⟨_, _, _, _, _, _, _, _, _, _, _, _, _, _, hE⟩ := h
    exact hE.elim
  refine ⟨_, pe_call F hr hg hm hk hb .nil ps pa hdb he hpl, fun σ H Q ρ μ Q3 s m h k => ra σ H _ ρ μ _ s m h fun ds μ1 vs H1 h1 k1 r1 m1 => ?_⟩
  rw [List.append_nil]
  exact ⟨ds, μ1, Q3, NX, r1, m1, h1, k.after k1, fun _ _ _ _ h => False.elim h⟩
section
variable {K : Fg} {C : Addr} {cd : ClassData} {t c : Value} {b : Bool} {T : String}
theorem kitC_ref (cl : PySem.W.clsIn K C = some cd) (tc : PySem.W.typeIn K (.ref C) = some (.type "type")) (sb : PySem.W.subIn K t (.ref C) = some b) : PySem.W.kitCls K t (.ref C) = some b := by
  unfold PySem.W.kitCls
  dsimp only
  rw [cl, tc, if_pos (by simp), sb]
theorem kitC_ty (hm : PySem.W.kitMeta T = true) (sb : PySem.W.subIn K t (.type T) = some b) : PySem.W.kitCls K t (.type T) = some b := by
  unfold PySem.W.kitCls
  dsimp only
  rw [if_pos hm, sb]
theorem kitO_of (ne : (t == c) = false) (h : PySem.W.kitCls K t c = some b) : PySem.W.kitOne K t c = some b := by
  unfold PySem.W.kitOne
  rw [if_neg (by rw [ne]; decide), h]
theorem kitO_same : PySem.W.kitOne K t t = some true := by
  unfold PySem.W.kitOne
  rw [if_pos (by simp)]
end
theorem bz_ValueError : bootBuiltins "ValueError" = some (.type "ValueError") := by decide +kernel
end Pv

namespace Mw
/-- a pen -/
noncomputable abbrev Pen := Int × Int × Int
noncomputable def cs (h : Int) : Int := if h = 0 then 1 else if h = 2 then -1 else 0
noncomputable def sn (h : Int) : Int := if h = 1 then 1 else if h = 3 then -1 else 0
noncomputable def led (p q : Pen) : Pen := (p.1 + q.1 * cs p.2.2 - q.2.1 * sn p.2.2, p.2.1 + q.1 * sn p.2.2 + q.2.1 * cs p.2.2, (p.2.2 + q.2.2) % 4)
noncomputable def st : Pen := (0, 0, 0)
noncomputable def Hd (p : Pen) : Prop := p.2.2 = 0 ∨ p.2.2 = 1 ∨ p.2.2 = 2 ∨ p.2.2 = 3
theorem hd_st : Hd st := .inl rfl
theorem hd_led (p q : Pen) : Hd (led p q) := by
  unfold Hd led
  have h1 := Int.emod_nonneg (p.2.2 + q.2.2) (show (4 : Int) ≠ 0 by decide)
  have h2 := Int.emod_lt_of_pos (p.2.2 + q.2.2) (show (0 : Int) < 4 by decide)
  dsimp only
  omega
theorem led_st {p : Pen} (h : Hd p) : led p st = p := by
  obtain ⟨x, y, k⟩ := p
  unfold Hd at h
  dsimp only at h
  rcases h with rfl | rfl | rfl | rfl <;> simp [led, st, cs, sn]
theorem st_led {p : Pen} (h : Hd p) : led st p = p := by
  obtain ⟨x, y, k⟩ := p
  unfold Hd at h
  dsimp only at h
  rcases h with rfl | rfl | rfl | rfl <;> simp [led, st, cs, sn]
theorem cs_add {a b : Int} (h : a = 0 ∨ a = 1 ∨ a = 2 ∨ a = 3) (h' : b = 0 ∨ b = 1 ∨ b = 2 ∨ b = 3) : cs ((a + b) % 4) = cs a * cs b - sn a * sn b := by
  rcases h with rfl | rfl | rfl | rfl <;> rcases h' with rfl | rfl | rfl | rfl <;> rfl
theorem sn_add {a b : Int} (h : a = 0 ∨ a = 1 ∨ a = 2 ∨ a = 3) (h' : b = 0 ∨ b = 1 ∨ b = 2 ∨ b = 3) : sn ((a + b) % 4) = sn a * cs b + cs a * sn b := by
  rcases h with rfl | rfl | rfl | rfl <;> rcases h' with rfl | rfl | rfl | rfl <;> rfl
theorem led_assoc {p q : Pen} (r : Pen) (h : Hd p) (h' : Hd q) : led (led p q) r = led p (led q r) := by
  have e1 := cs_add h h'
  have e2 := sn_add h h'
  have e3 : ∀ a b c : Int, ((a + b) % 4 + c) % 4 = (a + (b + c) % 4) % 4 := fun a b c => by rw [Int.emod_add_emod, Int.add_emod_emod, Int.add_assoc]
  refine Prod.ext ?_ (Prod.ext ?_ (e3 _ _ _))
  · show p.1 + q.1 * cs p.2.2 - q.2.1 * sn p.2.2 + r.1 * cs ((p.2.2 + q.2.2) % 4) - r.2.1 * sn ((p.2.2 + q.2.2) % 4) = p.1 + (q.1 + r.1 * cs q.2.2 - r.2.1 * sn q.2.2) * cs p.2.2 - (q.2.1 + r.1 * sn q.2.2 + r.2.1 * cs q.2.2) * sn p.2.2
    rw [e1, e2]
    grind
  · show p.2.1 + q.1 * sn p.2.2 + q.2.1 * cs p.2.2 + r.1 * sn ((p.2.2 + q.2.2) % 4) + r.2.1 * cs ((p.2.2 + q.2.2) % 4) = p.2.1 + (q.1 + r.1 * cs q.2.2 - r.2.1 * sn q.2.2) * sn p.2.2 + (q.2.1 + r.1 * sn q.2.2 + r.2.1 * cs q.2.2) * cs p.2.2
    rw [e1, e2]
    grind
/-- n times -/
noncomputable def pw (p : Pen) : Nat → Pen
  | 0 => st
  | n + 1 => led (pw p n) p
theorem hd_pw (p : Pen) : ∀ n, Hd (pw p n)
  | 0 => hd_st
  | n + 1 => hd_led _ _
theorem pw_add {p : Pen} (h : Hd p) (m : Nat) : ∀ n, pw p (m + n) = led (pw p m) (pw p n)
  | 0 => (led_st (hd_pw p m)).symm
  | n + 1 => by
    show led (pw p (m + n)) p = led (pw p m) (led (pw p n) p)
    rw [pw_add h m n, led_assoc p (hd_pw p m) (hd_pw p n)]
theorem pw_mul {p : Pen} (h : Hd p) (m : Nat) : ∀ n, pw p (m * n) = pw (pw p m) n
  | 0 => rfl
  | n + 1 => by
    rw [Nat.mul_succ, pw_add h, pw_mul h m n]
    rfl
theorem pw_four {p : Pen} (h : Hd p) (h0 : p.2.2 ≠ 0) : pw p 4 = st := by
  obtain ⟨x, y, k⟩ := p
  unfold Hd at h
  dsimp only at h h0
  rcases h with rfl | rfl | rfl | rfl
  · exact absurd rfl h0
  all_goals (simp [pw, led, st, cs, sn] <;> omega)
theorem pw_zero {p : Pen} (h0 : p.2.2 = 0) : ∀ n : Nat, pw p n = (p.1 * n, p.2.1 * n, 0)
  | 0 => by simp [pw, st]
  | n + 1 => by
    show led (pw p n) p = _
    rw [pw_zero h0 n]
    obtain ⟨x, y, k⟩ := p
    dsimp only at h0
    subst h0
    simp [led, cs, sn, Int.mul_add]
/-- the program's reckoning of n times -/
noncomputable def rep (p : Pen) (n : Int) : Pen := if p.2.2 = 0 then (p.1 * n, p.2.1 * n, 0) else pw p (n % 4).toNat
theorem pw_mod {p : Pen} (h : Hd p) (h0 : p.2.2 ≠ 0) (n : Nat) : pw p n = pw p (n % 4) := by
  have e : n = 4 * (n / 4) + n % 4 := by omega
  have z : ∀ k, pw st k = st := fun k => by
    induction k with
    | zero => rfl
    | succ k ih => show led (pw st k) st = st; rw [ih]; exact led_st hd_st
  conv => lhs; rw [e]
  rw [pw_add h, pw_mul h, pw_four h h0, z, st_led (hd_pw _ _)]
theorem rep_pw {p : Pen} (h : Hd p) {n : Int} (hn : 0 ≤ n) : rep p n = pw p n.toNat := by
  unfold rep
  by_cases h0 : p.2.2 = 0
  · rw [if_pos h0, pw_zero h0, Int.toNat_of_nonneg hn]
  · rw [if_neg h0, pw_mod h h0 n.toNat]
    congr 1
    omega
theorem hd_rep {p : Pen} (h : Hd p) {n : Int} (hn : 0 ≤ n) : Hd (rep p n) := by rw [rep_pw h hn]; exact hd_pw _ _
/-- a deed -/
inductive Dd where
  | go (n : Int) | jump (n : Int) | turn (n : Int) | times (n : Int) (w : List Dd)
mutual
noncomputable def cnt : Dd → Nat
  | .times _ w => 1 + cnts w
  | _ => 1
noncomputable def cnts : List Dd → Nat
  | [] => 0
  | d :: r => cnt d + cnts r
end
mutual
noncomputable def dep : Dd → Nat
  | .times _ w => 1 + deps w
  | _ => 0
noncomputable def deps : List Dd → Nat
  | [] => 0
  | d :: r => max (dep d) (deps r)
end
noncomputable def G : Int := 99999999999999999999
mutual
noncomputable def okd : Dd → Prop
  | .go n => 0 ≤ n ∧ n ≤ G
  | .jump n => -G ≤ n ∧ n ≤ G
  | .turn n => -G ≤ n ∧ n ≤ G
  | .times n w => (0 ≤ n ∧ n ≤ G) ∧ oks w
noncomputable def oks : List Dd → Prop
  | [] => True
  | d :: r => okd d ∧ oks r
end
mutual
noncomputable def sk : Dd → Int
  | .go n => n
  | .times n w => n * sks w
  | _ => 0
noncomputable def sks : List Dd → Int
  | [] => 0
  | d :: r => sk d + sks r
end
mutual
noncomputable def dn : Dd → Int
  | .times n w => n * dns w
  | _ => 1
noncomputable def dns : List Dd → Int
  | [] => 0
  | d :: r => dn d + dns r
end
mutual
noncomputable def pd : Dd → Pen
  | .go n => (n, 0, 0)
  | .jump n => (n, 0, 0)
  | .turn n => (0, 0, n % 4)
  | .times n w => rep (pb w) n
noncomputable def pb : List Dd → Pen
  | [] => st
  | d :: r => led (pd d) (pb r)
end
theorem cnts_append : ∀ a b, cnts (a ++ b) = cnts a + cnts b
  | [], b => by simp [cnts]
  | d :: r, b => by simp only [List.cons_append, cnts, cnts_append r b]; omega
theorem deps_append : ∀ a b, deps (a ++ b) = max (deps a) (deps b)
  | [], b => by simp [deps]
  | d :: r, b => by simp only [List.cons_append, deps, deps_append r b, Nat.max_assoc]
theorem len_le_cnts : ∀ a, a.length ≤ cnts a
  | [] => Nat.le_refl _
  | d :: r => by
    have h := len_le_cnts r
    have h1 : 1 ≤ cnt d := by cases d <;> simp only [cnt] <;> omega
    simp only [List.length_cons, cnts]
    omega
mutual
theorem hd_pd : ∀ d, okd d → Hd (pd d)
  | .go n, _ => .inl rfl
  | .jump n, _ => .inl rfl
  | .turn n, _ => by
    unfold Hd pd
    have h1 := Int.emod_nonneg n (show (4 : Int) ≠ 0 by decide)
    have h2 := Int.emod_lt_of_pos n (show (0 : Int) < 4 by decide)
    dsimp only
    omega
  | .times n w, h => by
    simp only [pd]
    simp only [okd] at h
    exact hd_rep (hd_pb w) h.1.1
theorem hd_pb : ∀ w, Hd (pb w)
  | [] => by simp only [pb]; exact hd_st
  | d :: r => by simp only [pb]; exact hd_led _ _
end
/-! how great the numbers become -/
theorem G_pos : (0 : Int) < G := by decide
theorem Gp_nn (e : Nat) : (0 : Int) ≤ G ^ e := Int.pow_nonneg (Int.le_of_lt G_pos)
theorem Gp_step (e : Nat) : G ^ e ≤ G ^ (e + 1) := by
  rw [Int.pow_succ]
  have h := Gp_nn e
  have h1 : (1 : Int) ≤ G := by decide
  calc G ^ e = G ^ e * 1 := (Int.mul_one _).symm
    _ ≤ G ^ e * G := Int.mul_le_mul_of_nonneg_left h1 h
theorem Gp_mono {a b : Nat} (h : a ≤ b) : G ^ a ≤ G ^ b := by
  induction b with
  | zero =>
    have : a = 0 := by omega
    subst this; exact Int.le_refl _
  | succ b ih =>
    by_cases hab : a = b + 1
    · subst hab; exact Int.le_refl _
    · exact Int.le_trans (ih (by omega)) (Gp_step b)
noncomputable def bd (c e : Nat) : Int := (c : Int) * G ^ (e + 1)
theorem bd_add {c c' e e' : Nat} : bd c e + bd c' e' ≤ bd (c + c') (max e e') := by
  unfold bd
  have h1 : (c : Int) * G ^ (e + 1) ≤ (c : Int) * G ^ (max e e' + 1) := Int.mul_le_mul_of_nonneg_left (Gp_mono (by omega)) (by omega)
  have h2 : (c' : Int) * G ^ (e' + 1) ≤ (c' : Int) * G ^ (max e e' + 1) := Int.mul_le_mul_of_nonneg_left (Gp_mono (by omega)) (by omega)
  have e3 : ((c + c' : Nat) : Int) * G ^ (max e e' + 1) = (c : Int) * G ^ (max e e' + 1) + (c' : Int) * G ^ (max e e' + 1) := by
    rw [Int.natCast_add, Int.add_mul]
  omega
theorem bd_times {c e : Nat} {n x : Int} (hn : 0 ≤ n) (hn' : n ≤ G) (hx : 0 ≤ x) (h : x ≤ bd c e) : n * x ≤ bd (1 + c) (1 + e) := by
  have h1 : n * x ≤ G * x := Int.mul_le_mul_of_nonneg_right hn' hx
  have h2 : G * x ≤ G * bd c e := Int.mul_le_mul_of_nonneg_left h (Int.le_of_lt G_pos)
  have h3 : G * bd c e = (c : Int) * G ^ (1 + e + 1) := by
    unfold bd
    rw [Int.mul_left_comm, show 1 + e + 1 = (e + 1) + 1 by omega, Int.pow_succ G (e + 1), Int.mul_comm G]
  have h4 : (c : Int) * G ^ (1 + e + 1) ≤ ((1 + c : Nat) : Int) * G ^ (1 + e + 1) := Int.mul_le_mul_of_nonneg_right (by omega) (Gp_nn _)
  unfold bd
  omega
theorem bd_one {c e : Nat} (h : 1 ≤ c) : G ≤ bd c e := by
  unfold bd
  have h1 : (1 : Int) * G ^ 1 ≤ (c : Int) * G ^ (e + 1) := Int.le_trans (Int.mul_le_mul_of_nonneg_right (by omega) (Gp_nn 1)) (Int.mul_le_mul_of_nonneg_left (Gp_mono (by omega)) (by omega))
  have h2 : (1 : Int) * G ^ 1 = G := by rw [Int.one_mul, Int.pow_succ, Int.pow_zero, Int.one_mul]
  omega
theorem bd_nn (c e : Nat) : 0 ≤ bd c e := Int.mul_nonneg (by omega) (Gp_nn _)
mutual
theorem sk_bd : ∀ d, okd d → 0 ≤ sk d ∧ sk d ≤ bd (cnt d) (dep d)
  | .go n, h => by
    simp only [okd] at h
    simp only [sk, cnt, dep]
    have := bd_one (c := 1) (e := 0) (Nat.le_refl _)
    omega
  | .jump n, h => by simp only [sk, cnt, dep]; exact ⟨Int.le_refl _, bd_nn _ _⟩
  | .turn n, h => by simp only [sk, cnt, dep]; exact ⟨Int.le_refl _, bd_nn _ _⟩
  | .times n w, h => by
    simp only [okd] at h
    simp only [sk, cnt, dep]
    obtain ⟨a, b⟩ := sks_bd w h.2
    exact ⟨Int.mul_nonneg h.1.1 a, bd_times h.1.1 h.1.2 a b⟩
theorem sks_bd : ∀ w, oks w → 0 ≤ sks w ∧ sks w ≤ bd (cnts w) (deps w)
  | [], h => by simp only [sks, cnts, deps]; exact ⟨Int.le_refl _, bd_nn _ _⟩
  | d :: r, h => by
    simp only [oks] at h
    simp only [sks, cnts, deps]
    obtain ⟨a, b⟩ := sk_bd d h.1
    obtain ⟨a', b'⟩ := sks_bd r h.2
    have := bd_add (c := cnt d) (c' := cnts r) (e := dep d) (e' := deps r)
    omega
end
mutual
theorem dn_bd : ∀ d, okd d → 0 ≤ dn d ∧ dn d ≤ bd (cnt d) (dep d)
  | .go n, h => by
    simp only [dn, cnt, dep]
    have := bd_one (c := 1) (e := 0) (Nat.le_refl _)
    have h1 : (1 : Int) ≤ G := by decide
    omega
  | .jump n, h => by
    simp only [dn, cnt, dep]
    have := bd_one (c := 1) (e := 0) (Nat.le_refl _)
    have h1 : (1 : Int) ≤ G := by decide
    omega
  | .turn n, h => by
    simp only [dn, cnt, dep]
    have := bd_one (c := 1) (e := 0) (Nat.le_refl _)
    have h1 : (1 : Int) ≤ G := by decide
    omega
  | .times n w, h => by
    simp only [okd] at h
    simp only [dn, cnt, dep]
    obtain ⟨a, b⟩ := dns_bd w h.2
    exact ⟨Int.mul_nonneg h.1.1 a, bd_times h.1.1 h.1.2 a b⟩
theorem dns_bd : ∀ w, oks w → 0 ≤ dns w ∧ dns w ≤ bd (cnts w) (deps w)
  | [], h => by simp only [dns, cnts, deps]; exact ⟨Int.le_refl _, bd_nn _ _⟩
  | d :: r, h => by
    simp only [oks] at h
    simp only [dns, cnts, deps]
    obtain ⟨a, b⟩ := dn_bd d h.1
    obtain ⟨a', b'⟩ := dns_bd r h.2
    have := bd_add (c := cnt d) (c' := cnts r) (e := dep d) (e' := deps r)
    omega
end
theorem bd_mono {c c' e e' : Nat} (hc : c ≤ c') (he : e ≤ e') : bd c e ≤ bd c' e' :=
  Int.le_trans (Int.mul_le_mul_of_nonneg_right (by omega) (Gp_nn _)) (Int.mul_le_mul_of_nonneg_left (Gp_mono (by omega)) (by omega))
theorem bd_big : bd 100 10 < 2 ^ 1000 := by decide +kernel
theorem nat_big {x : Int} {c e : Nat} (h0 : 0 ≤ x) (h : x ≤ bd c e) (hc : c ≤ 100) (he : e ≤ 10) : x.natAbs < 2 ^ 1000 := by
  have h1 := Int.le_trans h (bd_mono hc he)
  have h2 := bd_big
  have h3 : ((x.natAbs : Nat) : Int) < ((2 ^ 1000 : Nat) : Int) := by
    rw [Int.natAbs_of_nonneg h0]
    exact Int.lt_of_le_of_lt h1 (by rw [Int.natCast_pow]; exact h2)
  exact Int.ofNat_lt.mp h3
end Mw

namespace Mw
/-! how far a pen comes -/
noncomputable def ab (x : Int) : Int := if x < 0 then -x else x
noncomputable def pm (p : Pen) : Int := max (ab p.1) (ab p.2.1)
theorem pm_le {p : Pen} {b : Int} : pm p ≤ b ↔ (-b ≤ p.1 ∧ p.1 ≤ b) ∧ (-b ≤ p.2.1 ∧ p.2.1 ≤ b) := by
  unfold pm ab
  split <;> split <;> omega
theorem pm_nn (p : Pen) : 0 ≤ pm p := by unfold pm ab; split <;> split <;> omega
theorem pm_led {p q : Pen} (h : Hd p) {a b : Int} (ha : pm p ≤ a) (hb : pm q ≤ b) : pm (led p q) ≤ a + b := by
  rw [pm_le] at ha hb ⊢
  obtain ⟨x, y, k⟩ := p
  obtain ⟨x', y', k'⟩ := q
  unfold Hd at h
  dsimp only at h ha hb
  rcases h with rfl | rfl | rfl | rfl <;> simp [led, cs, sn] <;> omega
theorem pm_pw {p : Pen} {b : Int} (hb : pm p ≤ b) : ∀ n : Nat, pm (pw p n) ≤ n * b
  | 0 => by simp [pw, st, pm, ab]
  | n + 1 => by
    have := pm_led (hd_pw p n) (pm_pw hb n) hb
    show pm (led (pw p n) p) ≤ _
    rw [Int.natCast_add, Int.add_mul]
    omega
theorem pm_rep {p : Pen} (h : Hd p) {n b : Int} (hn : 0 ≤ n) (hb : pm p ≤ b) : pm (rep p n) ≤ (n + 3) * b := by
  have h0 := Int.le_trans (pm_nn p) hb
  unfold rep
  split
  · rw [pm_le] at hb ⊢
    dsimp only
    have e : (n + 3) * b = n * b + 3 * b := Int.add_mul ..
    have a1 : p.1 * n ≤ b * n := Int.mul_le_mul_of_nonneg_right hb.1.2 hn
    have a2 : -b * n ≤ p.1 * n := Int.mul_le_mul_of_nonneg_right hb.1.1 hn
    have a3 : p.2.1 * n ≤ b * n := Int.mul_le_mul_of_nonneg_right hb.2.2 hn
    have a4 : -b * n ≤ p.2.1 * n := Int.mul_le_mul_of_nonneg_right hb.2.1 hn
    have e2 : b * n = n * b := Int.mul_comm ..
    have e3 : -b * n = -(b * n) := Int.neg_mul ..
    omega
  · have h1 := pm_pw hb (n % 4).toNat
    have h2 : (((n % 4).toNat : Nat) : Int) * b ≤ (n + 3) * b := Int.mul_le_mul_of_nonneg_right (by omega) h0
    omega
noncomputable def G2 : Int := 200000000000000000000
noncomputable def pbd (c e : Nat) : Int := (c : Int) * G2 ^ (e + 1)
theorem G2p_nn (e : Nat) : (0 : Int) ≤ G2 ^ e := Int.pow_nonneg (by decide)
theorem G2p_mono {a b : Nat} (h : a ≤ b) : G2 ^ a ≤ G2 ^ b := by
  induction b with
  | zero =>
    have : a = 0 := by omega
    subst this; exact Int.le_refl _
  | succ b ih =>
    by_cases hab : a = b + 1
    · subst hab; exact Int.le_refl _
    · refine Int.le_trans (ih (by omega)) ?_
      rw [Int.pow_succ]
      calc G2 ^ b = G2 ^ b * 1 := (Int.mul_one _).symm
        _ ≤ G2 ^ b * G2 := Int.mul_le_mul_of_nonneg_left (by decide) (G2p_nn b)
theorem pbd_nn (c e : Nat) : 0 ≤ pbd c e := Int.mul_nonneg (by omega) (G2p_nn _)
theorem pbd_mono {c c' e e' : Nat} (hc : c ≤ c') (he : e ≤ e') : pbd c e ≤ pbd c' e' :=
  Int.le_trans (Int.mul_le_mul_of_nonneg_right (by omega) (G2p_nn _)) (Int.mul_le_mul_of_nonneg_left (G2p_mono (by omega)) (by omega))
theorem pbd_add {c c' e e' : Nat} : pbd c e + pbd c' e' ≤ pbd (c + c') (max e e') := by
  have h1 : pbd c e ≤ pbd c (max e e') := pbd_mono (Nat.le_refl _) (by omega)
  have h2 : pbd c' e' ≤ pbd c' (max e e') := pbd_mono (Nat.le_refl _) (by omega)
  have e3 : pbd (c + c') (max e e') = pbd c (max e e') + pbd c' (max e e') := by
    unfold pbd
    rw [Int.natCast_add, Int.add_mul]
  omega
theorem pbd_one : G ≤ pbd 1 0 := by decide
mutual
theorem pm_pd : ∀ d, okd d → pm (pd d) ≤ pbd (cnt d) (dep d)
  | .go n, h => by
    simp only [okd] at h
    simp only [pd, cnt, dep]
    have := pbd_one
    rw [pm_le]; dsimp only; omega
  | .jump n, h => by
    simp only [okd] at h
    simp only [pd, cnt, dep]
    have := pbd_one
    rw [pm_le]; dsimp only; omega
  | .turn n, h => by
    simp only [pd, cnt, dep]
    have := pbd_nn 1 0
    rw [pm_le]; dsimp only; omega
  | .times n w, h => by
    simp only [okd] at h
    simp only [pd, cnt, dep]
    have h1 := pm_rep (hd_pb w) h.1.1 (pm_pb w h.2)
    have h2 : (n + 3) * pbd (cnts w) (deps w) ≤ G2 * pbd (cnts w) (deps w) := Int.mul_le_mul_of_nonneg_right (by have := h.1.2; unfold G at this; unfold G2; omega) (pbd_nn _ _)
    have h3 : G2 * pbd (cnts w) (deps w) = pbd (cnts w) (1 + deps w) := by
      unfold pbd
      rw [Int.mul_left_comm, show 1 + deps w + 1 = (deps w + 1) + 1 by omega, Int.pow_succ G2 (deps w + 1), Int.mul_comm G2]
    have h4 : pbd (cnts w) (1 + deps w) ≤ pbd (1 + cnts w) (1 + deps w) := pbd_mono (by omega) (Nat.le_refl _)
    omega
theorem pm_pb : ∀ w, oks w → pm (pb w) ≤ pbd (cnts w) (deps w)
  | [], h => by simp only [pb, cnts, deps]; exact Int.le_trans (by decide) (pbd_nn _ _)
  | d :: r, h => by
    simp only [oks] at h
    simp only [pb, cnts, deps]
    have := pm_led (hd_pd d h.1) (pm_pd d h.1) (pm_pb r h.2)
    have := pbd_add (c := cnt d) (c' := cnts r) (e := dep d) (e' := deps r)
    omega
end
theorem pbd_big : pbd 100 8 < 2 ^ 1000 := by decide +kernel
theorem pm_big {p : Pen} {c e : Nat} (h : pm p ≤ pbd c e) (hc : c ≤ 100) (he : e ≤ 8) : p.1.natAbs < 2 ^ 1000 ∧ p.2.1.natAbs < 2 ^ 1000 := by
  have h1 := Int.le_trans h (pbd_mono hc he)
  have h2 := pbd_big
  rw [pm_le] at h1
  have key : ∀ x : Int, -(pbd 100 8) ≤ x → x ≤ pbd 100 8 → x.natAbs < 2 ^ 1000 := fun x a b => by
    have h3 : ((x.natAbs : Nat) : Int) < ((2 ^ 1000 : Nat) : Int) := by
      have : ((x.natAbs : Nat) : Int) ≤ pbd 100 8 := by omega
      exact Int.lt_of_le_of_lt this (by rw [Int.natCast_pow]; exact h2)
    exact Int.ofNat_lt.mp h3
  exact ⟨key _ h1.1.1 h1.1.2, key _ h1.2.1 h1.2.2⟩
end Mw

namespace Mt
open PySem Mw
/-! texts as rows of signs -/
noncomputable abbrev cp (x : Str) : List Nat := x.cps.toList
theorem cp_len (x : Str) : x.length = (cp x).length := by simp [Str.length, cp]
/-! numbers as texts -/
noncomputable def ns (n : Int) : Str := Str.ofString (toString n)
noncomputable def dg (m : Nat) : List Nat := (Nat.toDigits 10 m).map Char.toNat
theorem ns_nn {n : Int} (h : 0 ≤ n) : cp (ns n) = dg n.toNat := by
  obtain ⟨m, rfl⟩ := Int.eq_ofNat_of_zero_le h
  exact PySem.W.KIN.signs_num m
theorem ns_neg {n : Int} (h : n < 0) : cp (ns n) = 45 :: dg n.natAbs := by
  cases n with
  | ofNat m => exact absurd h (by simp)
  | negSucc m =>
    unfold ns cp
    rw [PyProof.Rows.signs_ofString]
    show ("-" ++ Nat.repr (m + 1)).toList.map Char.toNat = _
    simp [dg, Nat.toList_repr]
theorem dg_le {k m : Nat} (hk : 1 ≤ k) (h : m < 10 ^ k) : (dg m).length ≤ k := by
  unfold dg
  rw [List.length_map]
  exact PyProof.Rows.digits10_le hk h
theorem ns_len {n : Int} (h : -G ≤ n ∧ n ≤ G) : (cp (ns n)).length ≤ 21 := by
  unfold G at h
  by_cases h0 : 0 ≤ n
  · rw [ns_nn h0]
    exact Nat.le_trans (dg_le (k := 20) (by decide) (by omega)) (by decide)
  · rw [ns_neg (by omega)]
    rw [List.length_cons]
    exact Nat.succ_le_succ (dg_le (k := 20) (by decide) (by omega))
theorem log_ok {n : Int} (h : -G ≤ n ∧ n ≤ G) : n.natAbs.log2 < 1920 := by
  unfold G at h
  by_cases h0 : n.natAbs = 0
  · rw [h0]; decide
  · have : n.natAbs < 2 ^ 70 := by omega
    exact Nat.lt_trans ((Nat.log2_lt h0).mpr this) (by decide)
end Mt

namespace Pv
open PySem
noncomputable abbrev k_MOST_DEEDS : D := .int 30
noncomputable abbrev k_MOST_DEEP : D := .int 4
noncomputable abbrev k_GREATEST_NUMBER : D := .int 99999999999999999999
noncomputable abbrev k_MOST_OF_SMALL : D := .int 400
noncomputable abbrev k_PLAIN_KINDS : D := .tup [.str "go", .str "jump", .str "turn"]
noncomputable abbrev k_KINDS_FROM_NOUGHT : D := .tup [.str "go", .str "times"]
noncomputable abbrev k_START : D := .tup [.int 0, .int 0, .int 0]
noncomputable abbrev k_AHEAD : D := .tup [.tup [.int 1, .int 0], .tup [.int 0, .int 1], .tup [.int (-1), .int 0], .tup [.int 0, .int (-1)]]
noncomputable def xnames : List Str := ["NoWord"]
noncomputable def subX (cls c : Str) : Option Bool := if xnames.contains c then some (cls == c || cls == "PenError" || cls == "ValueError") else none
noncomputable def okX (c : Str) : Bool := xnames.contains c
noncomputable def N_deeds_in : List Str := ["word"]
noncomputable def t_deeds_in (XE : XE3) (spx_checked_count : XE3 → Sp3) : TS3 :=
  (ret3 (call3 (spx_checked_count XE) (cons3 (v3 0) (cons3 (c3 (.int 0)) nil3))))
noncomputable def N_check_word : List Str := ["word"]
noncomputable def t_check_word (XE : XE3) (spx_checked_count : XE3 → Sp3) : TS3 :=
  (drop3 (call3 (spx_checked_count XE) (cons3 (v3 0) (cons3 (c3 (.int 0)) nil3))))
noncomputable def N_checked_count : List Str := ["word", "depth", "count", "deed"]
noncomputable def t_checked_count (XE : XE3) (spx_checked_deed_count : XE3 → Sp3) : TS3 :=
  (seq3 (ifs3 (not3 (b3 (call3 isiR (cons3 (v3 0) (cons3 (c3 (.ty "tuple")) nil3))))) (raise3 XE "NoWord" (cons3 (c3 (.str "a word is a tuple of deeds")) nil3)) next3) (seq3 (ifs3 (b3 (o3 gtR (v3 1) (c3 k_MOST_DEEP))) (raise3 XE "NoWord" (cons3 (c3 (.str "times stand too deep within one another")) nil3)) next3) (seq3 (set3 2 (c3 (.int 0))) (seq3 (for3 (is3 (v3 0)) (gn3 3) (seq3 (set3 2 (o3 addR (v3 2) (call3 (spx_checked_deed_count XE) (cons3 (v3 3) (cons3 (v3 1) nil3))))) (ifs3 (b3 (o3 gtR (v3 2) (c3 k_MOST_DEEDS))) (raise3 XE "NoWord" (cons3 (c3 (.str "a word has too many deeds")) nil3)) next3))) (ret3 (v3 2))))))
noncomputable def N_checked_deed_count : List Str := ["deed", "depth"]
noncomputable def t_checked_deed_count (XE : XE3) (spx_check_number : XE3 → Sp3) (spx_checked_count : XE3 → Sp3) : TS3 :=
  (seq3 (ifs3 (not3 (b3 (call3 isiR (cons3 (v3 0) (cons3 (c3 (.ty "tuple")) nil3))))) (raise3 XE "NoWord" (cons3 (c3 (.str "a deed is a tuple")) nil3)) next3) (seq3 (ifs3 (and3 (b3 (o3 eqR (call3 lenR (cons3 (v3 0) nil3)) (c3 (.int 2)))) (b3 (o3 (inR false) (o3 ixR (v3 0) (c3 (.int 0))) (c3 k_PLAIN_KINDS)))) (seq3 (drop3 (call3 (spx_check_number XE) (cons3 (o3 ixR (v3 0) (c3 (.int 0))) (cons3 (o3 ixR (v3 0) (c3 (.int 1))) nil3)))) (ret3 (c3 (.int 1)))) next3) (seq3 (ifs3 (and3 (b3 (o3 eqR (call3 lenR (cons3 (v3 0) nil3)) (c3 (.int 3)))) (b3 (o3 eqR (o3 ixR (v3 0) (c3 (.int 0))) (c3 (.str "times"))))) (seq3 (drop3 (call3 (spx_check_number XE) (cons3 (o3 ixR (v3 0) (c3 (.int 0))) (cons3 (o3 ixR (v3 0) (c3 (.int 1))) nil3)))) (ret3 (o3 addR (c3 (.int 1)) (call3 (spx_checked_count XE) (cons3 (o3 ixR (v3 0) (c3 (.int 2))) (cons3 (o3 addR (v3 1) (c3 (.int 1))) nil3)))))) next3) (raise3 XE "NoWord" (cons3 (c3 (.str "there is no such deed")) nil3)))))
noncomputable def N_check_number : List Str := ["kind", "number"]
noncomputable def t_check_number (XE : XE3) : TS3 :=
  (seq3 (ifs3 (not3 (b3 (call3 isiR (cons3 (v3 1) (cons3 (c3 (.ty "int")) nil3))))) (raise3 XE "NoWord" (cons3 (c3 (.str "a deed has a whole number")) nil3)) next3) (seq3 (ifs3 (b3 (o3 gtR (call3 absR (cons3 (v3 1) nil3)) (c3 k_GREATEST_NUMBER))) (raise3 XE "NoWord" (cons3 (c3 (.str "a number has too many figures")) nil3)) next3) (ifs3 (and3 (b3 (o3 ltR (v3 1) (c3 (.int 0)))) (b3 (o3 (inR false) (v3 0) (c3 k_KINDS_FROM_NOUGHT)))) (raise3 XE "NoWord" (cons3 (c3 (.str "this deed has a number from nought on")) nil3)) next3)))
noncomputable def N_pen_after : List Str := ["word"]
noncomputable def t_pen_after (XE : XE3) (spx_carried : XE3 → Sp3) : TS3 :=
  (ret3 (call3 (spx_carried XE) (cons3 (c3 k_START) (cons3 (v3 0) nil3))))
noncomputable def N_carried : List Str := ["pen", "word"]
noncomputable def t_carried (XE : XE3) (spx_check_word : XE3 → Sp3) (sp_led : Sp3) (sp_pen_behind : Sp3) : TS3 :=
  (seq3 (drop3 (call3 (spx_check_word XE) (cons3 (v3 1) nil3))) (ret3 (call3 sp_led (cons3 (v3 0) (cons3 (call3 sp_pen_behind (cons3 (v3 1) nil3)) nil3)))))
noncomputable def N_led : List Str := ["pen", "part", "ahead", "x", "y"]
noncomputable def t_led : TS3 :=
  (seq3 (set3 2 (o3 ixR (c3 k_AHEAD) (o3 ixR (v3 0) (c3 (.int 2))))) (seq3 (set3 3 (o3 subR (o3 addR (o3 ixR (v3 0) (c3 (.int 0))) (o3 mulR (o3 ixR (v3 1) (c3 (.int 0))) (o3 ixR (v3 2) (c3 (.int 0))))) (o3 mulR (o3 ixR (v3 1) (c3 (.int 1))) (o3 ixR (v3 2) (c3 (.int 1)))))) (seq3 (set3 4 (o3 addR (o3 addR (o3 ixR (v3 0) (c3 (.int 1))) (o3 mulR (o3 ixR (v3 1) (c3 (.int 0))) (o3 ixR (v3 2) (c3 (.int 1))))) (o3 mulR (o3 ixR (v3 1) (c3 (.int 1))) (o3 ixR (v3 2) (c3 (.int 0)))))) (ret3 (tup3 (cons3 (v3 3) (cons3 (v3 4) (cons3 (o3 modR (o3 addR (o3 ixR (v3 0) (c3 (.int 2))) (o3 ixR (v3 1) (c3 (.int 2)))) (c3 (.int 4))) nil3))))))))
noncomputable def N_pen_behind : List Str := ["word", "pen", "deed"]
noncomputable def t_pen_behind (sp_led : Sp3) (sp_pen_behind_deed : Sp3) : TS3 :=
  (seq3 (set3 1 (c3 k_START)) (seq3 (for3 (is3 (v3 0)) (gn3 2) (set3 1 (call3 sp_led (cons3 (v3 1) (cons3 (call3 sp_pen_behind_deed (cons3 (v3 2) nil3)) nil3))))) (ret3 (v3 1))))
noncomputable def N_pen_behind_deed : List Str := ["deed"]
noncomputable def t_pen_behind_deed (sp_pen_behind : Sp3) (sp_pen_repeated : Sp3) : TS3 :=
  (seq3 (ifs3 (b3 (o3 eqR (o3 ixR (v3 0) (c3 (.int 0))) (c3 (.str "turn")))) (ret3 (tup3 (cons3 (c3 (.int 0)) (cons3 (c3 (.int 0)) (cons3 (o3 modR (o3 ixR (v3 0) (c3 (.int 1))) (c3 (.int 4))) nil3))))) next3) (seq3 (ifs3 (b3 (o3 eqR (o3 ixR (v3 0) (c3 (.int 0))) (c3 (.str "times")))) (ret3 (call3 sp_pen_repeated (cons3 (call3 sp_pen_behind (cons3 (o3 ixR (v3 0) (c3 (.int 2))) nil3)) (cons3 (o3 ixR (v3 0) (c3 (.int 1))) nil3)))) next3) (ret3 (tup3 (cons3 (o3 ixR (v3 0) (c3 (.int 1))) (cons3 (c3 (.int 0)) (cons3 (c3 (.int 0)) nil3)))))))
noncomputable def N_pen_repeated : List Str := ["part", "number", "pen", "doing"]
noncomputable def t_pen_repeated (sp_led : Sp3) : TS3 :=
  (seq3 (ifs3 (b3 (o3 eqR (o3 ixR (v3 0) (c3 (.int 2))) (c3 (.int 0)))) (ret3 (tup3 (cons3 (o3 mulR (o3 ixR (v3 0) (c3 (.int 0))) (v3 1)) (cons3 (o3 mulR (o3 ixR (v3 0) (c3 (.int 1))) (v3 1)) (cons3 (c3 (.int 0)) nil3))))) next3) (seq3 (set3 2 (c3 k_START)) (seq3 (for3 (ir3 (cons3 (o3 modR (v3 1) (c3 (.int 4))) nil3)) (gn3 3) (set3 2 (call3 sp_led (cons3 (v3 2) (cons3 (v3 0) nil3))))) (ret3 (v3 2)))))
noncomputable def N_strokes_drawn : List Str := ["word"]
noncomputable def t_strokes_drawn (XE : XE3) (spx_check_word : XE3 → Sp3) (sp_count_strokes : Sp3) : TS3 :=
  (seq3 (drop3 (call3 (spx_check_word XE) (cons3 (v3 0) nil3))) (ret3 (call3 sp_count_strokes (cons3 (v3 0) nil3))))
noncomputable def N_count_strokes : List Str := ["word"]
noncomputable def t_count_strokes (sp_count_strokes_of_deed : Sp3) : TS3 :=
  (ret3 (call3 sumR (cons3 (comp3 [none] (is3 (v3 0)) (gn3 0) tt3 (call3 sp_count_strokes_of_deed (cons3 (v3 0) nil3))) nil3)))
noncomputable def N_count_strokes_of_deed : List Str := ["deed"]
noncomputable def t_count_strokes_of_deed (sp_count_strokes : Sp3) : TS3 :=
  (seq3 (ifs3 (b3 (o3 eqR (o3 ixR (v3 0) (c3 (.int 0))) (c3 (.str "go")))) (ret3 (o3 ixR (v3 0) (c3 (.int 1)))) next3) (seq3 (ifs3 (b3 (o3 eqR (o3 ixR (v3 0) (c3 (.int 0))) (c3 (.str "times")))) (ret3 (o3 mulR (o3 ixR (v3 0) (c3 (.int 1))) (call3 sp_count_strokes (cons3 (o3 ixR (v3 0) (c3 (.int 2))) nil3)))) next3) (ret3 (c3 (.int 0)))))
noncomputable def N_deeds_done : List Str := ["word"]
noncomputable def t_deeds_done (XE : XE3) (spx_check_word : XE3 → Sp3) (sp_count_done : Sp3) : TS3 :=
  (seq3 (drop3 (call3 (spx_check_word XE) (cons3 (v3 0) nil3))) (ret3 (call3 sp_count_done (cons3 (v3 0) nil3))))
noncomputable def N_count_done : List Str := ["word"]
noncomputable def t_count_done (sp_count_done_of_deed : Sp3) : TS3 :=
  (ret3 (call3 sumR (cons3 (comp3 [none] (is3 (v3 0)) (gn3 0) tt3 (call3 sp_count_done_of_deed (cons3 (v3 0) nil3))) nil3)))
noncomputable def N_count_done_of_deed : List Str := ["deed"]
noncomputable def t_count_done_of_deed (sp_count_done : Sp3) : TS3 :=
  (seq3 (ifs3 (b3 (o3 eqR (o3 ixR (v3 0) (c3 (.int 0))) (c3 (.str "times")))) (ret3 (o3 mulR (o3 ixR (v3 0) (c3 (.int 1))) (call3 sp_count_done (cons3 (o3 ixR (v3 0) (c3 (.int 2))) nil3)))) next3) (ret3 (c3 (.int 1))))
noncomputable def N_is_small : List Str := ["word"]
noncomputable def t_is_small (XE : XE3) (spx_deeds_done : XE3 → Sp3) (spx_strokes_drawn : XE3 → Sp3) : TS3 :=
  (ret3 (andV3 (o3 leR (call3 (spx_strokes_drawn XE) (cons3 (v3 0) nil3)) (c3 k_MOST_OF_SMALL)) (o3 leR (call3 (spx_deeds_done XE) (cons3 (v3 0) nil3)) (c3 k_MOST_OF_SMALL))))
noncomputable def N_shown : List Str := ["word"]
noncomputable def t_shown (XE : XE3) (spx_check_word : XE3 → Sp3) (sp_marks_of : Sp3) : TS3 :=
  (seq3 (drop3 (call3 (spx_check_word XE) (cons3 (v3 0) nil3))) (ret3 (smt3 joinR (c3 (.str " ")) (cons3 (call3 sp_marks_of (cons3 (v3 0) nil3)) nil3))))
noncomputable def N_marks_of : List Str := ["word", "marks", "deed"]
noncomputable def t_marks_of (sp_marks_of : Sp3) : TS3 :=
  (seq3 (set3 1 (lst3 nil3)) (seq3 (for3 (is3 (v3 0)) (gn3 2) (seq3 (drop3 (mt3 extR (v3 1) (cons3 (lst3 (cons3 (o3 ixR (v3 2) (c3 (.int 0))) (cons3 (call3 strR (cons3 (o3 ixR (v3 2) (c3 (.int 1))) nil3)) nil3))) nil3))) (ifs3 (b3 (o3 eqR (o3 ixR (v3 2) (c3 (.int 0))) (c3 (.str "times")))) (drop3 (mt3 extR (v3 1) (cons3 (o3 addR (o3 addR (lst3 (cons3 (c3 (.str "[")) nil3)) (call3 sp_marks_of (cons3 (o3 ixR (v3 2) (c3 (.int 2))) nil3))) (lst3 (cons3 (c3 (.str "]")) nil3))) nil3))) next3))) (ret3 (v3 1))))
noncomputable def N__law_cell_at : List Str := ["script", "k"]
noncomputable def t__law_cell_at : TS3 :=
  (seq3 (ifs3 (b3 (o3 ltR (v3 1) (call3 lenR (cons3 (v3 0) nil3)))) (ret3 (o3 ixR (v3 0) (v3 1))) next3) (ret3 (c3 (.int 0))))
noncomputable def N__law_whole : List Str := ["found"]
noncomputable def t__law_whole : TS3 :=
  (ret3 (andV3 (call3 isiR (cons3 (v3 0) (cons3 (c3 (.ty "int")) nil3))) (notV3 (call3 isiR (cons3 (v3 0) (cons3 (c3 (.ty "bool")) nil3))))))
noncomputable def N__law_state : List Str := ["script", "k", "cell"]
noncomputable def t__law_state (sp__law_cell_at : Sp3) : TS3 :=
  (seq3 (set3 2 (call3 sp__law_cell_at (cons3 (v3 0) (cons3 (v3 1) nil3)))) (seq3 (ifs3 (b3 (o3 geR (v3 2) (o3 powR (c3 (.int 10)) (c3 (.int 18))))) (ret3 (lst3 (cons3 (o3 subR (v3 2) (o3 powR (c3 (.int 10)) (c3 (.int 18)))) (cons3 (c3 (.bl true)) nil3)))) next3) (ret3 (lst3 (cons3 (o3 modR (v3 2) (c3 (.int 2147483647))) (cons3 (c3 (.bl false)) nil3))))))
noncomputable def N__law_choice : List Str := ["state", "many", "found", "mixed"]
noncomputable def t__law_choice : TS3 :=
  (seq3 (ifs3 (b3 (o3 ixR (v3 0) (c3 (.int 1)))) (seq3 (set3 2 (o3 modR (o3 ixR (v3 0) (c3 (.int 0))) (v3 1))) (seq3 (asg3 (o3 fdivR (o3 ixR (v3 0) (c3 (.int 0))) (v3 1)) (sub3 (v3 0) (c3 (.int 0)))) (ret3 (v3 2)))) next3) (seq3 (asg3 (o3 modR (o3 addR (o3 mulR (o3 ixR (v3 0) (c3 (.int 0))) (c3 (.int 48271))) (c3 (.int 29))) (c3 (.int 2147483647))) (sub3 (v3 0) (c3 (.int 0)))) (seq3 (set3 3 (o3 modR (o3 addR (o3 addR (o3 mulR (o3 ixR (v3 0) (c3 (.int 0))) (o3 ixR (v3 0) (c3 (.int 0)))) (o3 mulR (c3 (.int 39373)) (o3 ixR (v3 0) (c3 (.int 0))))) (c3 (.int 7))) (c3 (.int 2147483629)))) (seq3 (set3 3 (o3 modR (o3 addR (o3 mulR (v3 3) (v3 3)) (o3 mulR (c3 (.int 16807)) (v3 3))) (c3 (.int 2147483587)))) (ret3 (o3 modR (o3 fdivR (v3 3) (c3 (.int 8))) (v3 1)))))))
noncomputable def N__law_word : List Str := ["state", "deep", "found", "k", "kind"]
noncomputable def t__law_word (sp__law_choice : Sp3) (sp__law_word : Sp3) : TS3 :=
  (seq3 (set3 2 (lst3 nil3)) (seq3 (for3 (ir3 (cons3 (call3 sp__law_choice (cons3 (v3 0) (cons3 (c3 (.int 5)) nil3))) nil3)) (gn3 3) (seq3 (set3 4 (call3 sp__law_choice (cons3 (v3 0) (cons3 (c3 (.int 7)) nil3)))) (ifs3 (b3 (o3 gtR (o3 ixR (v3 0) (c3 (.int 2))) (c3 (.int 0)))) (seq3 (asg3 (o3 subR (o3 ixR (v3 0) (c3 (.int 2))) (c3 (.int 1))) (sub3 (v3 0) (c3 (.int 2)))) (ifs3 (and3 (b3 (o3 ltR (v3 4) (c3 (.int 2)))) (b3 (o3 gtR (v3 1) (c3 (.int 0))))) (drop3 (mt3 appR (v3 2) (cons3 (tup3 (cons3 (c3 (.str "times")) (cons3 (call3 sp__law_choice (cons3 (v3 0) (cons3 (c3 (.int 5)) nil3))) (cons3 (call3 sp__law_word (cons3 (v3 0) (cons3 (o3 subR (v3 1) (c3 (.int 1))) nil3))) nil3)))) nil3))) (ifs3 (b3 (o3 ltR (v3 4) (c3 (.int 4)))) (drop3 (mt3 appR (v3 2) (cons3 (tup3 (cons3 (c3 (.str "turn")) (cons3 (o3 ixR (lst3 (cons3 (c3 (.int 1)) (cons3 (un3 negR (c3 (.int 1))) (cons3 (c3 (.int 2)) (cons3 (c3 (.int 3)) (cons3 (un3 negR (c3 (.int 5))) (cons3 (c3 (.int 0)) (cons3 (c3 (.int 1)) (cons3 (un3 negR (c3 (.int 1))) nil3))))))))) (call3 sp__law_choice (cons3 (v3 0) (cons3 (c3 (.int 8)) nil3)))) nil3))) nil3))) (ifs3 (b3 (o3 eqR (v3 4) (c3 (.int 4)))) (drop3 (mt3 appR (v3 2) (cons3 (tup3 (cons3 (c3 (.str "jump")) (cons3 (o3 subR (call3 sp__law_choice (cons3 (v3 0) (cons3 (c3 (.int 7)) nil3))) (c3 (.int 3))) nil3))) nil3))) (drop3 (mt3 appR (v3 2) (cons3 (tup3 (cons3 (c3 (.str "go")) (cons3 (call3 sp__law_choice (cons3 (v3 0) (cons3 (c3 (.int 4)) nil3))) nil3))) nil3))))))) next3))) (ret3 (call3 tupR (cons3 (v3 2) nil3)))))
noncomputable def N__law_drawn_word : List Str := ["script", "k", "deep", "most", "state"]
noncomputable def t__law_drawn_word (sp__law_state : Sp3) (sp__law_word : Sp3) : TS3 :=
  (seq3 (set3 4 (o3 addR (call3 sp__law_state (cons3 (v3 0) (cons3 (v3 1) nil3))) (lst3 (cons3 (v3 3) nil3)))) (ret3 (call3 sp__law_word (cons3 (v3 4) (cons3 (v3 2) nil3)))))
noncomputable def N__law_nested : List Str := ["deep", "inner", "found", "k"]
noncomputable def t__law_nested : TS3 :=
  (seq3 (set3 2 (v3 1)) (seq3 (for3 (ir3 (cons3 (v3 0) nil3)) (gn3 3) (set3 2 (tup3 (cons3 (tup3 (cons3 (c3 (.str "times")) (cons3 (o3 addR (c3 (.int 1)) (o3 modR (v3 3) (c3 (.int 2)))) (cons3 (v3 2) nil3)))) nil3)))) (ret3 (v3 2))))
noncomputable def N__law_bad_word : List Str := ["state", "far", "some", "good", "at", "kind"]
noncomputable def t__law_bad_word_r12 (sp__law_choice : Sp3) (sp__law_nested : Sp3) (sp__law_word : Sp3) : TS3 :=
  (ret3 (o3 addR (o3 addR (sl3 slR (v3 3) np3 (pt3 (v3 4))) (tup3 (cons3 (o3 ixR (v3 2) (call3 sp__law_choice (cons3 (v3 0) (cons3 (call3 lenR (cons3 (v3 2) nil3)) nil3)))) nil3))) (sl3 slR (v3 3) (pt3 (v3 4)) np3)))
noncomputable def t__law_bad_word_r11 (sp__law_choice : Sp3) (sp__law_nested : Sp3) (sp__law_word : Sp3) : TS3 :=
  (seq3 (ifs3 (b3 (o3 eqR (v3 5) (c3 (.int 2)))) (ret3 (o3 addR (o3 addR (sl3 slR (v3 3) np3 (pt3 (v3 4))) (tup3 (cons3 (tup3 (cons3 (c3 (.str "times")) (cons3 (c3 (.int 2)) (cons3 (o3 mulR (tup3 (cons3 (tup3 (cons3 (c3 (.str "turn")) (cons3 (c3 (.int 1)) nil3))) nil3)) (o3 addR (c3 (.int 30)) (call3 sp__law_choice (cons3 (v3 0) (cons3 (c3 (.int 4)) nil3))))) nil3)))) nil3))) (sl3 slR (v3 3) (pt3 (v3 4)) np3))) next3) (t__law_bad_word_r12 sp__law_choice sp__law_nested sp__law_word))
noncomputable def t__law_bad_word_r10 (sp__law_choice : Sp3) (sp__law_nested : Sp3) (sp__law_word : Sp3) : TS3 :=
  (seq3 (ifs3 (b3 (o3 eqR (v3 5) (c3 (.int 1)))) (ret3 (call3 sp__law_nested (cons3 (o3 addR (c3 (.int 5)) (call3 sp__law_choice (cons3 (v3 0) (cons3 (c3 (.int 3)) nil3)))) (cons3 (sl3 slR (v3 3) np3 (pt3 (c3 (.int 1)))) nil3)))) next3) (t__law_bad_word_r11 sp__law_choice sp__law_nested sp__law_word))
noncomputable def t__law_bad_word_r9 (sp__law_choice : Sp3) (sp__law_nested : Sp3) (sp__law_word : Sp3) : TS3 :=
  (seq3 (ifs3 (b3 (o3 eqR (v3 5) (c3 (.int 0)))) (ret3 (o3 mulR (tup3 (cons3 (tup3 (cons3 (c3 (.str "go")) (cons3 (c3 (.int 1)) nil3))) nil3)) (o3 addR (c3 (.int 31)) (call3 sp__law_choice (cons3 (v3 0) (cons3 (c3 (.int 9)) nil3)))))) next3) (t__law_bad_word_r10 sp__law_choice sp__law_nested sp__law_word))
noncomputable def t__law_bad_word_r8 (sp__law_choice : Sp3) (sp__law_nested : Sp3) (sp__law_word : Sp3) : TS3 :=
  (seq3 (set3 5 (call3 sp__law_choice (cons3 (v3 0) (cons3 (c3 (.int 5)) nil3)))) (t__law_bad_word_r9 sp__law_choice sp__law_nested sp__law_word))
noncomputable def t__law_bad_word_r7 (sp__law_choice : Sp3) (sp__law_nested : Sp3) (sp__law_word : Sp3) : TS3 :=
  (seq3 (set3 4 (call3 sp__law_choice (cons3 (v3 0) (cons3 (o3 addR (call3 lenR (cons3 (v3 3) nil3)) (c3 (.int 1))) nil3)))) (t__law_bad_word_r8 sp__law_choice sp__law_nested sp__law_word))
noncomputable def t__law_bad_word_r6 (sp__law_choice : Sp3) (sp__law_nested : Sp3) (sp__law_word : Sp3) : TS3 :=
  (seq3 (set3 3 (sl3 slR (call3 sp__law_word (cons3 (v3 0) (cons3 (c3 (.int 2)) nil3))) np3 (pt3 (c3 (.int 3))))) (t__law_bad_word_r7 sp__law_choice sp__law_nested sp__law_word))
noncomputable def t__law_bad_word_r5 (sp__law_choice : Sp3) (sp__law_nested : Sp3) (sp__law_word : Sp3) : TS3 :=
  (seq3 (set3 2 (o3 addR (v3 2) (lst3 (cons3 (tup3 nil3) (cons3 (tup3 (cons3 (c3 (.str "go")) (cons3 (tup3 nil3) nil3))) (cons3 (tup3 (cons3 (c3 (.str "times")) (cons3 (tup3 nil3) (cons3 (c3 (.int 2)) nil3)))) (cons3 (tup3 (cons3 (c3 (.str "turn")) (cons3 (tup3 (cons3 (tup3 (cons3 (c3 (.str "go")) (cons3 (c3 (.int 1)) nil3))) nil3)) nil3))) (cons3 (tup3 (cons3 (c3 (.str "times")) (cons3 (c3 (.int 0)) (cons3 (tup3 (cons3 (tup3 nil3) nil3)) nil3)))) nil3)))))))) (t__law_bad_word_r6 sp__law_choice sp__law_nested sp__law_word))
noncomputable def t__law_bad_word_r4 (sp__law_choice : Sp3) (sp__law_nested : Sp3) (sp__law_word : Sp3) : TS3 :=
  (seq3 (set3 2 (o3 addR (v3 2) (lst3 (cons3 (tup3 (cons3 (c3 (.str "times")) (cons3 (c3 (.int 1)) (cons3 (tup3 (cons3 (tup3 (cons3 (c3 (.str "go")) (cons3 (un3 negR (c3 (.int 1))) nil3))) nil3)) nil3)))) (cons3 (tup3 (cons3 (c3 (.str "times")) (cons3 (c3 (.int 0)) (cons3 (tup3 (cons3 (tup3 (cons3 (c3 (.str "hop")) (cons3 (c3 (.int 1)) nil3))) nil3)) nil3)))) (cons3 (tup3 (cons3 (c3 (.str "go")) (cons3 (o3 subR (c3 (.int 0)) (v3 1)) nil3))) nil3)))))) (t__law_bad_word_r5 sp__law_choice sp__law_nested sp__law_word))
noncomputable def t__law_bad_word_r3 (sp__law_choice : Sp3) (sp__law_nested : Sp3) (sp__law_word : Sp3) : TS3 :=
  (seq3 (set3 2 (o3 addR (v3 2) (lst3 (cons3 (tup3 (cons3 (c3 (.str "")) (cons3 (c3 (.int 1)) nil3))) (cons3 (tup3 (cons3 (c3 (.str "gone")) (cons3 (c3 (.int 1)) nil3))) (cons3 (tup3 (cons3 (c3 (.str "times")) (cons3 (c3 (.int 2)) (cons3 (tup3 nil3) (cons3 (tup3 nil3) nil3))))) (cons3 (tup3 (cons3 (c3 (.str "jump")) nil3)) (cons3 (tup3 (cons3 (c3 (.str "turn")) (cons3 (c3 (.int 1)) (cons3 (c3 (.int 2)) nil3)))) (cons3 (tup3 (cons3 (c3 (.str "times")) nil3)) nil3))))))))) (t__law_bad_word_r4 sp__law_choice sp__law_nested sp__law_word))
noncomputable def t__law_bad_word_r2 (sp__law_choice : Sp3) (sp__law_nested : Sp3) (sp__law_word : Sp3) : TS3 :=
  (seq3 (set3 2 (o3 addR (v3 2) (lst3 (cons3 (tup3 (cons3 (c3 (.str "go")) (cons3 (c3 (.int 1)) (cons3 (c3 (.int 1)) nil3)))) (cons3 (tup3 (cons3 (c3 (.str "times")) (cons3 (un3 negR (c3 (.int 1))) (cons3 (tup3 nil3) nil3)))) (cons3 (tup3 (cons3 (c3 (.str "times")) (cons3 (v3 1) (cons3 (tup3 nil3) nil3)))) (cons3 (tup3 (cons3 (c3 (.str "times")) (cons3 (c3 (.int 2)) nil3))) (cons3 (tup3 (cons3 (c3 (.str "times")) (cons3 (c3 (.int 2)) (cons3 (c3 (.int 3)) nil3)))) (cons3 (tup3 (cons3 (c3 (.str "Go")) (cons3 (c3 (.int 1)) nil3))) nil3))))))))) (t__law_bad_word_r3 sp__law_choice sp__law_nested sp__law_word))
noncomputable def t__law_bad_word_r1 (sp__law_choice : Sp3) (sp__law_nested : Sp3) (sp__law_word : Sp3) : TS3 :=
  (seq3 (set3 2 (lst3 (cons3 (tup3 (cons3 (c3 (.str "go")) (cons3 (un3 negR (c3 (.int 1))) nil3))) (cons3 (tup3 (cons3 (c3 (.str "go")) (cons3 (v3 1) nil3))) (cons3 (tup3 (cons3 (c3 (.str "jump")) (cons3 (v3 1) nil3))) (cons3 (tup3 (cons3 (c3 (.str "jump")) (cons3 (o3 subR (c3 (.int 0)) (v3 1)) nil3))) (cons3 (tup3 (cons3 (c3 (.str "turn")) (cons3 (v3 1) nil3))) (cons3 (tup3 (cons3 (c3 (.str "turn")) (cons3 (o3 subR (c3 (.int 0)) (v3 1)) nil3))) (cons3 (tup3 (cons3 (c3 (.str "go")) nil3)) nil3))))))))) (t__law_bad_word_r2 sp__law_choice sp__law_nested sp__law_word))
noncomputable def t__law_bad_word (sp__law_choice : Sp3) (sp__law_nested : Sp3) (sp__law_word : Sp3) : TS3 :=
  (seq3 (set3 1 (o3 addR (o3 powR (c3 (.int 10)) (c3 (.int 20))) (call3 sp__law_choice (cons3 (v3 0) (cons3 (o3 powR (c3 (.int 10)) (c3 (.int 9))) nil3))))) (t__law_bad_word_r1 sp__law_choice sp__law_nested sp__law_word))
noncomputable def N__law_marks : List Str := ["e", "marks"]
noncomputable def t__law_marks : TS3 :=
  (seq3 (set3 1 (lst3 (cons3 (isx3 (v3 0) (subX "NoWord")) (cons3 (isx3 (v3 0) (subX "NoRoom")) (cons3 (isx3 (v3 0) (subX "NoStep")) (cons3 (isx3 (v3 0) (subX "NoPicture")) nil3)))))) (ret3 (o3 addR (v3 1) (lst3 (cons3 (isx3 (v3 0) (subX "NoNumber")) (cons3 (isx3 (v3 0) (subX "BadNote")) (cons3 (isx3 (v3 0) (subX "ValueError")) nil3)))))))
noncomputable def N__law_refused : List Str := ["marks", "which"]
noncomputable def t__law_refused : TS3 :=
  (ret3 (o3 eqR (v3 0) (o3 addR (comp3 [none, some 1] (ir3 (cons3 (c3 (.int 6)) nil3)) (gn3 0) tt3 (o3 eqR (v3 0) (v3 1))) (lst3 (cons3 (c3 (.bl true)) nil3)))))
noncomputable def N__law_count : List Str := ["deeds", "found", "deed"]
noncomputable def t__law_count (sp__law_count : Sp3) : TS3 :=
  (seq3 (set3 1 (c3 (.int 0))) (seq3 (for3 (is3 (v3 0)) (gn3 2) (seq3 (set3 1 (o3 addR (v3 1) (c3 (.int 1)))) (ifs3 (b3 (o3 eqR (o3 ixR (v3 2) (c3 (.int 0))) (c3 (.str "times")))) (set3 1 (o3 addR (v3 1) (call3 sp__law_count (cons3 (o3 ixR (v3 2) (c3 (.int 2))) nil3)))) next3))) (ret3 (v3 1))))
noncomputable def N__law_called : List Str := ["way", "deeds"]
noncomputable def t__law_called (XE : XE3) (spx_carried : XE3 → Sp3) (spx_deeds_done : XE3 → Sp3) (spx_deeds_in : XE3 → Sp3) (spx_is_small : XE3 → Sp3) (spx_pen_after : XE3 → Sp3) (spx_shown : XE3 → Sp3) (spx_strokes_drawn : XE3 → Sp3) : TS3 :=
  (ifs3 (b3 (o3 eqR (v3 0) (c3 (.int 0)))) (drop3 (call3 (spx_deeds_in XE) (cons3 (v3 1) nil3))) (ifs3 (b3 (o3 eqR (v3 0) (c3 (.int 1)))) (drop3 (call3 (spx_pen_after XE) (cons3 (v3 1) nil3))) (ifs3 (b3 (o3 eqR (v3 0) (c3 (.int 2)))) (drop3 (call3 (spx_carried XE) (cons3 (tup3 (cons3 (c3 (.int 1)) (cons3 (c3 (.int 2)) (cons3 (c3 (.int 3)) nil3)))) (cons3 (v3 1) nil3)))) (ifs3 (b3 (o3 eqR (v3 0) (c3 (.int 3)))) (drop3 (call3 (spx_strokes_drawn XE) (cons3 (v3 1) nil3))) (ifs3 (b3 (o3 eqR (v3 0) (c3 (.int 4)))) (drop3 (call3 (spx_deeds_done XE) (cons3 (v3 1) nil3))) (ifs3 (b3 (o3 eqR (v3 0) (c3 (.int 5)))) (drop3 (call3 (spx_is_small XE) (cons3 (v3 1) nil3))) (drop3 (call3 (spx_shown XE) (cons3 (v3 1) nil3)))))))))
noncomputable def N__law_told : List Str := ["way", "deeds", "marks", "e"]
noncomputable def t__law_told (spx__law_called : XE3 → Sp3) (sp__law_marks : Sp3) : TS3 :=
  (seq3 (set3 2 (lst3 nil3)) (seq3 (try3 3 spx__law_called keepSt okX (cons3 (v3 0) (cons3 (v3 1) nil3)) (set3 2 (call3 sp__law_marks (cons3 (v3 3) nil3)))) (ret3 (v3 2))))
noncomputable def N_law : List Str := ["script", "good", "edge", "found", "bad", "way"]
noncomputable def t_law_r8 (sp__law_bad_word : Sp3) (sp__law_cell_at : Sp3) (sp__law_count : Sp3) (sp__law_drawn_word : Sp3) (sp__law_nested : Sp3) (sp__law_refused : Sp3) (sp__law_state : Sp3) (sp__law_told : Sp3) (sp__law_whole : Sp3) (spx_deeds_in : XE3 → Sp3) : TS3 :=
  (ret3 (c3 (.bl true)))
noncomputable def t_law_r7 (sp__law_bad_word : Sp3) (sp__law_cell_at : Sp3) (sp__law_count : Sp3) (sp__law_drawn_word : Sp3) (sp__law_nested : Sp3) (sp__law_refused : Sp3) (sp__law_state : Sp3) (sp__law_told : Sp3) (sp__law_whole : Sp3) (spx_deeds_in : XE3 → Sp3) : TS3 :=
  (seq3 (for3 (ir3 (cons3 (c3 (.int 7)) nil3)) (gn3 5) (ifs3 (or3 (not3 (b3 (call3 sp__law_refused (cons3 (call3 sp__law_told (cons3 (v3 5) (cons3 (v3 4) nil3))) (cons3 (c3 (.int 0)) nil3))))) (b3 (o3 neR (call3 sp__law_told (cons3 (v3 5) (cons3 (v3 1) nil3))) (lst3 nil3)))) (ret3 (c3 (.bl false))) next3)) (t_law_r8 sp__law_bad_word sp__law_cell_at sp__law_count sp__law_drawn_word sp__law_nested sp__law_refused sp__law_state sp__law_told sp__law_whole spx_deeds_in))
noncomputable def t_law_r6 (sp__law_bad_word : Sp3) (sp__law_cell_at : Sp3) (sp__law_count : Sp3) (sp__law_drawn_word : Sp3) (sp__law_nested : Sp3) (sp__law_refused : Sp3) (sp__law_state : Sp3) (sp__law_told : Sp3) (sp__law_whole : Sp3) (spx_deeds_in : XE3 → Sp3) : TS3 :=
  (seq3 (set3 4 (call3 sp__law_bad_word (cons3 (o3 addR (call3 sp__law_state (cons3 (v3 0) (cons3 (c3 (.int 1)) nil3))) (lst3 (cons3 (c3 (.int 9)) nil3))) nil3))) (t_law_r7 sp__law_bad_word sp__law_cell_at sp__law_count sp__law_drawn_word sp__law_nested sp__law_refused sp__law_state sp__law_told sp__law_whole spx_deeds_in))
noncomputable def t_law_r5 (sp__law_bad_word : Sp3) (sp__law_cell_at : Sp3) (sp__law_count : Sp3) (sp__law_drawn_word : Sp3) (sp__law_nested : Sp3) (sp__law_refused : Sp3) (sp__law_state : Sp3) (sp__law_told : Sp3) (sp__law_whole : Sp3) (spx_deeds_in : XE3 → Sp3) : TS3 :=
  (seq3 (ifs3 (or3 (not3 (b3 (call3 sp__law_whole (cons3 (v3 3) nil3)))) (b3 (o3 neR (v3 3) (call3 sp__law_count (cons3 (v3 1) nil3))))) (ret3 (c3 (.bl false))) next3) (t_law_r6 sp__law_bad_word sp__law_cell_at sp__law_count sp__law_drawn_word sp__law_nested sp__law_refused sp__law_state sp__law_told sp__law_whole spx_deeds_in))
noncomputable def t_law_r4 (sp__law_bad_word : Sp3) (sp__law_cell_at : Sp3) (sp__law_count : Sp3) (sp__law_drawn_word : Sp3) (sp__law_nested : Sp3) (sp__law_refused : Sp3) (sp__law_state : Sp3) (sp__law_told : Sp3) (sp__law_whole : Sp3) (spx_deeds_in : XE3 → Sp3) : TS3 :=
  (seq3 (set3 3 (call3 (spx_deeds_in NX) (cons3 (v3 1) nil3))) (t_law_r5 sp__law_bad_word sp__law_cell_at sp__law_count sp__law_drawn_word sp__law_nested sp__law_refused sp__law_state sp__law_told sp__law_whole spx_deeds_in))
noncomputable def t_law_r3 (sp__law_bad_word : Sp3) (sp__law_cell_at : Sp3) (sp__law_count : Sp3) (sp__law_drawn_word : Sp3) (sp__law_nested : Sp3) (sp__law_refused : Sp3) (sp__law_state : Sp3) (sp__law_told : Sp3) (sp__law_whole : Sp3) (spx_deeds_in : XE3 → Sp3) : TS3 :=
  (seq3 (ifs3 (b3 (o3 eqR (v3 2) (c3 (.int 2)))) (set3 1 (call3 sp__law_nested (cons3 (c3 (.int 4)) (cons3 (tup3 (cons3 (tup3 (cons3 (c3 (.str "jump")) (cons3 (o3 subR (c3 (.int 1)) (o3 powR (c3 (.int 10)) (c3 (.int 20)))) nil3))) nil3)) nil3)))) next3) (t_law_r4 sp__law_bad_word sp__law_cell_at sp__law_count sp__law_drawn_word sp__law_nested sp__law_refused sp__law_state sp__law_told sp__law_whole spx_deeds_in))
noncomputable def t_law_r2 (sp__law_bad_word : Sp3) (sp__law_cell_at : Sp3) (sp__law_count : Sp3) (sp__law_drawn_word : Sp3) (sp__law_nested : Sp3) (sp__law_refused : Sp3) (sp__law_state : Sp3) (sp__law_told : Sp3) (sp__law_whole : Sp3) (spx_deeds_in : XE3 → Sp3) : TS3 :=
  (seq3 (ifs3 (b3 (o3 eqR (v3 2) (c3 (.int 1)))) (set3 1 (o3 addR (tup3 (cons3 (tup3 (cons3 (c3 (.str "times")) (cons3 (c3 (.int 3)) (cons3 (o3 mulR (tup3 (cons3 (tup3 (cons3 (c3 (.str "go")) (cons3 (o3 subR (o3 powR (c3 (.int 10)) (c3 (.int 20))) (c3 (.int 1))) nil3))) nil3)) (c3 (.int 14))) nil3)))) nil3)) (o3 mulR (tup3 (cons3 (tup3 (cons3 (c3 (.str "turn")) (cons3 (o3 subR (c3 (.int 1)) (o3 powR (c3 (.int 10)) (c3 (.int 20)))) nil3))) nil3)) (c3 (.int 15))))) next3) (t_law_r3 sp__law_bad_word sp__law_cell_at sp__law_count sp__law_drawn_word sp__law_nested sp__law_refused sp__law_state sp__law_told sp__law_whole spx_deeds_in))
noncomputable def t_law_r1 (sp__law_bad_word : Sp3) (sp__law_cell_at : Sp3) (sp__law_count : Sp3) (sp__law_drawn_word : Sp3) (sp__law_nested : Sp3) (sp__law_refused : Sp3) (sp__law_state : Sp3) (sp__law_told : Sp3) (sp__law_whole : Sp3) (spx_deeds_in : XE3 → Sp3) : TS3 :=
  (seq3 (set3 2 (o3 modR (call3 sp__law_cell_at (cons3 (v3 0) (cons3 (c3 (.int 2)) nil3))) (c3 (.int 16)))) (t_law_r2 sp__law_bad_word sp__law_cell_at sp__law_count sp__law_drawn_word sp__law_nested sp__law_refused sp__law_state sp__law_told sp__law_whole spx_deeds_in))
noncomputable def t_law (sp__law_bad_word : Sp3) (sp__law_cell_at : Sp3) (sp__law_count : Sp3) (sp__law_drawn_word : Sp3) (sp__law_nested : Sp3) (sp__law_refused : Sp3) (sp__law_state : Sp3) (sp__law_told : Sp3) (sp__law_whole : Sp3) (spx_deeds_in : XE3 → Sp3) : TS3 :=
  (seq3 (set3 1 (call3 sp__law_drawn_word (cons3 (v3 0) (cons3 (c3 (.int 0)) (cons3 (c3 (.int 4)) (cons3 (c3 (.int 30)) nil3)))))) (t_law_r1 sp__law_bad_word sp__law_cell_at sp__law_count sp__law_drawn_word sp__law_nested sp__law_refused sp__law_state sp__law_told sp__law_whole spx_deeds_in))
end Pv

namespace Pv
open PySem Mw
theorem kn_go_jump : ((("go" : Str) = ("jump" : Str)) = False) := eq_false (by decide)
theorem kn_go_turn : ((("go" : Str) = ("turn" : Str)) = False) := eq_false (by decide)
theorem kn_go_times : ((("go" : Str) = ("times" : Str)) = False) := eq_false (by decide)
theorem kn_jump_go : ((("jump" : Str) = ("go" : Str)) = False) := eq_false (by decide)
theorem kn_jump_turn : ((("jump" : Str) = ("turn" : Str)) = False) := eq_false (by decide)
theorem kn_jump_times : ((("jump" : Str) = ("times" : Str)) = False) := eq_false (by decide)
theorem kn_turn_go : ((("turn" : Str) = ("go" : Str)) = False) := eq_false (by decide)
theorem kn_turn_jump : ((("turn" : Str) = ("jump" : Str)) = False) := eq_false (by decide)
theorem kn_turn_times : ((("turn" : Str) = ("times" : Str)) = False) := eq_false (by decide)
theorem kn_times_go : ((("times" : Str) = ("go" : Str)) = False) := eq_false (by decide)
theorem kn_times_jump : ((("times" : Str) = ("jump" : Str)) = False) := eq_false (by decide)
theorem kn_times_turn : ((("times" : Str) = ("turn" : Str)) = False) := eq_false (by decide)
theorem kp_go : (["go", "jump", "turn"] : List Str).contains "go" = true := by decide
theorem kp_jump : (["go", "jump", "turn"] : List Str).contains "jump" = true := by decide
theorem kp_turn : (["go", "jump", "turn"] : List Str).contains "turn" = true := by decide
theorem kp_times : (["go", "jump", "turn"] : List Str).contains "times" = false := by decide
theorem kz_go : (["go", "times"] : List Str).contains "go" = true := by decide
theorem kz_jump : (["go", "times"] : List Str).contains "jump" = false := by decide
theorem kz_turn : (["go", "times"] : List Str).contains "turn" = false := by decide
theorem kz_times : (["go", "times"] : List Str).contains "times" = true := by decide
theorem cst0 : ((0 : Nat) : Int) = 0 := rfl
theorem cst1 : ((1 : Nat) : Int) = 1 := rfl
theorem cst2 : ((2 : Nat) : Int) = 2 := rfl
theorem cst3 : ((3 : Nat) : Int) = 3 := rfl
mutual
noncomputable def enc : Dd → D
  | .go n => .tup [.str "go", .int n]
  | .jump n => .tup [.str "jump", .int n]
  | .turn n => .tup [.str "turn", .int n]
  | .times n w => .tup [.str "times", .int n, .tup (encs w)]
noncomputable def encs : List Dd → List D
  | [] => []
  | d :: r => enc d :: encs r
end
noncomputable def Wd (w : List Dd) : Prop := oks w ∧ deps w ≤ 4 ∧ cnts w ≤ 30
theorem encs_length : ∀ a, (encs a).length = a.length
  | [] => by simp [encs]
  | d :: r => by simp only [encs, List.length_cons, encs_length r]
theorem mem_encs : ∀ {w : List Dd} {x : D}, x ∈ encs w → ∃ d, d ∈ w ∧ x = enc d
  | [], x, h => by simp [encs] at h
  | d :: r, x, h => by
    simp only [encs, List.mem_cons] at h
    rcases h with rfl | h
    · exact ⟨d, List.mem_cons_self, rfl⟩
    · obtain ⟨e, h1, h2⟩ := mem_encs h
      exact ⟨e, List.mem_cons_of_mem _ h1, h2⟩
theorem mem_bounds : ∀ {w : List Dd} {d : Dd}, d ∈ w → oks w → dep d ≤ deps w ∧ cnt d ≤ cnts w ∧ okd d
  | [], d, h, _ => by simp at h
  | e :: r, d, h, o => by
    simp only [oks] at o
    simp only [deps, cnts]
    rcases List.mem_cons.mp h with rfl | h
    · exact ⟨by omega, by omega, o.1⟩
    · obtain ⟨h1, h2, h3⟩ := mem_bounds h o.2
      exact ⟨by omega, by omega, h3⟩
mutual
noncomputable def dec : D → Dd
  | .tup [.str k, .int n] => if k = "go" then .go n else if k = "jump" then .jump n else .turn n
  | .tup [.str _, .int n, .tup w] => .times n (decs w)
  | _ => .go 0
noncomputable def decs : List D → List Dd
  | [] => []
  | d :: r => dec d :: decs r
end
mutual
theorem dec_enc : ∀ d, dec (enc d) = d
  | .go n => by simp [enc, dec]
  | .jump n => by simp only [enc, dec, Pv.kn_go_jump, Pv.kn_go_turn, Pv.kn_go_times, Pv.kn_jump_go, Pv.kn_jump_turn, Pv.kn_jump_times, Pv.kn_turn_go, Pv.kn_turn_jump, Pv.kn_turn_times, Pv.kn_times_go, Pv.kn_times_jump, Pv.kn_times_turn, Pv.kp_go, Pv.kp_jump, Pv.kp_turn, Pv.kp_times, Pv.kz_go, Pv.kz_jump, Pv.kz_turn, Pv.kz_times, if_false, if_true]
  | .turn n => by simp only [enc, dec, Pv.kn_go_jump, Pv.kn_go_turn, Pv.kn_go_times, Pv.kn_jump_go, Pv.kn_jump_turn, Pv.kn_jump_times, Pv.kn_turn_go, Pv.kn_turn_jump, Pv.kn_turn_times, Pv.kn_times_go, Pv.kn_times_jump, Pv.kn_times_turn, Pv.kp_go, Pv.kp_jump, Pv.kp_turn, Pv.kp_times, Pv.kz_go, Pv.kz_jump, Pv.kz_turn, Pv.kz_times, if_false]
  | .times n w => by simp only [enc, dec, decs_encs w]
theorem decs_encs : ∀ w, decs (encs w) = w
  | [] => by simp only [encs, decs]
  | d :: r => by simp only [encs, decs, dec_enc d, decs_encs r]
end
theorem map_dec (f : Dd → Int) : ∀ w, (encs w).map (fun d => D.int (f (dec d))) = w.map fun d => D.int (f d)
  | [] => by simp [encs]
  | d :: r => by simp only [encs, List.map_cons, dec_enc, map_dec f r]
/-! what is a word: a checker of values -/
mutual
inductive ShD : D → Prop where
  | nil : ShD (.tup [])
  | mk (s : Str) (r : List D) : (∀ x, x ∈ r → ShV x) → ShD (.tup (.str s :: r))
inductive ShV : D → Prop where
  | int (n : Int) : ShV (.int n)
  | wd (l : List D) : (∀ x, x ∈ l → ShD x) → ShV (.tup l)
end
noncomputable def ckN (s : Str) : D → Bool
  | .int n => decide (-G ≤ n ∧ n ≤ G) && !(decide (n < 0) && (["go", "times"] : List Str).contains s)
  | _ => false
noncomputable def ckD (cw : D → Int → Option Nat) (k : Int) : D → Option Nat
  | .tup [.str s, a] => if (["go", "jump", "turn"] : List Str).contains s = true ∧ ckN s a = true then some 1 else none
  | .tup [.str s, a, b] => if s = "times" ∧ ckN s a = true then (match cw b (k + 1) with
    | some c => some (1 + c)
    | none => none) else none
  | _ => none
noncomputable def ckL (cd : D → Option Nat) : List D → Nat → Option Nat
  | [], c => some c
  | d :: r, c => match cd d with
    | some m => if 30 < c + m then none else ckL cd r (c + m)
    | none => none
noncomputable def ckW : Nat → D → Int → Option Nat
  | n + 1, .tup l, k => if 4 < k then none else ckL (ckD (ckW n) k) l 0
  | _, _, _ => none
/-- what is told of a check: a number, or the refusal -/
noncomputable def told (XE : XE3) (μ : Mu) (Q : Nat → Prop) : Option Nat → Prop
  | some c => Q c
  | none => XE "NoWord" μ
noncomputable def spxNum (XE : XE3) : Sp3 := fun ds μ Q => ∃ (s : Str) (d : D), ds = [.str s, d] ∧ ShV d ∧ told XE μ (fun _ => Q .non μ) (if ckN s d = true then some 0 else none)
theorem rd_check_number (XE : XE3) (ds : List D) (μ : Mu) (Q : VK3) (h : spxNum XE ds μ Q) : t_check_number XE { nx := fun _ μ' => Q .non μ', rt := Q } (start3 N_check_number ds) μ := by
  obtain ⟨s, d, rfl, sh, q⟩ := h
  cases sh with
  | wd l hl =>
    simp only [ckN, Bool.false_eq_true, if_false, told] at q
    exact And.intro (by decide) q
  | int n =>
    simp only [Pv.seq3, Pv.next3, Pv.never3, Pv.brk3, Pv.cnt3, Pv.drop3, Pv.ret3, Pv.retN3, Pv.ifs3, Pv.gn3, Pv.gnil3, Pv.gcons3, Pv.gtup3, Pv.set3, Pv.asg3, Pv.par3, Pv.sub3, Pv.for3, Pv.is3, Pv.ir3, Pv.ir23, Pv.v3, Pv.c3, Pv.o3, Pv.un3, Pv.b3, Pv.and3, Pv.or3, Pv.not3, Pv.andV3, Pv.orV3, Pv.notV3, Pv.if3, Pv.nil3, Pv.cons3, Pv.tup3, Pv.lst3, Pv.call3, Pv.mt3, Pv.comp3, Pv.tt3, Pv.getI, List.set_cons_zero, List.set_cons_succ, Pv.int2, Pv.int20, Pv.subR, Pv.mulR, Pv.intR, Pv.sl3, Pv.np3, Pv.pt3, Pv.slR, Pv.modR, Pv.fdivR, Pv.powR, Pv.ltR, Pv.leR, Pv.gtR, Pv.geR, Pv.negR, Pv.addR, Pv.eqR_ii, Pv.eqR_ss, Pv.eqR_bb, Pv.eqR_is, Pv.neR_ii, Pv.neR_ss, Pv.neR_bb, Pv.inR, Pv.ixR, Pv.lenR, Pv.absR, Pv.tupR, Pv.sumR, Pv.tyN, Pv.isIn, Pv.isiR, Pv.appR, Pv.extR, Pv.smt3, Pv.joinR, Pv.splitR, Pv.startsR, Pv.pop3, Pv.lrev3, Pv.strR, Pv.start3, List.map_cons, List.map_nil, List.cons_append, List.nil_append, List.length_cons, List.length_nil, List.replicate, Pv.atI0, Pv.atI1, Pv.atI2, Nat.reduceAdd, Nat.reduceSub, Nat.zero_add, reduceIte, Pv.strs?, Bool.not_true, Bool.not_false, Bool.false_eq_true, if_false, if_true, decide_eq_true_eq, Bool.not_eq_true', decide_eq_false_iff_not, Pv.ixN0, Pv.ixN1, Pv.ixN2, true_and, and_true, Pv.cst0, Pv.cst1, Pv.cst2, Pv.cst3, Int.reduceEq, Option.bind_none, Option.bind_some, Pv.kn_go_jump, Pv.kn_go_turn, Pv.kn_go_times, Pv.kn_jump_go, Pv.kn_jump_turn, Pv.kn_jump_times, Pv.kn_turn_go, Pv.kn_turn_jump, Pv.kn_turn_times, Pv.kn_times_go, Pv.kn_times_jump, Pv.kn_times_turn, Pv.kp_go, Pv.kp_jump, Pv.kp_turn, Pv.kp_times, Pv.kz_go, Pv.kz_jump, Pv.kz_turn, Pv.kz_times, t_check_number, N_check_number, raise3]
    by_cases h1 : -G ≤ n ∧ n ≤ G
    · have e1 : ¬ (99999999999999999999 < if n < 0 then -n else n) := by unfold G at h1; split <;> omega
      rw [if_neg e1]
      by_cases h2 : n < 0
      · rw [if_pos h2]
        cases h3 : (["go", "times"] : List Str).contains s with
        | true =>
          have e : ckN s (.int n) = false := by simp only [ckN, h1, h2, h3]; decide
          rw [e] at q
          simp only [Bool.false_eq_true, if_false, told] at q
          rw [if_pos rfl]
          exact ⟨by decide, q⟩
        | false =>
          have e : ckN s (.int n) = true := by simp only [ckN, h1, h2, h3]; decide
          rw [e] at q
          simp only [if_true, told] at q
          rw [if_neg (by decide)]
          exact q
      · have e : ckN s (.int n) = true := by simp only [ckN, h1, h2]; simp
        rw [e] at q
        simp only [if_true, told] at q
        rw [if_neg h2]
        exact q
    · have e1 : 99999999999999999999 < if n < 0 then -n else n := by unfold G at h1; split <;> omega
      rw [if_pos e1]
      have e : ckN s (.int n) = false := by simp only [ckN, h1]; simp
      rw [e] at q
      simp only [Bool.false_eq_true, if_false, told] at q
      exact ⟨by decide, q⟩
noncomputable def spxDeed (j : Nat) (XE : XE3) : Sp3 := fun ds μ Q => ∃ (d : D) (k : Int), ds = [d, .int k] ∧ 4 < k + j ∧ k ≤ 4 ∧ 0 ≤ k ∧ ShD d ∧ told XE μ (fun c => Q (.int c) μ) (ckD (ckW j) k d)
noncomputable def spxCount (j : Nat) (XE : XE3) : Sp3 := fun ds μ Q => ∃ (d : D) (k : Int), ds = [d, .int k] ∧ (k ≤ 4 → 4 < k + j) ∧ k ≤ 5 ∧ 0 ≤ k ∧ ShV d ∧ told XE μ (fun c => Q (.int c) μ) (ckW (j + 1) d k)
theorem rd_checked_deed_count (j : Nat) (XE : XE3) (ds : List D) (μ : Mu) (Q : VK3) (h : spxDeed (j + 1) XE ds μ Q) : t_checked_deed_count XE spxNum (spxCount j) { nx := fun _ μ' => Q .non μ', rt := Q } (start3 N_checked_deed_count ds) μ := by
  obtain ⟨d, k, rfl, h1, h2, h3, sh, q⟩ := h
  cases sh with
  | nil =>
    simp only [ckD, told] at q
    exact And.intro (by decide) q
  | mk s r hr =>
    match r, hr, q with
    | [], hr, q =>
      simp only [ckD, told] at q
      exact And.intro (by decide) q
    | [a], hr, q =>
      simp only [ckD] at q
      simp only [Pv.seq3, Pv.next3, Pv.never3, Pv.brk3, Pv.cnt3, Pv.drop3, Pv.ret3, Pv.retN3, Pv.ifs3, Pv.gn3, Pv.gnil3, Pv.gcons3, Pv.gtup3, Pv.set3, Pv.asg3, Pv.par3, Pv.sub3, Pv.for3, Pv.is3, Pv.ir3, Pv.ir23, Pv.v3, Pv.c3, Pv.o3, Pv.un3, Pv.b3, Pv.and3, Pv.or3, Pv.not3, Pv.andV3, Pv.orV3, Pv.notV3, Pv.if3, Pv.nil3, Pv.cons3, Pv.tup3, Pv.lst3, Pv.call3, Pv.mt3, Pv.comp3, Pv.tt3, Pv.getI, List.set_cons_zero, List.set_cons_succ, Pv.int2, Pv.int20, Pv.subR, Pv.mulR, Pv.intR, Pv.sl3, Pv.np3, Pv.pt3, Pv.slR, Pv.modR, Pv.fdivR, Pv.powR, Pv.ltR, Pv.leR, Pv.gtR, Pv.geR, Pv.negR, Pv.addR, Pv.eqR_ii, Pv.eqR_ss, Pv.eqR_bb, Pv.eqR_is, Pv.neR_ii, Pv.neR_ss, Pv.neR_bb, Pv.inR, Pv.ixR, Pv.lenR, Pv.absR, Pv.tupR, Pv.sumR, Pv.tyN, Pv.isIn, Pv.isiR, Pv.appR, Pv.extR, Pv.smt3, Pv.joinR, Pv.splitR, Pv.startsR, Pv.pop3, Pv.lrev3, Pv.strR, Pv.start3, List.map_cons, List.map_nil, List.cons_append, List.nil_append, List.length_cons, List.length_nil, List.replicate, Pv.atI0, Pv.atI1, Pv.atI2, Nat.reduceAdd, Nat.reduceSub, Nat.zero_add, reduceIte, Pv.strs?, Bool.not_true, Bool.not_false, Bool.false_eq_true, if_false, if_true, decide_eq_true_eq, Bool.not_eq_true', decide_eq_false_iff_not, Pv.ixN0, Pv.ixN1, Pv.ixN2, true_and, and_true, Pv.cst0, Pv.cst1, Pv.cst2, Pv.cst3, Int.reduceEq, Option.bind_none, Option.bind_some, Pv.kn_go_jump, Pv.kn_go_turn, Pv.kn_go_times, Pv.kn_jump_go, Pv.kn_jump_turn, Pv.kn_jump_times, Pv.kn_turn_go, Pv.kn_turn_jump, Pv.kn_turn_times, Pv.kn_times_go, Pv.kn_times_jump, Pv.kn_times_turn, Pv.kp_go, Pv.kp_jump, Pv.kp_turn, Pv.kp_times, Pv.kz_go, Pv.kz_jump, Pv.kz_turn, Pv.kz_times, t_checked_deed_count, N_checked_deed_count, raise3]
      cases hp : (["go", "jump", "turn"] : List Str).contains s with
      | true =>
        rw [hp] at q
        simp only [true_and] at q
        simp only [if_true]
        refine ⟨s, a, rfl, hr a (by simp), ?_⟩
        cases hn : ckN s a with
        | true =>
          rw [hn] at q
          simp only [if_true, told] at q ⊢
          exact q
        | false =>
          rw [hn] at q
          simp only [Bool.false_eq_true, if_false, told] at q ⊢
          exact q
      | false =>
        rw [hp] at q
        simp only [Bool.false_eq_true, false_and, if_false, told] at q
        simp only [Bool.false_eq_true, if_false]
        exact ⟨by decide, q⟩
    | [a, b], hr, q =>
      simp only [ckD] at q
      simp only [Pv.seq3, Pv.next3, Pv.never3, Pv.brk3, Pv.cnt3, Pv.drop3, Pv.ret3, Pv.retN3, Pv.ifs3, Pv.gn3, Pv.gnil3, Pv.gcons3, Pv.gtup3, Pv.set3, Pv.asg3, Pv.par3, Pv.sub3, Pv.for3, Pv.is3, Pv.ir3, Pv.ir23, Pv.v3, Pv.c3, Pv.o3, Pv.un3, Pv.b3, Pv.and3, Pv.or3, Pv.not3, Pv.andV3, Pv.orV3, Pv.notV3, Pv.if3, Pv.nil3, Pv.cons3, Pv.tup3, Pv.lst3, Pv.call3, Pv.mt3, Pv.comp3, Pv.tt3, Pv.getI, List.set_cons_zero, List.set_cons_succ, Pv.int2, Pv.int20, Pv.subR, Pv.mulR, Pv.intR, Pv.sl3, Pv.np3, Pv.pt3, Pv.slR, Pv.modR, Pv.fdivR, Pv.powR, Pv.ltR, Pv.leR, Pv.gtR, Pv.geR, Pv.negR, Pv.addR, Pv.eqR_ii, Pv.eqR_ss, Pv.eqR_bb, Pv.eqR_is, Pv.neR_ii, Pv.neR_ss, Pv.neR_bb, Pv.inR, Pv.ixR, Pv.lenR, Pv.absR, Pv.tupR, Pv.sumR, Pv.tyN, Pv.isIn, Pv.isiR, Pv.appR, Pv.extR, Pv.smt3, Pv.joinR, Pv.splitR, Pv.startsR, Pv.pop3, Pv.lrev3, Pv.strR, Pv.start3, List.map_cons, List.map_nil, List.cons_append, List.nil_append, List.length_cons, List.length_nil, List.replicate, Pv.atI0, Pv.atI1, Pv.atI2, Nat.reduceAdd, Nat.reduceSub, Nat.zero_add, reduceIte, Pv.strs?, Bool.not_true, Bool.not_false, Bool.false_eq_true, if_false, if_true, decide_eq_true_eq, Bool.not_eq_true', decide_eq_false_iff_not, Pv.ixN0, Pv.ixN1, Pv.ixN2, true_and, and_true, Pv.cst0, Pv.cst1, Pv.cst2, Pv.cst3, Int.reduceEq, Option.bind_none, Option.bind_some, Pv.kn_go_jump, Pv.kn_go_turn, Pv.kn_go_times, Pv.kn_jump_go, Pv.kn_jump_turn, Pv.kn_jump_times, Pv.kn_turn_go, Pv.kn_turn_jump, Pv.kn_turn_times, Pv.kn_times_go, Pv.kn_times_jump, Pv.kn_times_turn, Pv.kp_go, Pv.kp_jump, Pv.kp_turn, Pv.kp_times, Pv.kz_go, Pv.kz_jump, Pv.kz_turn, Pv.kz_times, t_checked_deed_count, N_checked_deed_count, raise3]
      by_cases hs : s = "times"
      · rw [if_pos hs]
        refine ⟨s, a, rfl, hr a (by simp), ?_⟩
        cases hn : ckN s a with
        | true =>
          rw [hn] at q
          simp only [hs, true_and, if_true] at q
          simp only [if_true, told]
          refine ⟨b, k + 1, rfl, fun _ => by omega, by omega, by omega, hr b (by simp), ?_⟩
          cases hw : ckW (j + 1) b (k + 1) with
          | none => rw [hw] at q; exact q
          | some c =>
            rw [hw] at q
            simp only [told] at q ⊢
            have e : ((1 + c : Nat) : Int) = 1 + (c : Int) := by omega
            rw [e] at q
            exact q
        | false =>
          rw [hn] at q
          simp only [Bool.false_eq_true, and_false, if_false, told] at q ⊢
          exact q
      · rw [if_neg hs]
        simp only [hs, false_and, if_false, told] at q
        exact ⟨by decide, q⟩
    | a :: b :: c :: r, hr, q =>
      simp only [ckD, told] at q
      simp only [Pv.seq3, Pv.next3, Pv.never3, Pv.brk3, Pv.cnt3, Pv.drop3, Pv.ret3, Pv.retN3, Pv.ifs3, Pv.gn3, Pv.gnil3, Pv.gcons3, Pv.gtup3, Pv.set3, Pv.asg3, Pv.par3, Pv.sub3, Pv.for3, Pv.is3, Pv.ir3, Pv.ir23, Pv.v3, Pv.c3, Pv.o3, Pv.un3, Pv.b3, Pv.and3, Pv.or3, Pv.not3, Pv.andV3, Pv.orV3, Pv.notV3, Pv.if3, Pv.nil3, Pv.cons3, Pv.tup3, Pv.lst3, Pv.call3, Pv.mt3, Pv.comp3, Pv.tt3, Pv.getI, List.set_cons_zero, List.set_cons_succ, Pv.int2, Pv.int20, Pv.subR, Pv.mulR, Pv.intR, Pv.sl3, Pv.np3, Pv.pt3, Pv.slR, Pv.modR, Pv.fdivR, Pv.powR, Pv.ltR, Pv.leR, Pv.gtR, Pv.geR, Pv.negR, Pv.addR, Pv.eqR_ii, Pv.eqR_ss, Pv.eqR_bb, Pv.eqR_is, Pv.neR_ii, Pv.neR_ss, Pv.neR_bb, Pv.inR, Pv.ixR, Pv.lenR, Pv.absR, Pv.tupR, Pv.sumR, Pv.tyN, Pv.isIn, Pv.isiR, Pv.appR, Pv.extR, Pv.smt3, Pv.joinR, Pv.splitR, Pv.startsR, Pv.pop3, Pv.lrev3, Pv.strR, Pv.start3, List.map_cons, List.map_nil, List.cons_append, List.nil_append, List.length_cons, List.length_nil, List.replicate, Pv.atI0, Pv.atI1, Pv.atI2, Nat.reduceAdd, Nat.reduceSub, Nat.zero_add, reduceIte, Pv.strs?, Bool.not_true, Bool.not_false, Bool.false_eq_true, if_false, if_true, decide_eq_true_eq, Bool.not_eq_true', decide_eq_false_iff_not, Pv.ixN0, Pv.ixN1, Pv.ixN2, true_and, and_true, Pv.cst0, Pv.cst1, Pv.cst2, Pv.cst3, Int.reduceEq, Option.bind_none, Option.bind_some, Pv.kn_go_jump, Pv.kn_go_turn, Pv.kn_go_times, Pv.kn_jump_go, Pv.kn_jump_turn, Pv.kn_jump_times, Pv.kn_turn_go, Pv.kn_turn_jump, Pv.kn_turn_times, Pv.kn_times_go, Pv.kn_times_jump, Pv.kn_times_turn, Pv.kp_go, Pv.kp_jump, Pv.kp_turn, Pv.kp_times, Pv.kz_go, Pv.kz_jump, Pv.kz_turn, Pv.kz_times, t_checked_deed_count, N_checked_deed_count, raise3]
      have e2 : ¬ (((r.length + 1 + 1 + 1 + 1 : Nat) : Int) = 2) := by omega
      have e3 : ¬ (((r.length + 1 + 1 + 1 + 1 : Nat) : Int) = 3) := by omega
      simp only [e2, e3, if_false]
      exact ⟨by decide, q⟩
theorem rd_checked_count (j : Nat) (XE : XE3) (ds : List D) (μ : Mu) (Q : VK3) (h : spxCount j XE ds μ Q) : t_checked_count XE (spxDeed j) { nx := fun _ μ' => Q .non μ', rt := Q } (start3 N_checked_count ds) μ := by
  obtain ⟨d, k, rfl, h1, h2, h3, sh, q⟩ := h
  cases sh with
  | int n =>
    simp only [ckW, told] at q
    exact And.intro (by decide) q
  | wd l hl =>
    simp only [ckW] at q
    simp only [Pv.seq3, Pv.next3, Pv.never3, Pv.brk3, Pv.cnt3, Pv.drop3, Pv.ret3, Pv.retN3, Pv.ifs3, Pv.gn3, Pv.gnil3, Pv.gcons3, Pv.gtup3, Pv.set3, Pv.asg3, Pv.par3, Pv.sub3, Pv.for3, Pv.is3, Pv.ir3, Pv.ir23, Pv.v3, Pv.c3, Pv.o3, Pv.un3, Pv.b3, Pv.and3, Pv.or3, Pv.not3, Pv.andV3, Pv.orV3, Pv.notV3, Pv.if3, Pv.nil3, Pv.cons3, Pv.tup3, Pv.lst3, Pv.call3, Pv.mt3, Pv.comp3, Pv.tt3, Pv.getI, List.set_cons_zero, List.set_cons_succ, Pv.int2, Pv.int20, Pv.subR, Pv.mulR, Pv.intR, Pv.sl3, Pv.np3, Pv.pt3, Pv.slR, Pv.modR, Pv.fdivR, Pv.powR, Pv.ltR, Pv.leR, Pv.gtR, Pv.geR, Pv.negR, Pv.addR, Pv.eqR_ii, Pv.eqR_ss, Pv.eqR_bb, Pv.eqR_is, Pv.neR_ii, Pv.neR_ss, Pv.neR_bb, Pv.inR, Pv.ixR, Pv.lenR, Pv.absR, Pv.tupR, Pv.sumR, Pv.tyN, Pv.isIn, Pv.isiR, Pv.appR, Pv.extR, Pv.smt3, Pv.joinR, Pv.splitR, Pv.startsR, Pv.pop3, Pv.lrev3, Pv.strR, Pv.start3, List.map_cons, List.map_nil, List.cons_append, List.nil_append, List.length_cons, List.length_nil, List.replicate, Pv.atI0, Pv.atI1, Pv.atI2, Nat.reduceAdd, Nat.reduceSub, Nat.zero_add, reduceIte, Pv.strs?, Bool.not_true, Bool.not_false, Bool.false_eq_true, if_false, if_true, decide_eq_true_eq, Bool.not_eq_true', decide_eq_false_iff_not, Pv.ixN0, Pv.ixN1, Pv.ixN2, true_and, and_true, Pv.cst0, Pv.cst1, Pv.cst2, Pv.cst3, Int.reduceEq, Option.bind_none, Option.bind_some, Pv.kn_go_jump, Pv.kn_go_turn, Pv.kn_go_times, Pv.kn_jump_go, Pv.kn_jump_turn, Pv.kn_jump_times, Pv.kn_turn_go, Pv.kn_turn_jump, Pv.kn_turn_times, Pv.kn_times_go, Pv.kn_times_jump, Pv.kn_times_turn, Pv.kp_go, Pv.kp_jump, Pv.kp_turn, Pv.kp_times, Pv.kz_go, Pv.kz_jump, Pv.kz_turn, Pv.kz_times, t_checked_count, N_checked_count, raise3]
    by_cases hk : 4 < k
    · rw [if_pos hk] at q ⊢
      exact ⟨by decide, q⟩
    · rw [if_neg hk] at q ⊢
      refine for_inv (fun r ρ μ' => μ' = μ ∧ ∃ (c : Nat) (dd : Option D), ρ = [some (.tup l), some (.int k), some (.int c), dd] ∧ (∀ x, x ∈ r → ShD x) ∧ told XE μ (fun c => Q (.int c) μ) (ckL (ckD (ckW j) k) r c)) ?_ (fun _ _ _ _ => trivial) ?_ ?_
      · exact ⟨rfl, 0, none, rfl, hl, q⟩
      · rintro ρ μ' ⟨rfl, c, dd, rfl, _, e2⟩
        simp only [ckL, told] at e2
        simp only [Pv.seq3, Pv.next3, Pv.never3, Pv.brk3, Pv.cnt3, Pv.drop3, Pv.ret3, Pv.retN3, Pv.ifs3, Pv.gn3, Pv.gnil3, Pv.gcons3, Pv.gtup3, Pv.set3, Pv.asg3, Pv.par3, Pv.sub3, Pv.for3, Pv.is3, Pv.ir3, Pv.ir23, Pv.v3, Pv.c3, Pv.o3, Pv.un3, Pv.b3, Pv.and3, Pv.or3, Pv.not3, Pv.andV3, Pv.orV3, Pv.notV3, Pv.if3, Pv.nil3, Pv.cons3, Pv.tup3, Pv.lst3, Pv.call3, Pv.mt3, Pv.comp3, Pv.tt3, Pv.getI, List.set_cons_zero, List.set_cons_succ, Pv.int2, Pv.int20, Pv.subR, Pv.mulR, Pv.intR, Pv.sl3, Pv.np3, Pv.pt3, Pv.slR, Pv.modR, Pv.fdivR, Pv.powR, Pv.ltR, Pv.leR, Pv.gtR, Pv.geR, Pv.negR, Pv.addR, Pv.eqR_ii, Pv.eqR_ss, Pv.eqR_bb, Pv.eqR_is, Pv.neR_ii, Pv.neR_ss, Pv.neR_bb, Pv.inR, Pv.ixR, Pv.lenR, Pv.absR, Pv.tupR, Pv.sumR, Pv.tyN, Pv.isIn, Pv.isiR, Pv.appR, Pv.extR, Pv.smt3, Pv.joinR, Pv.splitR, Pv.startsR, Pv.pop3, Pv.lrev3, Pv.strR, Pv.start3, List.map_cons, List.map_nil, List.cons_append, List.nil_append, List.length_cons, List.length_nil, List.replicate, Pv.atI0, Pv.atI1, Pv.atI2, Nat.reduceAdd, Nat.reduceSub, Nat.zero_add, reduceIte, Pv.strs?, Bool.not_true, Bool.not_false, Bool.false_eq_true, if_false, if_true, decide_eq_true_eq, Bool.not_eq_true', decide_eq_false_iff_not, Pv.ixN0, Pv.ixN1, Pv.ixN2, true_and, and_true, Pv.cst0, Pv.cst1, Pv.cst2, Pv.cst3, Int.reduceEq, Option.bind_none, Option.bind_some, Pv.kn_go_jump, Pv.kn_go_turn, Pv.kn_go_times, Pv.kn_jump_go, Pv.kn_jump_turn, Pv.kn_jump_times, Pv.kn_turn_go, Pv.kn_turn_jump, Pv.kn_turn_times, Pv.kn_times_go, Pv.kn_times_jump, Pv.kn_times_turn, Pv.kp_go, Pv.kp_jump, Pv.kp_turn, Pv.kp_times, Pv.kz_go, Pv.kz_jump, Pv.kz_turn, Pv.kz_times, cst0]
        exact e2
      · rintro x rest ρ μ' ⟨rfl, c, dd, rfl, hs, e2⟩
        simp only [Pv.seq3, Pv.next3, Pv.never3, Pv.brk3, Pv.cnt3, Pv.drop3, Pv.ret3, Pv.retN3, Pv.ifs3, Pv.gn3, Pv.gnil3, Pv.gcons3, Pv.gtup3, Pv.set3, Pv.asg3, Pv.par3, Pv.sub3, Pv.for3, Pv.is3, Pv.ir3, Pv.ir23, Pv.v3, Pv.c3, Pv.o3, Pv.un3, Pv.b3, Pv.and3, Pv.or3, Pv.not3, Pv.andV3, Pv.orV3, Pv.notV3, Pv.if3, Pv.nil3, Pv.cons3, Pv.tup3, Pv.lst3, Pv.call3, Pv.mt3, Pv.comp3, Pv.tt3, Pv.getI, List.set_cons_zero, List.set_cons_succ, Pv.int2, Pv.int20, Pv.subR, Pv.mulR, Pv.intR, Pv.sl3, Pv.np3, Pv.pt3, Pv.slR, Pv.modR, Pv.fdivR, Pv.powR, Pv.ltR, Pv.leR, Pv.gtR, Pv.geR, Pv.negR, Pv.addR, Pv.eqR_ii, Pv.eqR_ss, Pv.eqR_bb, Pv.eqR_is, Pv.neR_ii, Pv.neR_ss, Pv.neR_bb, Pv.inR, Pv.ixR, Pv.lenR, Pv.absR, Pv.tupR, Pv.sumR, Pv.tyN, Pv.isIn, Pv.isiR, Pv.appR, Pv.extR, Pv.smt3, Pv.joinR, Pv.splitR, Pv.startsR, Pv.pop3, Pv.lrev3, Pv.strR, Pv.start3, List.map_cons, List.map_nil, List.cons_append, List.nil_append, List.length_cons, List.length_nil, List.replicate, Pv.atI0, Pv.atI1, Pv.atI2, Nat.reduceAdd, Nat.reduceSub, Nat.zero_add, reduceIte, Pv.strs?, Bool.not_true, Bool.not_false, Bool.false_eq_true, if_false, if_true, decide_eq_true_eq, Bool.not_eq_true', decide_eq_false_iff_not, Pv.ixN0, Pv.ixN1, Pv.ixN2, true_and, and_true, Pv.cst0, Pv.cst1, Pv.cst2, Pv.cst3, Int.reduceEq, Option.bind_none, Option.bind_some, Pv.kn_go_jump, Pv.kn_go_turn, Pv.kn_go_times, Pv.kn_jump_go, Pv.kn_jump_turn, Pv.kn_jump_times, Pv.kn_turn_go, Pv.kn_turn_jump, Pv.kn_turn_times, Pv.kn_times_go, Pv.kn_times_jump, Pv.kn_times_turn, Pv.kp_go, Pv.kp_jump, Pv.kp_turn, Pv.kp_times, Pv.kz_go, Pv.kz_jump, Pv.kz_turn, Pv.kz_times, cst0]
        refine ⟨x, k, rfl, h1 (by omega), by omega, h3, hs x (by simp), ?_⟩
        simp only [ckL] at e2
        cases hc : ckD (ckW j) k x with
        | none => rw [hc] at e2; exact e2
        | some m =>
          rw [hc] at e2
          dsimp only at e2
          simp only [told]
          by_cases h30 : 30 < c + m
          · rw [if_pos h30] at e2
            rw [if_pos (by omega)]
            exact ⟨by decide, e2⟩
          · rw [if_neg h30] at e2
            rw [if_neg (by omega)]
            refine ⟨trivial, c + m, some x, ?_, fun y hy => hs y (List.mem_cons_of_mem _ hy), e2⟩
            have e : ((c + m : Nat) : Int) = (c : Int) + (m : Int) := by omega
            rw [e]
/-- a word, or what is none -/
noncomputable def Bad (d : D) : Prop := ShV d ∧ ckW 6 d 0 = none
noncomputable def spxChk (XE : XE3) : Sp3 := fun ds μ Q => ∃ d, ds = [d] ∧ ShV d ∧ told XE μ (fun _ => Q .non μ) (ckW 6 d 0)
theorem rd_check_word (XE : XE3) (ds : List D) (μ : Mu) (Q : VK3) (h : spxChk XE ds μ Q) : t_check_word XE (spxCount 5) { nx := fun _ μ' => Q .non μ', rt := Q } (start3 N_check_word ds) μ := by
  obtain ⟨d, rfl, sh, q⟩ := h
  simp only [Pv.seq3, Pv.next3, Pv.never3, Pv.brk3, Pv.cnt3, Pv.drop3, Pv.ret3, Pv.retN3, Pv.ifs3, Pv.gn3, Pv.gnil3, Pv.gcons3, Pv.gtup3, Pv.set3, Pv.asg3, Pv.par3, Pv.sub3, Pv.for3, Pv.is3, Pv.ir3, Pv.ir23, Pv.v3, Pv.c3, Pv.o3, Pv.un3, Pv.b3, Pv.and3, Pv.or3, Pv.not3, Pv.andV3, Pv.orV3, Pv.notV3, Pv.if3, Pv.nil3, Pv.cons3, Pv.tup3, Pv.lst3, Pv.call3, Pv.mt3, Pv.comp3, Pv.tt3, Pv.getI, List.set_cons_zero, List.set_cons_succ, Pv.int2, Pv.int20, Pv.subR, Pv.mulR, Pv.intR, Pv.sl3, Pv.np3, Pv.pt3, Pv.slR, Pv.modR, Pv.fdivR, Pv.powR, Pv.ltR, Pv.leR, Pv.gtR, Pv.geR, Pv.negR, Pv.addR, Pv.eqR_ii, Pv.eqR_ss, Pv.eqR_bb, Pv.eqR_is, Pv.neR_ii, Pv.neR_ss, Pv.neR_bb, Pv.inR, Pv.ixR, Pv.lenR, Pv.absR, Pv.tupR, Pv.sumR, Pv.tyN, Pv.isIn, Pv.isiR, Pv.appR, Pv.extR, Pv.smt3, Pv.joinR, Pv.splitR, Pv.startsR, Pv.pop3, Pv.lrev3, Pv.strR, Pv.start3, List.map_cons, List.map_nil, List.cons_append, List.nil_append, List.length_cons, List.length_nil, List.replicate, Pv.atI0, Pv.atI1, Pv.atI2, Nat.reduceAdd, Nat.reduceSub, Nat.zero_add, reduceIte, Pv.strs?, Bool.not_true, Bool.not_false, Bool.false_eq_true, if_false, if_true, decide_eq_true_eq, Bool.not_eq_true', decide_eq_false_iff_not, Pv.ixN0, Pv.ixN1, Pv.ixN2, true_and, and_true, Pv.cst0, Pv.cst1, Pv.cst2, Pv.cst3, Int.reduceEq, Option.bind_none, Option.bind_some, Pv.kn_go_jump, Pv.kn_go_turn, Pv.kn_go_times, Pv.kn_jump_go, Pv.kn_jump_turn, Pv.kn_jump_times, Pv.kn_turn_go, Pv.kn_turn_jump, Pv.kn_turn_times, Pv.kn_times_go, Pv.kn_times_jump, Pv.kn_times_turn, Pv.kp_go, Pv.kp_jump, Pv.kp_turn, Pv.kp_times, Pv.kz_go, Pv.kz_jump, Pv.kz_turn, Pv.kz_times, t_check_word, N_check_word]
  exact ⟨d, 0, rfl, fun _ => by decide, by decide, by decide, sh, q⟩
noncomputable def spxIn (XE : XE3) : Sp3 := fun ds μ Q => ∃ d, ds = [d] ∧ ShV d ∧ told XE μ (fun c => Q (.int c) μ) (ckW 6 d 0)
theorem rd_deeds_in (XE : XE3) (ds : List D) (μ : Mu) (Q : VK3) (h : spxIn XE ds μ Q) : t_deeds_in XE (spxCount 5) { nx := fun _ μ' => Q .non μ', rt := Q } (start3 N_deeds_in ds) μ := by
  obtain ⟨d, rfl, sh, q⟩ := h
  simp only [Pv.seq3, Pv.next3, Pv.never3, Pv.brk3, Pv.cnt3, Pv.drop3, Pv.ret3, Pv.retN3, Pv.ifs3, Pv.gn3, Pv.gnil3, Pv.gcons3, Pv.gtup3, Pv.set3, Pv.asg3, Pv.par3, Pv.sub3, Pv.for3, Pv.is3, Pv.ir3, Pv.ir23, Pv.v3, Pv.c3, Pv.o3, Pv.un3, Pv.b3, Pv.and3, Pv.or3, Pv.not3, Pv.andV3, Pv.orV3, Pv.notV3, Pv.if3, Pv.nil3, Pv.cons3, Pv.tup3, Pv.lst3, Pv.call3, Pv.mt3, Pv.comp3, Pv.tt3, Pv.getI, List.set_cons_zero, List.set_cons_succ, Pv.int2, Pv.int20, Pv.subR, Pv.mulR, Pv.intR, Pv.sl3, Pv.np3, Pv.pt3, Pv.slR, Pv.modR, Pv.fdivR, Pv.powR, Pv.ltR, Pv.leR, Pv.gtR, Pv.geR, Pv.negR, Pv.addR, Pv.eqR_ii, Pv.eqR_ss, Pv.eqR_bb, Pv.eqR_is, Pv.neR_ii, Pv.neR_ss, Pv.neR_bb, Pv.inR, Pv.ixR, Pv.lenR, Pv.absR, Pv.tupR, Pv.sumR, Pv.tyN, Pv.isIn, Pv.isiR, Pv.appR, Pv.extR, Pv.smt3, Pv.joinR, Pv.splitR, Pv.startsR, Pv.pop3, Pv.lrev3, Pv.strR, Pv.start3, List.map_cons, List.map_nil, List.cons_append, List.nil_append, List.length_cons, List.length_nil, List.replicate, Pv.atI0, Pv.atI1, Pv.atI2, Nat.reduceAdd, Nat.reduceSub, Nat.zero_add, reduceIte, Pv.strs?, Bool.not_true, Bool.not_false, Bool.false_eq_true, if_false, if_true, decide_eq_true_eq, Bool.not_eq_true', decide_eq_false_iff_not, Pv.ixN0, Pv.ixN1, Pv.ixN2, true_and, and_true, Pv.cst0, Pv.cst1, Pv.cst2, Pv.cst3, Int.reduceEq, Option.bind_none, Option.bind_some, Pv.kn_go_jump, Pv.kn_go_turn, Pv.kn_go_times, Pv.kn_jump_go, Pv.kn_jump_turn, Pv.kn_jump_times, Pv.kn_turn_go, Pv.kn_turn_jump, Pv.kn_turn_times, Pv.kn_times_go, Pv.kn_times_jump, Pv.kn_times_turn, Pv.kp_go, Pv.kp_jump, Pv.kp_turn, Pv.kp_times, Pv.kz_go, Pv.kz_jump, Pv.kz_turn, Pv.kz_times, t_deeds_in, N_deeds_in]
  exact ⟨d, 0, rfl, fun _ => by decide, by decide, by decide, sh, q⟩
/-! words pass -/
theorem ckN_go {n : Int} (h : 0 ≤ n ∧ n ≤ G) (s : Str) : ckN s (.int n) = true := by
  have h1 : -G ≤ n ∧ n ≤ G := by unfold G at *; omega
  have h2 : ¬ n < 0 := by omega
  simp only [ckN, h1, h2]; simp
theorem ckN_any {n : Int} (h : -G ≤ n ∧ n ≤ G) {s : Str} (hs : (["go", "times"] : List Str).contains s = false) : ckN s (.int n) = true := by
  simp only [ckN, h, hs]; simp
mutual
theorem ckD_ok : ∀ (d : Dd) (j : Nat) (k : Int), okd d → cnt d ≤ 30 → k + dep d ≤ 4 → 4 < k + j → ckD (ckW j) k (enc d) = some (cnt d)
  | .go n, j, k, h, _, _, _ => by simp only [okd] at h; simp only [enc, ckD, kp_go, ckN_go h, cnt, and_self, if_true]
  | .jump n, j, k, h, _, _, _ => by simp only [okd] at h; simp only [enc, ckD, kp_jump, ckN_any h kz_jump, cnt, and_self, if_true]
  | .turn n, j, k, h, _, _, _ => by simp only [okd] at h; simp only [enc, ckD, kp_turn, ckN_any h kz_turn, cnt, and_self, if_true]
  | .times n w, j, k, h, hc, hd, hj => by
    simp only [okd] at h
    simp only [cnt] at hc
    simp only [dep] at hd
    obtain ⟨i, rfl⟩ : ∃ i, j = i + 1 := ⟨j - 1, by omega⟩
    have e := ckL_ok w i (k + 1) h.2 0 (by omega) (by omega) (fun _ => by omega)
    simp only [enc, ckD, ckN_go h.1, and_self, if_true, ckW, if_neg (show ¬ 4 < k + 1 by omega), e, cnt, Nat.zero_add]
theorem ckL_ok : ∀ (w : List Dd) (j : Nat) (k : Int), oks w → ∀ c : Nat, c + cnts w ≤ 30 → k + deps w ≤ 4 → (w ≠ [] → 4 < k + j) → ckL (ckD (ckW j) k) (encs w) c = some (c + cnts w)
  | [], j, k, _, c, _, _, _ => by simp only [encs, ckL, cnts, Nat.add_zero]
  | d :: r, j, k, h, c, hc, hd, hj => by
    simp only [oks] at h
    simp only [cnts] at hc
    simp only [deps] at hd
    have e1 := ckD_ok d j k h.1 (by omega) (by omega) (hj (by simp))
    have e2 := ckL_ok r j k h.2 (c + cnt d) (by omega) (by omega) (fun _ => hj (by simp))
    simp only [encs, ckL, e1, if_neg (show ¬ 30 < c + cnt d by omega), e2, cnts, Nat.add_assoc]
end
theorem ckW_ok {w : List Dd} (h : Wd w) : ckW 6 (.tup (encs w)) 0 = some (cnts w) := by
  obtain ⟨h1, h2, h3⟩ := h
  have e := ckL_ok w 5 0 h1 0 (by omega) (by omega) (fun _ => by decide)
  simp only [ckW, if_neg (show ¬ (4 : Int) < 0 by decide), e, Nat.zero_add]
mutual
theorem shD_enc : ∀ d : Dd, ShD (enc d)
  | .go n => by simp only [enc]; exact .mk _ _ (by intro x hx; simp only [List.mem_singleton] at hx; subst hx; exact .int n)
  | .jump n => by simp only [enc]; exact .mk _ _ (by intro x hx; simp only [List.mem_singleton] at hx; subst hx; exact .int n)
  | .turn n => by simp only [enc]; exact .mk _ _ (by intro x hx; simp only [List.mem_singleton] at hx; subst hx; exact .int n)
  | .times n w => by
    simp only [enc]
    refine .mk _ _ (by
      intro x hx
      simp only [List.mem_cons, List.not_mem_nil, or_false] at hx
      rcases hx with rfl | rfl
      · exact .int n
      · exact .wd _ (shD_encs w))
theorem shD_encs : ∀ (w : List Dd) (x : D), x ∈ encs w → ShD x
  | [], x, h => by simp [encs] at h
  | d :: r, x, h => by
    simp only [encs, List.mem_cons] at h
    rcases h with rfl | h
    · exact shD_enc d
    · exact shD_encs r x h
end
/-- good or bad -/
inductive Gb (XE : XE3) (μ : Mu) (d : D) (R : List Dd → Prop) : Prop where
  | good (w : List Dd) : d = .tup (encs w) → Wd w → R w → Gb XE μ d R
  | bad : Bad d → XE "NoWord" μ → Gb XE μ d R
theorem Gb.chk {XE : XE3} {μ : Mu} {d : D} {R : List Dd → Prop} (g : Gb XE μ d R) {Q : VK3} (k : ∀ w, d = .tup (encs w) → Wd w → R w → Q .non μ) : spxChk XE [d] μ Q := by
  cases g with
  | good w e hw r =>
    refine ⟨d, rfl, by rw [e]; exact .wd _ (shD_encs w), ?_⟩
    rw [e, ckW_ok hw]
    exact k w e hw r
  | bad b x =>
    refine ⟨d, rfl, b.1, ?_⟩
    rw [b.2]
    exact x
/-! pens -/
noncomputable def encP (p : Pen) : D := .tup [.int p.1, .int p.2.1, .int p.2.2]
noncomputable def spLed : Sp3 := fun ds μ Q => ∃ p q, ds = [encP p, encP q] ∧ Hd p ∧ Q (encP (led p q)) μ
theorem ahead_at {h : Int} (hd : h = 0 ∨ h = 1 ∨ h = 2 ∨ h = 3) : atI [D.tup [D.int 1, D.int 0], D.tup [D.int 0, D.int 1], D.tup [D.int (-1), D.int 0], D.tup [D.int 0, D.int (-1)]] h = some (.tup [.int (cs h), .int (sn h)]) := by
  rcases hd with rfl | rfl | rfl | rfl <;> rfl
theorem cs_small (h : Int) : -(2 ^ 64) < cs h ∧ cs h < 2 ^ 64 := by unfold cs; split <;> (try split) <;> decide
theorem sn_small (h : Int) : -(2 ^ 64) < sn h ∧ sn h < 2 ^ 64 := by unfold sn; split <;> (try split) <;> decide
theorem ix_some {l : List D} {i : Int} {d : D} {μ : Mu} {Q : VK3} (e : atI l i = some d) (h : Q d μ) : ixR (.tup l) (.int i) μ Q := by
  unfold ixR
  simp only [e]
  exact h
theorem rd_led (ds : List D) (μ : Mu) (Q : VK3) (h : spLed ds μ Q) : t_led { nx := fun _ μ' => Q .non μ', rt := Q } (start3 N_led ds) μ := by
  obtain ⟨p, q, rfl, hp, k⟩ := h
  have c1 : CMul q.1 (cs p.2.2) := .inl (.inr (cs_small _))
  have c2 : CMul q.2.1 (sn p.2.2) := .inl (.inr (sn_small _))
  have c3 : CMul q.1 (sn p.2.2) := .inl (.inr (sn_small _))
  have c4 : CMul q.2.1 (cs p.2.2) := .inl (.inr (cs_small _))
  have d1 : (0 : Int) < 4 := by decide
  have d2 : 3 ≤ sizeLine := by decide
  show ixR k_AHEAD (.int p.2.2) μ (fun d μ1 => _)
  refine ix_some (ahead_at hp) ?_
  exact And.intro c1 (And.intro c2 (And.intro c3 (And.intro c4 (And.intro d1 (And.intro d2 k)))))
noncomputable def spRep : Sp3 := fun ds μ Q => ∃ p n, ds = [encP p, .int n] ∧ Hd p ∧ 0 ≤ n ∧ n ≤ G ∧ p.1.natAbs < 2 ^ 1000 ∧ p.2.1.natAbs < 2 ^ 1000 ∧ Q (encP (rep p n)) μ
theorem G_big {n : Int} (h0 : 0 ≤ n) (h1 : n ≤ G) : n.natAbs < Big :=
  nat_big h0 (Int.le_trans h1 (bd_one (c := 1) (e := 0) (Nat.le_refl _))) (by omega) (by omega)
theorem rd_pen_repeated (ds : List D) (μ : Mu) (Q : VK3) (h : spRep ds μ Q) : t_pen_repeated spLed { nx := fun _ μ' => Q .non μ', rt := Q } (start3 N_pen_repeated ds) μ := by
  obtain ⟨p, n, rfl, hp, h0, h1, b1, b2, k⟩ := h
  simp only [Pv.seq3, Pv.next3, Pv.never3, Pv.brk3, Pv.cnt3, Pv.drop3, Pv.ret3, Pv.retN3, Pv.ifs3, Pv.gn3, Pv.gnil3, Pv.gcons3, Pv.gtup3, Pv.set3, Pv.asg3, Pv.par3, Pv.sub3, Pv.for3, Pv.is3, Pv.ir3, Pv.ir23, Pv.v3, Pv.c3, Pv.o3, Pv.un3, Pv.b3, Pv.and3, Pv.or3, Pv.not3, Pv.andV3, Pv.orV3, Pv.notV3, Pv.if3, Pv.nil3, Pv.cons3, Pv.tup3, Pv.lst3, Pv.call3, Pv.mt3, Pv.comp3, Pv.tt3, Pv.getI, List.set_cons_zero, List.set_cons_succ, Pv.int2, Pv.int20, Pv.subR, Pv.mulR, Pv.intR, Pv.sl3, Pv.np3, Pv.pt3, Pv.slR, Pv.modR, Pv.fdivR, Pv.powR, Pv.ltR, Pv.leR, Pv.gtR, Pv.geR, Pv.negR, Pv.addR, Pv.eqR_ii, Pv.eqR_ss, Pv.eqR_bb, Pv.eqR_is, Pv.neR_ii, Pv.neR_ss, Pv.neR_bb, Pv.inR, Pv.ixR, Pv.lenR, Pv.absR, Pv.tupR, Pv.sumR, Pv.tyN, Pv.isIn, Pv.isiR, Pv.appR, Pv.extR, Pv.smt3, Pv.joinR, Pv.splitR, Pv.startsR, Pv.pop3, Pv.lrev3, Pv.strR, Pv.start3, List.map_cons, List.map_nil, List.cons_append, List.nil_append, List.length_cons, List.length_nil, List.replicate, Pv.atI0, Pv.atI1, Pv.atI2, Nat.reduceAdd, Nat.reduceSub, Nat.zero_add, reduceIte, Pv.strs?, Bool.not_true, Bool.not_false, Bool.false_eq_true, if_false, if_true, decide_eq_true_eq, Bool.not_eq_true', decide_eq_false_iff_not, Pv.ixN0, Pv.ixN1, Pv.ixN2, true_and, and_true, Pv.cst0, Pv.cst1, Pv.cst2, Pv.cst3, Int.reduceEq, Option.bind_none, Option.bind_some, Pv.kn_go_jump, Pv.kn_go_turn, Pv.kn_go_times, Pv.kn_jump_go, Pv.kn_jump_turn, Pv.kn_jump_times, Pv.kn_turn_go, Pv.kn_turn_jump, Pv.kn_turn_times, Pv.kn_times_go, Pv.kn_times_jump, Pv.kn_times_turn, Pv.kp_go, Pv.kp_jump, Pv.kp_turn, Pv.kp_times, Pv.kz_go, Pv.kz_jump, Pv.kz_turn, Pv.kz_times, t_pen_repeated, N_pen_repeated, encP]
  split
  · next e =>
    refine ⟨.inr ⟨b1, G_big h0 h1⟩, .inr ⟨b2, G_big h0 h1⟩, by decide, ?_⟩
    rw [rep, if_pos e] at k
    exact k
  · next e =>
    have hm : 0 ≤ n % 4 ∧ n % 4 < 4 := ⟨by omega, by omega⟩
    refine ⟨by decide, by omega, ?_⟩
    refine for_inv (fun l ρ μ' => μ' = μ ∧ ∃ (i : Nat) (dd : Option D), ρ = [some (encP p), some (.int n), some (encP (pw p i)), dd] ∧ i + l.length = (n % 4).toNat) ?_ (fun _ _ _ _ => trivial) ?_ ?_
    · refine ⟨rfl, 0, none, rfl, ?_⟩
      simp [rngD]
    · rintro ρ μ' ⟨rfl, i, dd, rfl, e2⟩
      simp only [Pv.seq3, Pv.next3, Pv.never3, Pv.brk3, Pv.cnt3, Pv.drop3, Pv.ret3, Pv.retN3, Pv.ifs3, Pv.gn3, Pv.gnil3, Pv.gcons3, Pv.gtup3, Pv.set3, Pv.asg3, Pv.par3, Pv.sub3, Pv.for3, Pv.is3, Pv.ir3, Pv.ir23, Pv.v3, Pv.c3, Pv.o3, Pv.un3, Pv.b3, Pv.and3, Pv.or3, Pv.not3, Pv.andV3, Pv.orV3, Pv.notV3, Pv.if3, Pv.nil3, Pv.cons3, Pv.tup3, Pv.lst3, Pv.call3, Pv.mt3, Pv.comp3, Pv.tt3, Pv.getI, List.set_cons_zero, List.set_cons_succ, Pv.int2, Pv.int20, Pv.subR, Pv.mulR, Pv.intR, Pv.sl3, Pv.np3, Pv.pt3, Pv.slR, Pv.modR, Pv.fdivR, Pv.powR, Pv.ltR, Pv.leR, Pv.gtR, Pv.geR, Pv.negR, Pv.addR, Pv.eqR_ii, Pv.eqR_ss, Pv.eqR_bb, Pv.eqR_is, Pv.neR_ii, Pv.neR_ss, Pv.neR_bb, Pv.inR, Pv.ixR, Pv.lenR, Pv.absR, Pv.tupR, Pv.sumR, Pv.tyN, Pv.isIn, Pv.isiR, Pv.appR, Pv.extR, Pv.smt3, Pv.joinR, Pv.splitR, Pv.startsR, Pv.pop3, Pv.lrev3, Pv.strR, Pv.start3, List.map_cons, List.map_nil, List.cons_append, List.nil_append, List.length_cons, List.length_nil, List.replicate, Pv.atI0, Pv.atI1, Pv.atI2, Nat.reduceAdd, Nat.reduceSub, Nat.zero_add, reduceIte, Pv.strs?, Bool.not_true, Bool.not_false, Bool.false_eq_true, if_false, if_true, decide_eq_true_eq, Bool.not_eq_true', decide_eq_false_iff_not, Pv.ixN0, Pv.ixN1, Pv.ixN2, true_and, and_true, Pv.cst0, Pv.cst1, Pv.cst2, Pv.cst3, Int.reduceEq, Option.bind_none, Option.bind_some, Pv.kn_go_jump, Pv.kn_go_turn, Pv.kn_go_times, Pv.kn_jump_go, Pv.kn_jump_turn, Pv.kn_jump_times, Pv.kn_turn_go, Pv.kn_turn_jump, Pv.kn_turn_times, Pv.kn_times_go, Pv.kn_times_jump, Pv.kn_times_turn, Pv.kp_go, Pv.kp_jump, Pv.kp_turn, Pv.kp_times, Pv.kz_go, Pv.kz_jump, Pv.kz_turn, Pv.kz_times, cst0]
      rw [rep, if_neg e] at k
      have e3 : i = (n % 4).toNat := by simpa using e2
      rw [e3]
      exact k
    · rintro x rest ρ μ' ⟨rfl, i, dd, rfl, e2⟩
      simp only [Pv.seq3, Pv.next3, Pv.never3, Pv.brk3, Pv.cnt3, Pv.drop3, Pv.ret3, Pv.retN3, Pv.ifs3, Pv.gn3, Pv.gnil3, Pv.gcons3, Pv.gtup3, Pv.set3, Pv.asg3, Pv.par3, Pv.sub3, Pv.for3, Pv.is3, Pv.ir3, Pv.ir23, Pv.v3, Pv.c3, Pv.o3, Pv.un3, Pv.b3, Pv.and3, Pv.or3, Pv.not3, Pv.andV3, Pv.orV3, Pv.notV3, Pv.if3, Pv.nil3, Pv.cons3, Pv.tup3, Pv.lst3, Pv.call3, Pv.mt3, Pv.comp3, Pv.tt3, Pv.getI, List.set_cons_zero, List.set_cons_succ, Pv.int2, Pv.int20, Pv.subR, Pv.mulR, Pv.intR, Pv.sl3, Pv.np3, Pv.pt3, Pv.slR, Pv.modR, Pv.fdivR, Pv.powR, Pv.ltR, Pv.leR, Pv.gtR, Pv.geR, Pv.negR, Pv.addR, Pv.eqR_ii, Pv.eqR_ss, Pv.eqR_bb, Pv.eqR_is, Pv.neR_ii, Pv.neR_ss, Pv.neR_bb, Pv.inR, Pv.ixR, Pv.lenR, Pv.absR, Pv.tupR, Pv.sumR, Pv.tyN, Pv.isIn, Pv.isiR, Pv.appR, Pv.extR, Pv.smt3, Pv.joinR, Pv.splitR, Pv.startsR, Pv.pop3, Pv.lrev3, Pv.strR, Pv.start3, List.map_cons, List.map_nil, List.cons_append, List.nil_append, List.length_cons, List.length_nil, List.replicate, Pv.atI0, Pv.atI1, Pv.atI2, Nat.reduceAdd, Nat.reduceSub, Nat.zero_add, reduceIte, Pv.strs?, Bool.not_true, Bool.not_false, Bool.false_eq_true, if_false, if_true, decide_eq_true_eq, Bool.not_eq_true', decide_eq_false_iff_not, Pv.ixN0, Pv.ixN1, Pv.ixN2, true_and, and_true, Pv.cst0, Pv.cst1, Pv.cst2, Pv.cst3, Int.reduceEq, Option.bind_none, Option.bind_some, Pv.kn_go_jump, Pv.kn_go_turn, Pv.kn_go_times, Pv.kn_jump_go, Pv.kn_jump_turn, Pv.kn_jump_times, Pv.kn_turn_go, Pv.kn_turn_jump, Pv.kn_turn_times, Pv.kn_times_go, Pv.kn_times_jump, Pv.kn_times_turn, Pv.kp_go, Pv.kp_jump, Pv.kp_turn, Pv.kp_times, Pv.kz_go, Pv.kz_jump, Pv.kz_turn, Pv.kz_times, cst0]
      refine ⟨pw p i, p, rfl, hd_pw p i, rfl, i + 1, some x, rfl, ?_⟩
      rw [List.length_cons] at e2
      omega
noncomputable def spPb (j : Nat) : Sp3 := fun ds μ Q => ∃ w, ds = [.tup (encs w)] ∧ deps w < j ∧ deps w ≤ 5 ∧ cnts w ≤ 60 ∧ oks w ∧ Q (encP (pb w)) μ
noncomputable def spPd (j : Nat) : Sp3 := fun ds μ Q => ∃ d, ds = [enc d] ∧ dep d < j ∧ dep d ≤ 5 ∧ cnt d ≤ 60 ∧ okd d ∧ Q (encP (pd d)) μ
theorem rd_pen_behind_deed (j : Nat) (ds : List D) (μ : Mu) (Q : VK3) (h : spPd (j + 1) ds μ Q) : t_pen_behind_deed (spPb j) spRep { nx := fun _ μ' => Q .non μ', rt := Q } (start3 N_pen_behind_deed ds) μ := by
  obtain ⟨d, rfl, h1, h2, h2', h3, q⟩ := h
  cases d
  case go n => exact And.intro (show 3 ≤ sizeLine by decide) q
  case jump n => exact And.intro (show 3 ≤ sizeLine by decide) q
  case turn n => exact And.intro (show (0 : Int) < 4 by decide) (And.intro (show 3 ≤ sizeLine by decide) q)
  case times n w =>
    simp only [okd, dep, cnt, pd] at h1 h2 h2' h3 q
    obtain ⟨b1, b2⟩ := pm_big (pm_pb w h3.2) (by omega) (by omega)
    exact ⟨w, rfl, by omega, by omega, by omega, h3.2, pb w, n, rfl, hd_pb w, h3.1.1, h3.1.2, b1, b2, q⟩
theorem rd_pen_behind (j : Nat) (ds : List D) (μ : Mu) (Q : VK3) (h : spPb j ds μ Q) : t_pen_behind spLed (spPd j) { nx := fun _ μ' => Q .non μ', rt := Q } (start3 N_pen_behind ds) μ := by
  obtain ⟨w, rfl, h1, h2, h2', h3, q⟩ := h
  refine for_inv (fun l ρ μ' => μ' = μ ∧ ∃ (r : List Dd) (p : Pen) (dd : Option D), l = encs r ∧ ρ = [some (.tup (encs w)), some (encP p), dd] ∧ oks r ∧ deps r ≤ deps w ∧ cnts r ≤ cnts w ∧ Hd p ∧ led p (pb r) = pb w) ?_ (fun _ _ _ _ => trivial) ?_ ?_
  · exact ⟨rfl, w, st, none, rfl, rfl, h3, Nat.le_refl _, Nat.le_refl _, hd_st, st_led (hd_pb w)⟩
  · rintro ρ μ' ⟨rfl, r, p, dd, e, rfl, _, _, _, hp, e2⟩
    cases r with
    | nil =>
      simp only [pb] at e2
      rw [led_st hp] at e2
      simp only [Pv.seq3, Pv.next3, Pv.never3, Pv.brk3, Pv.cnt3, Pv.drop3, Pv.ret3, Pv.retN3, Pv.ifs3, Pv.gn3, Pv.gnil3, Pv.gcons3, Pv.gtup3, Pv.set3, Pv.asg3, Pv.par3, Pv.sub3, Pv.for3, Pv.is3, Pv.ir3, Pv.ir23, Pv.v3, Pv.c3, Pv.o3, Pv.un3, Pv.b3, Pv.and3, Pv.or3, Pv.not3, Pv.andV3, Pv.orV3, Pv.notV3, Pv.if3, Pv.nil3, Pv.cons3, Pv.tup3, Pv.lst3, Pv.call3, Pv.mt3, Pv.comp3, Pv.tt3, Pv.getI, List.set_cons_zero, List.set_cons_succ, Pv.int2, Pv.int20, Pv.subR, Pv.mulR, Pv.intR, Pv.sl3, Pv.np3, Pv.pt3, Pv.slR, Pv.modR, Pv.fdivR, Pv.powR, Pv.ltR, Pv.leR, Pv.gtR, Pv.geR, Pv.negR, Pv.addR, Pv.eqR_ii, Pv.eqR_ss, Pv.eqR_bb, Pv.eqR_is, Pv.neR_ii, Pv.neR_ss, Pv.neR_bb, Pv.inR, Pv.ixR, Pv.lenR, Pv.absR, Pv.tupR, Pv.sumR, Pv.tyN, Pv.isIn, Pv.isiR, Pv.appR, Pv.extR, Pv.smt3, Pv.joinR, Pv.splitR, Pv.startsR, Pv.pop3, Pv.lrev3, Pv.strR, Pv.start3, List.map_cons, List.map_nil, List.cons_append, List.nil_append, List.length_cons, List.length_nil, List.replicate, Pv.atI0, Pv.atI1, Pv.atI2, Nat.reduceAdd, Nat.reduceSub, Nat.zero_add, reduceIte, Pv.strs?, Bool.not_true, Bool.not_false, Bool.false_eq_true, if_false, if_true, decide_eq_true_eq, Bool.not_eq_true', decide_eq_false_iff_not, Pv.ixN0, Pv.ixN1, Pv.ixN2, true_and, and_true, Pv.cst0, Pv.cst1, Pv.cst2, Pv.cst3, Int.reduceEq, Option.bind_none, Option.bind_some, Pv.kn_go_jump, Pv.kn_go_turn, Pv.kn_go_times, Pv.kn_jump_go, Pv.kn_jump_turn, Pv.kn_jump_times, Pv.kn_turn_go, Pv.kn_turn_jump, Pv.kn_turn_times, Pv.kn_times_go, Pv.kn_times_jump, Pv.kn_times_turn, Pv.kp_go, Pv.kp_jump, Pv.kp_turn, Pv.kp_times, Pv.kz_go, Pv.kz_jump, Pv.kz_turn, Pv.kz_times, cst0]
      rw [e2]
      exact q
    | cons _ _ => simp [encs] at e
  · rintro x rest ρ μ' ⟨rfl, r, p, dd, e, rfl, o, dp, cn, hp, e2⟩
    cases r with
    | nil => simp [encs] at e
    | cons d r =>
      simp only [encs, List.cons.injEq] at e
      obtain ⟨rfl, rfl⟩ := e
      simp only [oks, deps, cnts, pb] at o dp cn e2
      simp only [Pv.seq3, Pv.next3, Pv.never3, Pv.brk3, Pv.cnt3, Pv.drop3, Pv.ret3, Pv.retN3, Pv.ifs3, Pv.gn3, Pv.gnil3, Pv.gcons3, Pv.gtup3, Pv.set3, Pv.asg3, Pv.par3, Pv.sub3, Pv.for3, Pv.is3, Pv.ir3, Pv.ir23, Pv.v3, Pv.c3, Pv.o3, Pv.un3, Pv.b3, Pv.and3, Pv.or3, Pv.not3, Pv.andV3, Pv.orV3, Pv.notV3, Pv.if3, Pv.nil3, Pv.cons3, Pv.tup3, Pv.lst3, Pv.call3, Pv.mt3, Pv.comp3, Pv.tt3, Pv.getI, List.set_cons_zero, List.set_cons_succ, Pv.int2, Pv.int20, Pv.subR, Pv.mulR, Pv.intR, Pv.sl3, Pv.np3, Pv.pt3, Pv.slR, Pv.modR, Pv.fdivR, Pv.powR, Pv.ltR, Pv.leR, Pv.gtR, Pv.geR, Pv.negR, Pv.addR, Pv.eqR_ii, Pv.eqR_ss, Pv.eqR_bb, Pv.eqR_is, Pv.neR_ii, Pv.neR_ss, Pv.neR_bb, Pv.inR, Pv.ixR, Pv.lenR, Pv.absR, Pv.tupR, Pv.sumR, Pv.tyN, Pv.isIn, Pv.isiR, Pv.appR, Pv.extR, Pv.smt3, Pv.joinR, Pv.splitR, Pv.startsR, Pv.pop3, Pv.lrev3, Pv.strR, Pv.start3, List.map_cons, List.map_nil, List.cons_append, List.nil_append, List.length_cons, List.length_nil, List.replicate, Pv.atI0, Pv.atI1, Pv.atI2, Nat.reduceAdd, Nat.reduceSub, Nat.zero_add, reduceIte, Pv.strs?, Bool.not_true, Bool.not_false, Bool.false_eq_true, if_false, if_true, decide_eq_true_eq, Bool.not_eq_true', decide_eq_false_iff_not, Pv.ixN0, Pv.ixN1, Pv.ixN2, true_and, and_true, Pv.cst0, Pv.cst1, Pv.cst2, Pv.cst3, Int.reduceEq, Option.bind_none, Option.bind_some, Pv.kn_go_jump, Pv.kn_go_turn, Pv.kn_go_times, Pv.kn_jump_go, Pv.kn_jump_turn, Pv.kn_jump_times, Pv.kn_turn_go, Pv.kn_turn_jump, Pv.kn_turn_times, Pv.kn_times_go, Pv.kn_times_jump, Pv.kn_times_turn, Pv.kp_go, Pv.kp_jump, Pv.kp_turn, Pv.kp_times, Pv.kz_go, Pv.kz_jump, Pv.kz_turn, Pv.kz_times, cst0]
      refine ⟨d, rfl, by omega, by omega, by omega, o.1, p, pd d, rfl, hp, rfl, r, led p (pd d), some (enc d), rfl, rfl, o.2, by omega, by omega, hd_led _ _, ?_⟩
      rw [led_assoc _ hp (hd_pd d o.1)]
      exact e2
/-! counts -/
noncomputable def spSk (j : Nat) : Sp3 := fun ds μ Q => ∃ w, ds = [.tup (encs w)] ∧ deps w < j ∧ deps w ≤ 5 ∧ cnts w ≤ 60 ∧ oks w ∧ ∀ μ', Ext μ μ' → Q (.int (sks w)) μ'
noncomputable def spSkd (j : Nat) : Sp3 := fun ds μ Q => ∃ d, ds = [enc d] ∧ dep d < j ∧ dep d ≤ 5 ∧ cnt d ≤ 60 ∧ okd d ∧ ∀ μ', Ext μ μ' → Q (.int (sk d)) μ'
theorem rd_count_strokes_of_deed (j : Nat) (ds : List D) (μ : Mu) (Q : VK3) (h : spSkd (j + 1) ds μ Q) : t_count_strokes_of_deed (spSk j) { nx := fun _ μ' => Q .non μ', rt := Q } (start3 N_count_strokes_of_deed ds) μ := by
  obtain ⟨d, rfl, h1, h2, h2', h3, q⟩ := h
  cases d
  case go n => exact q _ (Ext.refl _)
  case jump n => exact q _ (Ext.refl _)
  case turn n => exact q _ (Ext.refl _)
  case times n w =>
    simp only [okd, dep, cnt, sk] at h1 h2 h2' h3 q
    refine ⟨w, rfl, by omega, by omega, by omega, h3.2, fun μ' e => ?_⟩
    obtain ⟨a, b⟩ := sks_bd w h3.2
    have hn : n ≤ bd 1 0 := Int.le_trans h3.1.2 (bd_one (Nat.le_refl _))
    exact ⟨.inr ⟨nat_big h3.1.1 hn (by omega) (by omega), nat_big a b (by omega) (by omega)⟩, q μ' e⟩
theorem ints_encs : ∀ (f : Dd → Int) (r : List Dd), ints? (r.map fun d => D.int (f d)) = some (r.map f)
  | f, [] => rfl
  | f, d :: r => by simp only [List.map_cons, ints?, ints_encs f r]
theorem sks_sum : ∀ w, (w.map sk).sum = sks w
  | [] => by simp [sks]
  | d :: r => by simp only [List.map_cons, List.sum_cons, sks, sks_sum r]
theorem rd_count_strokes (j : Nat) (ds : List D) (μ : Mu) (Q : VK3) (h : spSk j ds μ Q) : t_count_strokes (spSkd j) { nx := fun _ μ' => Q .non μ', rt := Q } (start3 N_count_strokes ds) μ := by
  obtain ⟨w, rfl, h1, h2, h2', h3, q⟩ := h
  simp only [Pv.seq3, Pv.next3, Pv.never3, Pv.brk3, Pv.cnt3, Pv.drop3, Pv.ret3, Pv.retN3, Pv.ifs3, Pv.gn3, Pv.gnil3, Pv.gcons3, Pv.gtup3, Pv.set3, Pv.asg3, Pv.par3, Pv.sub3, Pv.for3, Pv.is3, Pv.ir3, Pv.ir23, Pv.v3, Pv.c3, Pv.o3, Pv.un3, Pv.b3, Pv.and3, Pv.or3, Pv.not3, Pv.andV3, Pv.orV3, Pv.notV3, Pv.if3, Pv.nil3, Pv.cons3, Pv.tup3, Pv.lst3, Pv.call3, Pv.mt3, Pv.comp3, Pv.tt3, Pv.getI, List.set_cons_zero, List.set_cons_succ, Pv.int2, Pv.int20, Pv.subR, Pv.mulR, Pv.intR, Pv.sl3, Pv.np3, Pv.pt3, Pv.slR, Pv.modR, Pv.fdivR, Pv.powR, Pv.ltR, Pv.leR, Pv.gtR, Pv.geR, Pv.negR, Pv.addR, Pv.eqR_ii, Pv.eqR_ss, Pv.eqR_bb, Pv.eqR_is, Pv.neR_ii, Pv.neR_ss, Pv.neR_bb, Pv.inR, Pv.ixR, Pv.lenR, Pv.absR, Pv.tupR, Pv.sumR, Pv.tyN, Pv.isIn, Pv.isiR, Pv.appR, Pv.extR, Pv.smt3, Pv.joinR, Pv.splitR, Pv.startsR, Pv.pop3, Pv.lrev3, Pv.strR, Pv.start3, List.map_cons, List.map_nil, List.cons_append, List.nil_append, List.length_cons, List.length_nil, List.replicate, Pv.atI0, Pv.atI1, Pv.atI2, Nat.reduceAdd, Nat.reduceSub, Nat.zero_add, reduceIte, Pv.strs?, Bool.not_true, Bool.not_false, Bool.false_eq_true, if_false, if_true, decide_eq_true_eq, Bool.not_eq_true', decide_eq_false_iff_not, Pv.ixN0, Pv.ixN1, Pv.ixN2, true_and, and_true, Pv.cst0, Pv.cst1, Pv.cst2, Pv.cst3, Int.reduceEq, Option.bind_none, Option.bind_some, Pv.kn_go_jump, Pv.kn_go_turn, Pv.kn_go_times, Pv.kn_jump_go, Pv.kn_jump_turn, Pv.kn_jump_times, Pv.kn_turn_go, Pv.kn_turn_jump, Pv.kn_turn_times, Pv.kn_times_go, Pv.kn_times_jump, Pv.kn_times_turn, Pv.kp_go, Pv.kp_jump, Pv.kp_turn, Pv.kp_times, Pv.kz_go, Pv.kz_jump, Pv.kz_turn, Pv.kz_times, t_count_strokes, N_count_strokes]
  intro p hp
  have hl := len_le_cnts w
  have hz : (100 : Nat) < sizeLine := by decide
  refine comp_map (rest := []) (fun d => D.int (sk (dec d))) hp (by rw [encs_length]; omega) (fun _ _ => trivial) (fun x hx μ' R e k => ?_) fun μ' e e2 => ?_
  · obtain ⟨d, hd, rfl⟩ := mem_encs hx
    obtain ⟨d1, d2, d3⟩ := mem_bounds hd h3
    simp only [Pv.seq3, Pv.next3, Pv.never3, Pv.brk3, Pv.cnt3, Pv.drop3, Pv.ret3, Pv.retN3, Pv.ifs3, Pv.gn3, Pv.gnil3, Pv.gcons3, Pv.gtup3, Pv.set3, Pv.asg3, Pv.par3, Pv.sub3, Pv.for3, Pv.is3, Pv.ir3, Pv.ir23, Pv.v3, Pv.c3, Pv.o3, Pv.un3, Pv.b3, Pv.and3, Pv.or3, Pv.not3, Pv.andV3, Pv.orV3, Pv.notV3, Pv.if3, Pv.nil3, Pv.cons3, Pv.tup3, Pv.lst3, Pv.call3, Pv.mt3, Pv.comp3, Pv.tt3, Pv.getI, List.set_cons_zero, List.set_cons_succ, Pv.int2, Pv.int20, Pv.subR, Pv.mulR, Pv.intR, Pv.sl3, Pv.np3, Pv.pt3, Pv.slR, Pv.modR, Pv.fdivR, Pv.powR, Pv.ltR, Pv.leR, Pv.gtR, Pv.geR, Pv.negR, Pv.addR, Pv.eqR_ii, Pv.eqR_ss, Pv.eqR_bb, Pv.eqR_is, Pv.neR_ii, Pv.neR_ss, Pv.neR_bb, Pv.inR, Pv.ixR, Pv.lenR, Pv.absR, Pv.tupR, Pv.sumR, Pv.tyN, Pv.isIn, Pv.isiR, Pv.appR, Pv.extR, Pv.smt3, Pv.joinR, Pv.splitR, Pv.startsR, Pv.pop3, Pv.lrev3, Pv.strR, Pv.start3, List.map_cons, List.map_nil, List.cons_append, List.nil_append, List.length_cons, List.length_nil, List.replicate, Pv.atI0, Pv.atI1, Pv.atI2, Nat.reduceAdd, Nat.reduceSub, Nat.zero_add, reduceIte, Pv.strs?, Bool.not_true, Bool.not_false, Bool.false_eq_true, if_false, if_true, decide_eq_true_eq, Bool.not_eq_true', decide_eq_false_iff_not, Pv.ixN0, Pv.ixN1, Pv.ixN2, true_and, and_true, Pv.cst0, Pv.cst1, Pv.cst2, Pv.cst3, Int.reduceEq, Option.bind_none, Option.bind_some, Pv.kn_go_jump, Pv.kn_go_turn, Pv.kn_go_times, Pv.kn_jump_go, Pv.kn_jump_turn, Pv.kn_jump_times, Pv.kn_turn_go, Pv.kn_turn_jump, Pv.kn_turn_times, Pv.kn_times_go, Pv.kn_times_jump, Pv.kn_times_turn, Pv.kp_go, Pv.kp_jump, Pv.kp_turn, Pv.kp_times, Pv.kz_go, Pv.kz_jump, Pv.kz_turn, Pv.kz_times, cst0]
    refine ⟨d, rfl, by omega, by omega, by omega, d3, fun μ2 e2 => ?_⟩
    rw [dec_enc] at k
    exact k μ2 e2
  · simp only [Pv.seq3, Pv.next3, Pv.never3, Pv.brk3, Pv.cnt3, Pv.drop3, Pv.ret3, Pv.retN3, Pv.ifs3, Pv.gn3, Pv.gnil3, Pv.gcons3, Pv.gtup3, Pv.set3, Pv.asg3, Pv.par3, Pv.sub3, Pv.for3, Pv.is3, Pv.ir3, Pv.ir23, Pv.v3, Pv.c3, Pv.o3, Pv.un3, Pv.b3, Pv.and3, Pv.or3, Pv.not3, Pv.andV3, Pv.orV3, Pv.notV3, Pv.if3, Pv.nil3, Pv.cons3, Pv.tup3, Pv.lst3, Pv.call3, Pv.mt3, Pv.comp3, Pv.tt3, Pv.getI, List.set_cons_zero, List.set_cons_succ, Pv.int2, Pv.int20, Pv.subR, Pv.mulR, Pv.intR, Pv.sl3, Pv.np3, Pv.pt3, Pv.slR, Pv.modR, Pv.fdivR, Pv.powR, Pv.ltR, Pv.leR, Pv.gtR, Pv.geR, Pv.negR, Pv.addR, Pv.eqR_ii, Pv.eqR_ss, Pv.eqR_bb, Pv.eqR_is, Pv.neR_ii, Pv.neR_ss, Pv.neR_bb, Pv.inR, Pv.ixR, Pv.lenR, Pv.absR, Pv.tupR, Pv.sumR, Pv.tyN, Pv.isIn, Pv.isiR, Pv.appR, Pv.extR, Pv.smt3, Pv.joinR, Pv.splitR, Pv.startsR, Pv.pop3, Pv.lrev3, Pv.strR, Pv.start3, List.map_cons, List.map_nil, List.cons_append, List.nil_append, List.length_cons, List.length_nil, List.replicate, Pv.atI0, Pv.atI1, Pv.atI2, Nat.reduceAdd, Nat.reduceSub, Nat.zero_add, reduceIte, Pv.strs?, Bool.not_true, Bool.not_false, Bool.false_eq_true, if_false, if_true, decide_eq_true_eq, Bool.not_eq_true', decide_eq_false_iff_not, Pv.ixN0, Pv.ixN1, Pv.ixN2, true_and, and_true, Pv.cst0, Pv.cst1, Pv.cst2, Pv.cst3, Int.reduceEq, Option.bind_none, Option.bind_some, Pv.kn_go_jump, Pv.kn_go_turn, Pv.kn_go_times, Pv.kn_jump_go, Pv.kn_jump_turn, Pv.kn_jump_times, Pv.kn_turn_go, Pv.kn_turn_jump, Pv.kn_turn_times, Pv.kn_times_go, Pv.kn_times_jump, Pv.kn_times_turn, Pv.kp_go, Pv.kp_jump, Pv.kp_turn, Pv.kp_times, Pv.kz_go, Pv.kz_jump, Pv.kz_turn, Pv.kz_times, e2, map_dec, ints_encs, sks_sum]
    exact q μ' e

noncomputable def spDn (j : Nat) : Sp3 := fun ds μ Q => ∃ w, ds = [.tup (encs w)] ∧ deps w < j ∧ deps w ≤ 5 ∧ cnts w ≤ 60 ∧ oks w ∧ ∀ μ', Ext μ μ' → Q (.int (dns w)) μ'
noncomputable def spDnd (j : Nat) : Sp3 := fun ds μ Q => ∃ d, ds = [enc d] ∧ dep d < j ∧ dep d ≤ 5 ∧ cnt d ≤ 60 ∧ okd d ∧ ∀ μ', Ext μ μ' → Q (.int (dn d)) μ'
theorem rd_count_done_of_deed (j : Nat) (ds : List D) (μ : Mu) (Q : VK3) (h : spDnd (j + 1) ds μ Q) : t_count_done_of_deed (spDn j) { nx := fun _ μ' => Q .non μ', rt := Q } (start3 N_count_done_of_deed ds) μ := by
  obtain ⟨d, rfl, h1, h2, h2', h3, q⟩ := h
  cases d
  case go n => exact q _ (Ext.refl _)
  case jump n => exact q _ (Ext.refl _)
  case turn n => exact q _ (Ext.refl _)
  case times n w =>
    simp only [okd, dep, cnt, dn] at h1 h2 h2' h3 q
    refine ⟨w, rfl, by omega, by omega, by omega, h3.2, fun μ' e => ?_⟩
    obtain ⟨a, b⟩ := dns_bd w h3.2
    have hn : n ≤ bd 1 0 := Int.le_trans h3.1.2 (bd_one (Nat.le_refl _))
    exact ⟨.inr ⟨nat_big h3.1.1 hn (by omega) (by omega), nat_big a b (by omega) (by omega)⟩, q μ' e⟩
theorem dns_sum : ∀ w, (w.map dn).sum = dns w
  | [] => by simp [dns]
  | d :: r => by simp only [List.map_cons, List.sum_cons, dns, dns_sum r]
theorem rd_count_done (j : Nat) (ds : List D) (μ : Mu) (Q : VK3) (h : spDn j ds μ Q) : t_count_done (spDnd j) { nx := fun _ μ' => Q .non μ', rt := Q } (start3 N_count_done ds) μ := by
  obtain ⟨w, rfl, h1, h2, h2', h3, q⟩ := h
  simp only [Pv.seq3, Pv.next3, Pv.never3, Pv.brk3, Pv.cnt3, Pv.drop3, Pv.ret3, Pv.retN3, Pv.ifs3, Pv.gn3, Pv.gnil3, Pv.gcons3, Pv.gtup3, Pv.set3, Pv.asg3, Pv.par3, Pv.sub3, Pv.for3, Pv.is3, Pv.ir3, Pv.ir23, Pv.v3, Pv.c3, Pv.o3, Pv.un3, Pv.b3, Pv.and3, Pv.or3, Pv.not3, Pv.andV3, Pv.orV3, Pv.notV3, Pv.if3, Pv.nil3, Pv.cons3, Pv.tup3, Pv.lst3, Pv.call3, Pv.mt3, Pv.comp3, Pv.tt3, Pv.getI, List.set_cons_zero, List.set_cons_succ, Pv.int2, Pv.int20, Pv.subR, Pv.mulR, Pv.intR, Pv.sl3, Pv.np3, Pv.pt3, Pv.slR, Pv.modR, Pv.fdivR, Pv.powR, Pv.ltR, Pv.leR, Pv.gtR, Pv.geR, Pv.negR, Pv.addR, Pv.eqR_ii, Pv.eqR_ss, Pv.eqR_bb, Pv.eqR_is, Pv.neR_ii, Pv.neR_ss, Pv.neR_bb, Pv.inR, Pv.ixR, Pv.lenR, Pv.absR, Pv.tupR, Pv.sumR, Pv.tyN, Pv.isIn, Pv.isiR, Pv.appR, Pv.extR, Pv.smt3, Pv.joinR, Pv.splitR, Pv.startsR, Pv.pop3, Pv.lrev3, Pv.strR, Pv.start3, List.map_cons, List.map_nil, List.cons_append, List.nil_append, List.length_cons, List.length_nil, List.replicate, Pv.atI0, Pv.atI1, Pv.atI2, Nat.reduceAdd, Nat.reduceSub, Nat.zero_add, reduceIte, Pv.strs?, Bool.not_true, Bool.not_false, Bool.false_eq_true, if_false, if_true, decide_eq_true_eq, Bool.not_eq_true', decide_eq_false_iff_not, Pv.ixN0, Pv.ixN1, Pv.ixN2, true_and, and_true, Pv.cst0, Pv.cst1, Pv.cst2, Pv.cst3, Int.reduceEq, Option.bind_none, Option.bind_some, Pv.kn_go_jump, Pv.kn_go_turn, Pv.kn_go_times, Pv.kn_jump_go, Pv.kn_jump_turn, Pv.kn_jump_times, Pv.kn_turn_go, Pv.kn_turn_jump, Pv.kn_turn_times, Pv.kn_times_go, Pv.kn_times_jump, Pv.kn_times_turn, Pv.kp_go, Pv.kp_jump, Pv.kp_turn, Pv.kp_times, Pv.kz_go, Pv.kz_jump, Pv.kz_turn, Pv.kz_times, t_count_done, N_count_done]
  intro p hp
  have hl := len_le_cnts w
  have hz : (100 : Nat) < sizeLine := by decide
  refine comp_map (rest := []) (fun d => D.int (dn (dec d))) hp (by rw [encs_length]; omega) (fun _ _ => trivial) (fun x hx μ' R e k => ?_) fun μ' e e2 => ?_
  · obtain ⟨d, hd, rfl⟩ := mem_encs hx
    obtain ⟨d1, d2, d3⟩ := mem_bounds hd h3
    simp only [Pv.seq3, Pv.next3, Pv.never3, Pv.brk3, Pv.cnt3, Pv.drop3, Pv.ret3, Pv.retN3, Pv.ifs3, Pv.gn3, Pv.gnil3, Pv.gcons3, Pv.gtup3, Pv.set3, Pv.asg3, Pv.par3, Pv.sub3, Pv.for3, Pv.is3, Pv.ir3, Pv.ir23, Pv.v3, Pv.c3, Pv.o3, Pv.un3, Pv.b3, Pv.and3, Pv.or3, Pv.not3, Pv.andV3, Pv.orV3, Pv.notV3, Pv.if3, Pv.nil3, Pv.cons3, Pv.tup3, Pv.lst3, Pv.call3, Pv.mt3, Pv.comp3, Pv.tt3, Pv.getI, List.set_cons_zero, List.set_cons_succ, Pv.int2, Pv.int20, Pv.subR, Pv.mulR, Pv.intR, Pv.sl3, Pv.np3, Pv.pt3, Pv.slR, Pv.modR, Pv.fdivR, Pv.powR, Pv.ltR, Pv.leR, Pv.gtR, Pv.geR, Pv.negR, Pv.addR, Pv.eqR_ii, Pv.eqR_ss, Pv.eqR_bb, Pv.eqR_is, Pv.neR_ii, Pv.neR_ss, Pv.neR_bb, Pv.inR, Pv.ixR, Pv.lenR, Pv.absR, Pv.tupR, Pv.sumR, Pv.tyN, Pv.isIn, Pv.isiR, Pv.appR, Pv.extR, Pv.smt3, Pv.joinR, Pv.splitR, Pv.startsR, Pv.pop3, Pv.lrev3, Pv.strR, Pv.start3, List.map_cons, List.map_nil, List.cons_append, List.nil_append, List.length_cons, List.length_nil, List.replicate, Pv.atI0, Pv.atI1, Pv.atI2, Nat.reduceAdd, Nat.reduceSub, Nat.zero_add, reduceIte, Pv.strs?, Bool.not_true, Bool.not_false, Bool.false_eq_true, if_false, if_true, decide_eq_true_eq, Bool.not_eq_true', decide_eq_false_iff_not, Pv.ixN0, Pv.ixN1, Pv.ixN2, true_and, and_true, Pv.cst0, Pv.cst1, Pv.cst2, Pv.cst3, Int.reduceEq, Option.bind_none, Option.bind_some, Pv.kn_go_jump, Pv.kn_go_turn, Pv.kn_go_times, Pv.kn_jump_go, Pv.kn_jump_turn, Pv.kn_jump_times, Pv.kn_turn_go, Pv.kn_turn_jump, Pv.kn_turn_times, Pv.kn_times_go, Pv.kn_times_jump, Pv.kn_times_turn, Pv.kp_go, Pv.kp_jump, Pv.kp_turn, Pv.kp_times, Pv.kz_go, Pv.kz_jump, Pv.kz_turn, Pv.kz_times, cst0]
    refine ⟨d, rfl, by omega, by omega, by omega, d3, fun μ2 e2 => ?_⟩
    rw [dec_enc] at k
    exact k μ2 e2
  · simp only [Pv.seq3, Pv.next3, Pv.never3, Pv.brk3, Pv.cnt3, Pv.drop3, Pv.ret3, Pv.retN3, Pv.ifs3, Pv.gn3, Pv.gnil3, Pv.gcons3, Pv.gtup3, Pv.set3, Pv.asg3, Pv.par3, Pv.sub3, Pv.for3, Pv.is3, Pv.ir3, Pv.ir23, Pv.v3, Pv.c3, Pv.o3, Pv.un3, Pv.b3, Pv.and3, Pv.or3, Pv.not3, Pv.andV3, Pv.orV3, Pv.notV3, Pv.if3, Pv.nil3, Pv.cons3, Pv.tup3, Pv.lst3, Pv.call3, Pv.mt3, Pv.comp3, Pv.tt3, Pv.getI, List.set_cons_zero, List.set_cons_succ, Pv.int2, Pv.int20, Pv.subR, Pv.mulR, Pv.intR, Pv.sl3, Pv.np3, Pv.pt3, Pv.slR, Pv.modR, Pv.fdivR, Pv.powR, Pv.ltR, Pv.leR, Pv.gtR, Pv.geR, Pv.negR, Pv.addR, Pv.eqR_ii, Pv.eqR_ss, Pv.eqR_bb, Pv.eqR_is, Pv.neR_ii, Pv.neR_ss, Pv.neR_bb, Pv.inR, Pv.ixR, Pv.lenR, Pv.absR, Pv.tupR, Pv.sumR, Pv.tyN, Pv.isIn, Pv.isiR, Pv.appR, Pv.extR, Pv.smt3, Pv.joinR, Pv.splitR, Pv.startsR, Pv.pop3, Pv.lrev3, Pv.strR, Pv.start3, List.map_cons, List.map_nil, List.cons_append, List.nil_append, List.length_cons, List.length_nil, List.replicate, Pv.atI0, Pv.atI1, Pv.atI2, Nat.reduceAdd, Nat.reduceSub, Nat.zero_add, reduceIte, Pv.strs?, Bool.not_true, Bool.not_false, Bool.false_eq_true, if_false, if_true, decide_eq_true_eq, Bool.not_eq_true', decide_eq_false_iff_not, Pv.ixN0, Pv.ixN1, Pv.ixN2, true_and, and_true, Pv.cst0, Pv.cst1, Pv.cst2, Pv.cst3, Int.reduceEq, Option.bind_none, Option.bind_some, Pv.kn_go_jump, Pv.kn_go_turn, Pv.kn_go_times, Pv.kn_jump_go, Pv.kn_jump_turn, Pv.kn_jump_times, Pv.kn_turn_go, Pv.kn_turn_jump, Pv.kn_turn_times, Pv.kn_times_go, Pv.kn_times_jump, Pv.kn_times_turn, Pv.kp_go, Pv.kp_jump, Pv.kp_turn, Pv.kp_times, Pv.kz_go, Pv.kz_jump, Pv.kz_turn, Pv.kz_times, e2, map_dec, ints_encs, dns_sum]
    exact q μ' e

/-! words as marks -/
open Mt
mutual
noncomputable def mk : Dd → List Str
  | .go n => ["go", ns n]
  | .jump n => ["jump", ns n]
  | .turn n => ["turn", ns n]
  | .times n w => "times" :: ns n :: "[" :: (mks w ++ [("]" : Str)])
noncomputable def mks : List Dd → List Str
  | [] => []
  | d :: r => mk d ++ mks r
end
theorem mks_append : ∀ a b, mks (a ++ b) = mks a ++ mks b
  | [], b => by simp [mks]
  | d :: r, b => by simp only [List.cons_append, mks, mks_append r b, List.append_assoc]
theorem cp_go : cp ("go" : Str) = [103, 111] := by decide +kernel
theorem cp_jump : cp ("jump" : Str) = [106, 117, 109, 112] := by decide +kernel
theorem cp_turn : cp ("turn" : Str) = [116, 117, 114, 110] := by decide +kernel
theorem cp_times : cp ("times" : Str) = [116, 105, 109, 101, 115] := by decide +kernel
theorem cp_lb : cp ("[" : Str) = [91] := by decide +kernel
theorem cp_rb : cp ("]" : Str) = [93] := by decide +kernel
/-- how heavy marks are -/
noncomputable def wt (l : List Str) : Nat := (l.map fun t => (cp t).length + 1).sum
theorem wt_app (a b : List Str) : wt (a ++ b) = wt a + wt b := by unfold wt; rw [List.map_append, List.sum_append]
mutual
theorem wt_mk : ∀ d, okd d → wt (mk d) ≤ 40 * cnt d
  | .go n, h => by
    simp only [okd] at h
    have := ns_len (n := n) (by unfold G at h ⊢; omega)
    simp only [mk, wt, List.map_cons, List.map_nil, List.sum_cons, List.sum_nil, cp_go, List.length_cons, List.length_nil, cnt]; omega
  | .jump n, h => by
    simp only [okd] at h
    have := ns_len h
    simp only [mk, wt, List.map_cons, List.map_nil, List.sum_cons, List.sum_nil, cp_jump, List.length_cons, List.length_nil, cnt]; omega
  | .turn n, h => by
    simp only [okd] at h
    have := ns_len h
    simp only [mk, wt, List.map_cons, List.map_nil, List.sum_cons, List.sum_nil, cp_turn, List.length_cons, List.length_nil, cnt]; omega
  | .times n w, h => by
    simp only [okd] at h
    have h1 := ns_len (n := n) (by have := h.1; unfold G at this ⊢; omega)
    have h2 := wt_mks w h.2
    have e : mk (.times n w) = [("times" : Str), ns n, "["] ++ (mks w ++ [("]" : Str)]) := by simp only [mk]; rfl
    rw [e, wt_app, wt_app]
    simp only [wt, List.map_cons, List.map_nil, List.sum_cons, List.sum_nil, cp_times, cp_lb, cp_rb, List.length_cons, List.length_nil, cnt]
    have h3 : (List.map (fun t => (cp t).length + 1) (mks w)).sum ≤ 40 * cnts w := h2
    omega
theorem wt_mks : ∀ w, oks w → wt (mks w) ≤ 40 * cnts w
  | [], h => by simp [mks, wt, cnts]
  | d :: r, h => by
    simp only [oks] at h
    have h1 := wt_mk d h.1
    have h2 := wt_mks r h.2
    simp only [mks, cnts]
    rw [wt_app]
    omega
end
theorem len_wt : ∀ l : List Str, l.length ≤ wt l
  | [] => Nat.zero_le _
  | t :: r => by
    have := len_wt r
    simp only [wt, List.map_cons, List.sum_cons, List.length_cons]
    unfold wt at this
    omega
theorem sum_wt : ∀ l : List Str, (l.map (·.length)).sum + l.length = wt l
  | [] => rfl
  | t :: r => by
    have := sum_wt r
    simp only [wt, List.map_cons, List.sum_cons, List.length_cons] at this ⊢
    rw [cp_len t]
    omega
noncomputable def sD (l : List Str) : List D := l.map D.str
theorem sD_app (a b : List Str) : sD (a ++ b) = sD a ++ sD b := by simp [sD]
theorem sD_len (a : List Str) : (sD a).length = a.length := by simp [sD]
theorem strs_sD : ∀ l, strs? (sD l) = some l
  | [] => rfl
  | t :: r => by
    have := strs_sD r
    simp only [sD] at this
    simp only [sD, List.map_cons, strs?, this]
/-! marks_of, shown -/
noncomputable def spMarks (j : Nat) : Sp3 := fun ds μ Q => ∃ w, ds = [.tup (encs w)] ∧ deps w < j ∧ cnts w ≤ 30 ∧ oks w ∧ ∀ p μ', Ext μ μ' → μ p = none → μ' p = some (.lst (sD (mks w))) → Q (.ref p) μ'
noncomputable def WMarks (w : List Dd) (f : Addr) (μ : Mu) (l : List D) (ρ : St3) (μ' : Mu) : Prop := ∃ (r acc : List Dd) (a : Option D), l = encs r ∧ ρ = [some (.tup (encs w)), some (.ref f), a] ∧ Ext μ μ' ∧ μ' f = some (.lst (sD (mks acc))) ∧
  acc ++ r = w ∧ deps r ≤ deps w ∧ cnts r ≤ cnts w ∧ oks r
theorem rd_marks_of (j : Nat) (ds : List D) (μ : Mu) (Q : VK3) (h : spMarks (j + 1) ds μ Q) : t_marks_of (spMarks j) { nx := fun _ μ' => Q .non μ', rt := Q } (start3 N_marks_of ds) μ := by
  obtain ⟨w, rfl, h1, h2, h3, q⟩ := h
  have hz : (100000 : Nat) < sizeLine := by decide
  have hlen : (mks w).length ≤ 1200 := by
    have h4 := len_wt (mks w)
    have h5 := wt_mks w h3
    omega
  refine ⟨(by decide : 0 ≤ sizeLine), fun f hf => ?_⟩
  refine for_inv (WMarks w f μ) ?_ (fun _ _ _ _ => trivial) ?_ ?_
  · exact ⟨w, [], none, rfl, rfl, Ext.new hf, by rw [updM_same]; simp [mks, sD], rfl, Nat.le_refl _, Nat.le_refl _, h3⟩
  · rintro ρ μ' ⟨r, acc, a, e, rfl, ex, ef, ea, _⟩
    cases r with
    | nil =>
      simp only [List.append_nil] at ea
      subst ea
      simp only [Pv.seq3, Pv.next3, Pv.never3, Pv.brk3, Pv.cnt3, Pv.drop3, Pv.ret3, Pv.retN3, Pv.ifs3, Pv.gn3, Pv.gnil3, Pv.gcons3, Pv.gtup3, Pv.set3, Pv.asg3, Pv.par3, Pv.sub3, Pv.for3, Pv.is3, Pv.ir3, Pv.ir23, Pv.v3, Pv.c3, Pv.o3, Pv.un3, Pv.b3, Pv.and3, Pv.or3, Pv.not3, Pv.andV3, Pv.orV3, Pv.notV3, Pv.if3, Pv.nil3, Pv.cons3, Pv.tup3, Pv.lst3, Pv.call3, Pv.mt3, Pv.comp3, Pv.tt3, Pv.getI, List.set_cons_zero, List.set_cons_succ, Pv.int2, Pv.int20, Pv.subR, Pv.mulR, Pv.intR, Pv.sl3, Pv.np3, Pv.pt3, Pv.slR, Pv.modR, Pv.fdivR, Pv.powR, Pv.ltR, Pv.leR, Pv.gtR, Pv.geR, Pv.negR, Pv.addR, Pv.eqR_ii, Pv.eqR_ss, Pv.eqR_bb, Pv.eqR_is, Pv.neR_ii, Pv.neR_ss, Pv.neR_bb, Pv.inR, Pv.ixR, Pv.lenR, Pv.absR, Pv.tupR, Pv.sumR, Pv.tyN, Pv.isIn, Pv.isiR, Pv.appR, Pv.extR, Pv.smt3, Pv.joinR, Pv.splitR, Pv.startsR, Pv.pop3, Pv.lrev3, Pv.strR, Pv.start3, List.map_cons, List.map_nil, List.cons_append, List.nil_append, List.length_cons, List.length_nil, List.replicate, Pv.atI0, Pv.atI1, Pv.atI2, Nat.reduceAdd, Nat.reduceSub, Nat.zero_add, reduceIte, Pv.strs?, Bool.not_true, Bool.not_false, Bool.false_eq_true, if_false, if_true, decide_eq_true_eq, Bool.not_eq_true', decide_eq_false_iff_not, Pv.ixN0, Pv.ixN1, Pv.ixN2, true_and, and_true, Pv.cst0, Pv.cst1, Pv.cst2, Pv.cst3, Int.reduceEq, Option.bind_none, Option.bind_some, Pv.kn_go_jump, Pv.kn_go_turn, Pv.kn_go_times, Pv.kn_jump_go, Pv.kn_jump_turn, Pv.kn_jump_times, Pv.kn_turn_go, Pv.kn_turn_jump, Pv.kn_turn_times, Pv.kn_times_go, Pv.kn_times_jump, Pv.kn_times_turn, Pv.kp_go, Pv.kp_jump, Pv.kp_turn, Pv.kp_times, Pv.kz_go, Pv.kz_jump, Pv.kz_turn, Pv.kz_times, cst0]
      exact q f μ' ex hf ef
    | cons _ _ => simp [encs] at e
  · rintro x rest ρ μ' ⟨r, acc, a, e, rfl, ex, ef, ea, r1, r2, r3⟩
    cases r with
    | nil => simp [encs] at e
    | cons d r =>
      simp only [encs, List.cons.injEq] at e
      obtain ⟨rfl, rfl⟩ := e
      simp only [deps, cnts, oks] at r1 r2 r3
      have hla : (mks acc).length + (mk d).length ≤ 1200 := by
        have e2 := congrArg (fun v => (mks v).length) ea
        simp only [mks_append, mks, List.length_append] at e2
        omega
      have fin : ∀ (l : List Str) (μ2 : Mu), l = mk d → Ext μ μ2 → μ2 f = some (.lst (sD (mks acc) ++ sD l)) → WMarks w f μ (encs r) [some (.tup (encs w)), some (.ref f), some (enc d)] μ2 := fun l μ2 hl e2 ef2 => by
        refine ⟨r, acc ++ [d], some (enc d), rfl, rfl, e2, ?_, by simpa using ea, by omega, by omega, r3.2⟩
        rw [ef2, mks_append, sD_app, hl]
        simp only [mks, List.append_nil]
      have nxt : ∀ (t : Addr) (o o2 : MO), μ' t = none → Ext μ (updM (updM μ' t o) f o2) := fun t o o2 ht g o' hg => by
        have z := ex g o' hg
        rw [updM_ne (ne_free hg hf), updM_ne (ne_free z ht)]; exact z
      cases d
      case go n =>
        simp only [okd] at r3
        simp only [mk, List.length_cons, List.length_nil] at hla
        have hn : -G ≤ n ∧ n ≤ G := by have := r3.1; unfold G at this ⊢; omega
        conv => whnf
        rw [ef]
        refine ⟨log_ok hn, (show 2 ≤ sizeLine by decide), fun t ht => ?_⟩
        conv => whnf
        rw [updM_ne (ne_free ef ht), ef, updM_same]
        exact ⟨(show (sD (mks acc)).length + 2 ≤ sizeLine by rw [sD_len]; omega), fin ["go", ns n] _ (by simp only [mk]) (nxt _ _ _ ht) updM_same⟩
      case jump n =>
        simp only [okd] at r3
        simp only [mk, List.length_cons, List.length_nil] at hla
        conv => whnf
        rw [ef]
        refine ⟨log_ok r3.1, (show 2 ≤ sizeLine by decide), fun t ht => ?_⟩
        conv => whnf
        rw [updM_ne (ne_free ef ht), ef, updM_same]
        exact ⟨(show (sD (mks acc)).length + 2 ≤ sizeLine by rw [sD_len]; omega), fin ["jump", ns n] _ (by simp only [mk]) (nxt _ _ _ ht) updM_same⟩
      case turn n =>
        simp only [okd] at r3
        simp only [mk, List.length_cons, List.length_nil] at hla
        conv => whnf
        rw [ef]
        refine ⟨log_ok r3.1, (show 2 ≤ sizeLine by decide), fun t ht => ?_⟩
        conv => whnf
        rw [updM_ne (ne_free ef ht), ef, updM_same]
        exact ⟨(show (sD (mks acc)).length + 2 ≤ sizeLine by rw [sD_len]; omega), fin ["turn", ns n] _ (by simp only [mk]) (nxt _ _ _ ht) updM_same⟩
      case times n v =>
        simp only [okd, dep, cnt] at r1 r2 r3
        simp only [mk, List.length_cons, List.length_nil, List.length_append] at hla
        have hn : -G ≤ n ∧ n ≤ G := by have := r3.1; unfold G at this ⊢; omega
        conv => whnf
        rw [ef]
        refine ⟨log_ok hn, (show 2 ≤ sizeLine by decide), fun t ht => ?_⟩
        conv => whnf
        rw [updM_ne (ne_free ef ht), ef, updM_same]
        have ex1 := nxt t (.lst [.str "times", .str (ns n)]) (.lst (sD (mks acc) ++ [.str "times", .str (ns n)])) ht
        have ef1 : updM (updM μ' t (.lst [.str "times", .str (ns n)])) f (.lst (sD (mks acc) ++ [.str "times", .str (ns n)])) f = some (.lst (sD (mks acc) ++ [.str "times", .str (ns n)])) := updM_same
        refine ⟨(show (sD (mks acc)).length + 2 ≤ sizeLine by rw [sD_len]; omega), ?_⟩
        conv => whnf
        rw [updM_same]
        refine ⟨(show 1 ≤ sizeLine by decide), fun t2 ht2 => ?_⟩
        generalize hμ1 : updM (updM μ' t _) f _ = μ1 at ht2
        replace ex1 : Ext μ μ1 := by rw [← hμ1]; exact ex1
        replace ef1 : μ1 f = some (.lst (sD (mks acc) ++ [.str "times", .str (ns n)])) := by rw [← hμ1]; exact ef1
        refine ⟨v, rfl, by omega, by omega, r3.1.2, fun g μ2 ex2 hg eg => ?_⟩
        have et2 : μ2 t2 = some (.lst [.str "["]) := ex2 _ _ updM_same
        have ef2 : μ2 f = some (.lst (sD (mks acc) ++ [.str "times", .str (ns n)])) := ex2 _ _ (by rw [updM_ne (ne_free ef1 ht2)]; exact ef1)
        have exm : Ext μ μ2 := fun c o hc => ex2 _ _ (by rw [updM_ne (ne_free (ex1 _ _ hc) ht2)]; exact ex1 _ _ hc)
        simp only [Pv.seq3, Pv.next3, Pv.never3, Pv.brk3, Pv.cnt3, Pv.drop3, Pv.ret3, Pv.retN3, Pv.ifs3, Pv.gn3, Pv.gnil3, Pv.gcons3, Pv.gtup3, Pv.set3, Pv.asg3, Pv.par3, Pv.sub3, Pv.for3, Pv.is3, Pv.ir3, Pv.ir23, Pv.v3, Pv.c3, Pv.o3, Pv.un3, Pv.b3, Pv.and3, Pv.or3, Pv.not3, Pv.andV3, Pv.orV3, Pv.notV3, Pv.if3, Pv.nil3, Pv.cons3, Pv.tup3, Pv.lst3, Pv.call3, Pv.mt3, Pv.comp3, Pv.tt3, Pv.getI, List.set_cons_zero, List.set_cons_succ, Pv.int2, Pv.int20, Pv.subR, Pv.mulR, Pv.intR, Pv.sl3, Pv.np3, Pv.pt3, Pv.slR, Pv.modR, Pv.fdivR, Pv.powR, Pv.ltR, Pv.leR, Pv.gtR, Pv.geR, Pv.negR, Pv.addR, Pv.eqR_ii, Pv.eqR_ss, Pv.eqR_bb, Pv.eqR_is, Pv.neR_ii, Pv.neR_ss, Pv.neR_bb, Pv.inR, Pv.ixR, Pv.lenR, Pv.absR, Pv.tupR, Pv.sumR, Pv.tyN, Pv.isIn, Pv.isiR, Pv.appR, Pv.extR, Pv.smt3, Pv.joinR, Pv.splitR, Pv.startsR, Pv.pop3, Pv.lrev3, Pv.strR, Pv.start3, List.map_cons, List.map_nil, List.cons_append, List.nil_append, List.length_cons, List.length_nil, List.replicate, Pv.atI0, Pv.atI1, Pv.atI2, Nat.reduceAdd, Nat.reduceSub, Nat.zero_add, reduceIte, Pv.strs?, Bool.not_true, Bool.not_false, Bool.false_eq_true, if_false, if_true, decide_eq_true_eq, Bool.not_eq_true', decide_eq_false_iff_not, Pv.ixN0, Pv.ixN1, Pv.ixN2, true_and, and_true, Pv.cst0, Pv.cst1, Pv.cst2, Pv.cst3, Int.reduceEq, Option.bind_none, Option.bind_some, Pv.kn_go_jump, Pv.kn_go_turn, Pv.kn_go_times, Pv.kn_jump_go, Pv.kn_jump_turn, Pv.kn_jump_times, Pv.kn_turn_go, Pv.kn_turn_jump, Pv.kn_turn_times, Pv.kn_times_go, Pv.kn_times_jump, Pv.kn_times_turn, Pv.kp_go, Pv.kp_jump, Pv.kp_turn, Pv.kp_times, Pv.kz_go, Pv.kz_jump, Pv.kz_turn, Pv.kz_times, et2, eg]
        refine ⟨by rw [sD_len]; omega, fun t3 ht3 => ⟨by decide, fun t4 ht4 => ?_⟩⟩
        have n34 : t3 ≠ t4 := ne_free updM_same ht4
        simp only [Pv.seq3, Pv.next3, Pv.never3, Pv.brk3, Pv.cnt3, Pv.drop3, Pv.ret3, Pv.retN3, Pv.ifs3, Pv.gn3, Pv.gnil3, Pv.gcons3, Pv.gtup3, Pv.set3, Pv.asg3, Pv.par3, Pv.sub3, Pv.for3, Pv.is3, Pv.ir3, Pv.ir23, Pv.v3, Pv.c3, Pv.o3, Pv.un3, Pv.b3, Pv.and3, Pv.or3, Pv.not3, Pv.andV3, Pv.orV3, Pv.notV3, Pv.if3, Pv.nil3, Pv.cons3, Pv.tup3, Pv.lst3, Pv.call3, Pv.mt3, Pv.comp3, Pv.tt3, Pv.getI, List.set_cons_zero, List.set_cons_succ, Pv.int2, Pv.int20, Pv.subR, Pv.mulR, Pv.intR, Pv.sl3, Pv.np3, Pv.pt3, Pv.slR, Pv.modR, Pv.fdivR, Pv.powR, Pv.ltR, Pv.leR, Pv.gtR, Pv.geR, Pv.negR, Pv.addR, Pv.eqR_ii, Pv.eqR_ss, Pv.eqR_bb, Pv.eqR_is, Pv.neR_ii, Pv.neR_ss, Pv.neR_bb, Pv.inR, Pv.ixR, Pv.lenR, Pv.absR, Pv.tupR, Pv.sumR, Pv.tyN, Pv.isIn, Pv.isiR, Pv.appR, Pv.extR, Pv.smt3, Pv.joinR, Pv.splitR, Pv.startsR, Pv.pop3, Pv.lrev3, Pv.strR, Pv.start3, List.map_cons, List.map_nil, List.cons_append, List.nil_append, List.length_cons, List.length_nil, List.replicate, Pv.atI0, Pv.atI1, Pv.atI2, Nat.reduceAdd, Nat.reduceSub, Nat.zero_add, reduceIte, Pv.strs?, Bool.not_true, Bool.not_false, Bool.false_eq_true, if_false, if_true, decide_eq_true_eq, Bool.not_eq_true', decide_eq_false_iff_not, Pv.ixN0, Pv.ixN1, Pv.ixN2, true_and, and_true, Pv.cst0, Pv.cst1, Pv.cst2, Pv.cst3, Int.reduceEq, Option.bind_none, Option.bind_some, Pv.kn_go_jump, Pv.kn_go_turn, Pv.kn_go_times, Pv.kn_jump_go, Pv.kn_jump_turn, Pv.kn_jump_times, Pv.kn_turn_go, Pv.kn_turn_jump, Pv.kn_turn_times, Pv.kn_times_go, Pv.kn_times_jump, Pv.kn_times_turn, Pv.kp_go, Pv.kp_jump, Pv.kp_turn, Pv.kp_times, Pv.kz_go, Pv.kz_jump, Pv.kz_turn, Pv.kz_times, updM_ne n34, updM_same]
        refine ⟨by rw [sD_len]; omega, fun t5 ht5 => ?_⟩
        have ef3 : updM (updM μ2 t3 (.lst (.str "[" :: sD (mks v)))) t4 (.lst [.str "]"]) f = some (.lst (sD (mks acc) ++ [.str "times", .str (ns n)])) := by
          have z1 : updM μ2 t3 (.lst (.str "[" :: sD (mks v))) f = some (.lst (sD (mks acc) ++ [.str "times", .str (ns n)])) := by rw [updM_ne (ne_free ef2 ht3)]; exact ef2
          rw [updM_ne (ne_free z1 ht4)]; exact z1
        have nf5 : f ≠ t5 := ne_free ef3 ht5
        simp only [Pv.seq3, Pv.next3, Pv.never3, Pv.brk3, Pv.cnt3, Pv.drop3, Pv.ret3, Pv.retN3, Pv.ifs3, Pv.gn3, Pv.gnil3, Pv.gcons3, Pv.gtup3, Pv.set3, Pv.asg3, Pv.par3, Pv.sub3, Pv.for3, Pv.is3, Pv.ir3, Pv.ir23, Pv.v3, Pv.c3, Pv.o3, Pv.un3, Pv.b3, Pv.and3, Pv.or3, Pv.not3, Pv.andV3, Pv.orV3, Pv.notV3, Pv.if3, Pv.nil3, Pv.cons3, Pv.tup3, Pv.lst3, Pv.call3, Pv.mt3, Pv.comp3, Pv.tt3, Pv.getI, List.set_cons_zero, List.set_cons_succ, Pv.int2, Pv.int20, Pv.subR, Pv.mulR, Pv.intR, Pv.sl3, Pv.np3, Pv.pt3, Pv.slR, Pv.modR, Pv.fdivR, Pv.powR, Pv.ltR, Pv.leR, Pv.gtR, Pv.geR, Pv.negR, Pv.addR, Pv.eqR_ii, Pv.eqR_ss, Pv.eqR_bb, Pv.eqR_is, Pv.neR_ii, Pv.neR_ss, Pv.neR_bb, Pv.inR, Pv.ixR, Pv.lenR, Pv.absR, Pv.tupR, Pv.sumR, Pv.tyN, Pv.isIn, Pv.isiR, Pv.appR, Pv.extR, Pv.smt3, Pv.joinR, Pv.splitR, Pv.startsR, Pv.pop3, Pv.lrev3, Pv.strR, Pv.start3, List.map_cons, List.map_nil, List.cons_append, List.nil_append, List.length_cons, List.length_nil, List.replicate, Pv.atI0, Pv.atI1, Pv.atI2, Nat.reduceAdd, Nat.reduceSub, Nat.zero_add, reduceIte, Pv.strs?, Bool.not_true, Bool.not_false, Bool.false_eq_true, if_false, if_true, decide_eq_true_eq, Bool.not_eq_true', decide_eq_false_iff_not, Pv.ixN0, Pv.ixN1, Pv.ixN2, true_and, and_true, Pv.cst0, Pv.cst1, Pv.cst2, Pv.cst3, Int.reduceEq, Option.bind_none, Option.bind_some, Pv.kn_go_jump, Pv.kn_go_turn, Pv.kn_go_times, Pv.kn_jump_go, Pv.kn_jump_turn, Pv.kn_jump_times, Pv.kn_turn_go, Pv.kn_turn_jump, Pv.kn_turn_times, Pv.kn_times_go, Pv.kn_times_jump, Pv.kn_times_turn, Pv.kp_go, Pv.kp_jump, Pv.kp_turn, Pv.kp_times, Pv.kz_go, Pv.kz_jump, Pv.kz_turn, Pv.kz_times, updM_ne nf5, ef3, updM_same]
        refine ⟨by simp only [List.length_append, List.length_cons, List.length_nil, sD_len]; omega, fin ("times" :: ns n :: "[" :: (mks v ++ [("]" : Str)])) _ (by simp only [mk]) (fun c o hc => ?_) ?_⟩
        · have z0 := exm c o hc
          have z1 : updM μ2 t3 (.lst (.str "[" :: sD (mks v))) c = some o := by rw [updM_ne (ne_free z0 ht3)]; exact z0
          have z2 : updM (updM μ2 t3 (.lst (.str "[" :: sD (mks v)))) t4 (.lst [.str "]"]) c = some o := by rw [updM_ne (ne_free z1 ht4)]; exact z1
          rw [updM_ne (ne_free hc hf), updM_ne (ne_free z2 ht5)]; exact z2
        · rw [updM_same]
          simp [sD]
/-! the functions that refuse -/
noncomputable def spxSks (XE : XE3) : Sp3 := fun ds μ Q => ∃ d, ds = [d] ∧ Gb XE μ d (fun w => ∀ μ', Ext μ μ' → Q (.int (sks w)) μ')
theorem rd_strokes_drawn (XE : XE3) (ds : List D) (μ : Mu) (Q : VK3) (h : spxSks XE ds μ Q) : t_strokes_drawn XE spxChk (spSk 5) { nx := fun _ μ' => Q .non μ', rt := Q } (start3 N_strokes_drawn ds) μ := by
  obtain ⟨d, rfl, g⟩ := h
  simp only [Pv.seq3, Pv.next3, Pv.never3, Pv.brk3, Pv.cnt3, Pv.drop3, Pv.ret3, Pv.retN3, Pv.ifs3, Pv.gn3, Pv.gnil3, Pv.gcons3, Pv.gtup3, Pv.set3, Pv.asg3, Pv.par3, Pv.sub3, Pv.for3, Pv.is3, Pv.ir3, Pv.ir23, Pv.v3, Pv.c3, Pv.o3, Pv.un3, Pv.b3, Pv.and3, Pv.or3, Pv.not3, Pv.andV3, Pv.orV3, Pv.notV3, Pv.if3, Pv.nil3, Pv.cons3, Pv.tup3, Pv.lst3, Pv.call3, Pv.mt3, Pv.comp3, Pv.tt3, Pv.getI, List.set_cons_zero, List.set_cons_succ, Pv.int2, Pv.int20, Pv.subR, Pv.mulR, Pv.intR, Pv.sl3, Pv.np3, Pv.pt3, Pv.slR, Pv.modR, Pv.fdivR, Pv.powR, Pv.ltR, Pv.leR, Pv.gtR, Pv.geR, Pv.negR, Pv.addR, Pv.eqR_ii, Pv.eqR_ss, Pv.eqR_bb, Pv.eqR_is, Pv.neR_ii, Pv.neR_ss, Pv.neR_bb, Pv.inR, Pv.ixR, Pv.lenR, Pv.absR, Pv.tupR, Pv.sumR, Pv.tyN, Pv.isIn, Pv.isiR, Pv.appR, Pv.extR, Pv.smt3, Pv.joinR, Pv.splitR, Pv.startsR, Pv.pop3, Pv.lrev3, Pv.strR, Pv.start3, List.map_cons, List.map_nil, List.cons_append, List.nil_append, List.length_cons, List.length_nil, List.replicate, Pv.atI0, Pv.atI1, Pv.atI2, Nat.reduceAdd, Nat.reduceSub, Nat.zero_add, reduceIte, Pv.strs?, Bool.not_true, Bool.not_false, Bool.false_eq_true, if_false, if_true, decide_eq_true_eq, Bool.not_eq_true', decide_eq_false_iff_not, Pv.ixN0, Pv.ixN1, Pv.ixN2, true_and, and_true, Pv.cst0, Pv.cst1, Pv.cst2, Pv.cst3, Int.reduceEq, Option.bind_none, Option.bind_some, Pv.kn_go_jump, Pv.kn_go_turn, Pv.kn_go_times, Pv.kn_jump_go, Pv.kn_jump_turn, Pv.kn_jump_times, Pv.kn_turn_go, Pv.kn_turn_jump, Pv.kn_turn_times, Pv.kn_times_go, Pv.kn_times_jump, Pv.kn_times_turn, Pv.kp_go, Pv.kp_jump, Pv.kp_turn, Pv.kp_times, Pv.kz_go, Pv.kz_jump, Pv.kz_turn, Pv.kz_times, t_strokes_drawn, N_strokes_drawn]
  refine g.chk fun w e hw r => ⟨w, by rw [e], by have := hw.2.1; omega, by have := hw.2.1; omega, by have := hw.2.2; omega, hw.1, r⟩
noncomputable def spxDns (XE : XE3) : Sp3 := fun ds μ Q => ∃ d, ds = [d] ∧ Gb XE μ d (fun w => ∀ μ', Ext μ μ' → Q (.int (dns w)) μ')
theorem rd_deeds_done (XE : XE3) (ds : List D) (μ : Mu) (Q : VK3) (h : spxDns XE ds μ Q) : t_deeds_done XE spxChk (spDn 5) { nx := fun _ μ' => Q .non μ', rt := Q } (start3 N_deeds_done ds) μ := by
  obtain ⟨d, rfl, g⟩ := h
  simp only [Pv.seq3, Pv.next3, Pv.never3, Pv.brk3, Pv.cnt3, Pv.drop3, Pv.ret3, Pv.retN3, Pv.ifs3, Pv.gn3, Pv.gnil3, Pv.gcons3, Pv.gtup3, Pv.set3, Pv.asg3, Pv.par3, Pv.sub3, Pv.for3, Pv.is3, Pv.ir3, Pv.ir23, Pv.v3, Pv.c3, Pv.o3, Pv.un3, Pv.b3, Pv.and3, Pv.or3, Pv.not3, Pv.andV3, Pv.orV3, Pv.notV3, Pv.if3, Pv.nil3, Pv.cons3, Pv.tup3, Pv.lst3, Pv.call3, Pv.mt3, Pv.comp3, Pv.tt3, Pv.getI, List.set_cons_zero, List.set_cons_succ, Pv.int2, Pv.int20, Pv.subR, Pv.mulR, Pv.intR, Pv.sl3, Pv.np3, Pv.pt3, Pv.slR, Pv.modR, Pv.fdivR, Pv.powR, Pv.ltR, Pv.leR, Pv.gtR, Pv.geR, Pv.negR, Pv.addR, Pv.eqR_ii, Pv.eqR_ss, Pv.eqR_bb, Pv.eqR_is, Pv.neR_ii, Pv.neR_ss, Pv.neR_bb, Pv.inR, Pv.ixR, Pv.lenR, Pv.absR, Pv.tupR, Pv.sumR, Pv.tyN, Pv.isIn, Pv.isiR, Pv.appR, Pv.extR, Pv.smt3, Pv.joinR, Pv.splitR, Pv.startsR, Pv.pop3, Pv.lrev3, Pv.strR, Pv.start3, List.map_cons, List.map_nil, List.cons_append, List.nil_append, List.length_cons, List.length_nil, List.replicate, Pv.atI0, Pv.atI1, Pv.atI2, Nat.reduceAdd, Nat.reduceSub, Nat.zero_add, reduceIte, Pv.strs?, Bool.not_true, Bool.not_false, Bool.false_eq_true, if_false, if_true, decide_eq_true_eq, Bool.not_eq_true', decide_eq_false_iff_not, Pv.ixN0, Pv.ixN1, Pv.ixN2, true_and, and_true, Pv.cst0, Pv.cst1, Pv.cst2, Pv.cst3, Int.reduceEq, Option.bind_none, Option.bind_some, Pv.kn_go_jump, Pv.kn_go_turn, Pv.kn_go_times, Pv.kn_jump_go, Pv.kn_jump_turn, Pv.kn_jump_times, Pv.kn_turn_go, Pv.kn_turn_jump, Pv.kn_turn_times, Pv.kn_times_go, Pv.kn_times_jump, Pv.kn_times_turn, Pv.kp_go, Pv.kp_jump, Pv.kp_turn, Pv.kp_times, Pv.kz_go, Pv.kz_jump, Pv.kz_turn, Pv.kz_times, t_deeds_done, N_deeds_done]
  refine g.chk fun w e hw r => ⟨w, by rw [e], by have := hw.2.1; omega, by have := hw.2.1; omega, by have := hw.2.2; omega, hw.1, r⟩
noncomputable def spxSmall (XE : XE3) : Sp3 := fun ds μ Q => ∃ d, ds = [d] ∧ Gb XE μ d (fun w => ∀ b μ', Ext μ μ' → Q (.bl b) μ')
theorem rd_is_small (XE : XE3) (ds : List D) (μ : Mu) (Q : VK3) (h : spxSmall XE ds μ Q) : t_is_small XE spxDns spxSks { nx := fun _ μ' => Q .non μ', rt := Q } (start3 N_is_small ds) μ := by
  obtain ⟨d, rfl, g⟩ := h
  simp only [Pv.seq3, Pv.next3, Pv.never3, Pv.brk3, Pv.cnt3, Pv.drop3, Pv.ret3, Pv.retN3, Pv.ifs3, Pv.gn3, Pv.gnil3, Pv.gcons3, Pv.gtup3, Pv.set3, Pv.asg3, Pv.par3, Pv.sub3, Pv.for3, Pv.is3, Pv.ir3, Pv.ir23, Pv.v3, Pv.c3, Pv.o3, Pv.un3, Pv.b3, Pv.and3, Pv.or3, Pv.not3, Pv.andV3, Pv.orV3, Pv.notV3, Pv.if3, Pv.nil3, Pv.cons3, Pv.tup3, Pv.lst3, Pv.call3, Pv.mt3, Pv.comp3, Pv.tt3, Pv.getI, List.set_cons_zero, List.set_cons_succ, Pv.int2, Pv.int20, Pv.subR, Pv.mulR, Pv.intR, Pv.sl3, Pv.np3, Pv.pt3, Pv.slR, Pv.modR, Pv.fdivR, Pv.powR, Pv.ltR, Pv.leR, Pv.gtR, Pv.geR, Pv.negR, Pv.addR, Pv.eqR_ii, Pv.eqR_ss, Pv.eqR_bb, Pv.eqR_is, Pv.neR_ii, Pv.neR_ss, Pv.neR_bb, Pv.inR, Pv.ixR, Pv.lenR, Pv.absR, Pv.tupR, Pv.sumR, Pv.tyN, Pv.isIn, Pv.isiR, Pv.appR, Pv.extR, Pv.smt3, Pv.joinR, Pv.splitR, Pv.startsR, Pv.pop3, Pv.lrev3, Pv.strR, Pv.start3, List.map_cons, List.map_nil, List.cons_append, List.nil_append, List.length_cons, List.length_nil, List.replicate, Pv.atI0, Pv.atI1, Pv.atI2, Nat.reduceAdd, Nat.reduceSub, Nat.zero_add, reduceIte, Pv.strs?, Bool.not_true, Bool.not_false, Bool.false_eq_true, if_false, if_true, decide_eq_true_eq, Bool.not_eq_true', decide_eq_false_iff_not, Pv.ixN0, Pv.ixN1, Pv.ixN2, true_and, and_true, Pv.cst0, Pv.cst1, Pv.cst2, Pv.cst3, Int.reduceEq, Option.bind_none, Option.bind_some, Pv.kn_go_jump, Pv.kn_go_turn, Pv.kn_go_times, Pv.kn_jump_go, Pv.kn_jump_turn, Pv.kn_jump_times, Pv.kn_turn_go, Pv.kn_turn_jump, Pv.kn_turn_times, Pv.kn_times_go, Pv.kn_times_jump, Pv.kn_times_turn, Pv.kp_go, Pv.kp_jump, Pv.kp_turn, Pv.kp_times, Pv.kz_go, Pv.kz_jump, Pv.kz_turn, Pv.kz_times, t_is_small, N_is_small, k_MOST_OF_SMALL]
  cases g with
  | bad b x => exact ⟨d, rfl, .bad b x⟩
  | good w e hw r =>
    refine ⟨d, rfl, .good w e hw fun μ1 e1 => ?_⟩
    simp only [Pv.seq3, Pv.next3, Pv.never3, Pv.brk3, Pv.cnt3, Pv.drop3, Pv.ret3, Pv.retN3, Pv.ifs3, Pv.gn3, Pv.gnil3, Pv.gcons3, Pv.gtup3, Pv.set3, Pv.asg3, Pv.par3, Pv.sub3, Pv.for3, Pv.is3, Pv.ir3, Pv.ir23, Pv.v3, Pv.c3, Pv.o3, Pv.un3, Pv.b3, Pv.and3, Pv.or3, Pv.not3, Pv.andV3, Pv.orV3, Pv.notV3, Pv.if3, Pv.nil3, Pv.cons3, Pv.tup3, Pv.lst3, Pv.call3, Pv.mt3, Pv.comp3, Pv.tt3, Pv.getI, List.set_cons_zero, List.set_cons_succ, Pv.int2, Pv.int20, Pv.subR, Pv.mulR, Pv.intR, Pv.sl3, Pv.np3, Pv.pt3, Pv.slR, Pv.modR, Pv.fdivR, Pv.powR, Pv.ltR, Pv.leR, Pv.gtR, Pv.geR, Pv.negR, Pv.addR, Pv.eqR_ii, Pv.eqR_ss, Pv.eqR_bb, Pv.eqR_is, Pv.neR_ii, Pv.neR_ss, Pv.neR_bb, Pv.inR, Pv.ixR, Pv.lenR, Pv.absR, Pv.tupR, Pv.sumR, Pv.tyN, Pv.isIn, Pv.isiR, Pv.appR, Pv.extR, Pv.smt3, Pv.joinR, Pv.splitR, Pv.startsR, Pv.pop3, Pv.lrev3, Pv.strR, Pv.start3, List.map_cons, List.map_nil, List.cons_append, List.nil_append, List.length_cons, List.length_nil, List.replicate, Pv.atI0, Pv.atI1, Pv.atI2, Nat.reduceAdd, Nat.reduceSub, Nat.zero_add, reduceIte, Pv.strs?, Bool.not_true, Bool.not_false, Bool.false_eq_true, if_false, if_true, decide_eq_true_eq, Bool.not_eq_true', decide_eq_false_iff_not, Pv.ixN0, Pv.ixN1, Pv.ixN2, true_and, and_true, Pv.cst0, Pv.cst1, Pv.cst2, Pv.cst3, Int.reduceEq, Option.bind_none, Option.bind_some, Pv.kn_go_jump, Pv.kn_go_turn, Pv.kn_go_times, Pv.kn_jump_go, Pv.kn_jump_turn, Pv.kn_jump_times, Pv.kn_turn_go, Pv.kn_turn_jump, Pv.kn_turn_times, Pv.kn_times_go, Pv.kn_times_jump, Pv.kn_times_turn, Pv.kp_go, Pv.kp_jump, Pv.kp_turn, Pv.kp_times, Pv.kz_go, Pv.kz_jump, Pv.kz_turn, Pv.kz_times, cst0]
    split
    · exact ⟨d, rfl, .good w e hw fun μ2 e2 => r _ μ2 (e1.trans e2)⟩
    · exact r _ μ1 e1
noncomputable def spxShown (XE : XE3) : Sp3 := fun ds μ Q => ∃ d, ds = [d] ∧ Gb XE μ d (fun w => ∀ x μ', Ext μ μ' → Q x μ')
theorem rd_shown (XE : XE3) (ds : List D) (μ : Mu) (Q : VK3) (h : spxShown XE ds μ Q) : t_shown XE spxChk (spMarks 5) { nx := fun _ μ' => Q .non μ', rt := Q } (start3 N_shown ds) μ := by
  obtain ⟨d, rfl, g⟩ := h
  simp only [Pv.seq3, Pv.next3, Pv.never3, Pv.brk3, Pv.cnt3, Pv.drop3, Pv.ret3, Pv.retN3, Pv.ifs3, Pv.gn3, Pv.gnil3, Pv.gcons3, Pv.gtup3, Pv.set3, Pv.asg3, Pv.par3, Pv.sub3, Pv.for3, Pv.is3, Pv.ir3, Pv.ir23, Pv.v3, Pv.c3, Pv.o3, Pv.un3, Pv.b3, Pv.and3, Pv.or3, Pv.not3, Pv.andV3, Pv.orV3, Pv.notV3, Pv.if3, Pv.nil3, Pv.cons3, Pv.tup3, Pv.lst3, Pv.call3, Pv.mt3, Pv.comp3, Pv.tt3, Pv.getI, List.set_cons_zero, List.set_cons_succ, Pv.int2, Pv.int20, Pv.subR, Pv.mulR, Pv.intR, Pv.sl3, Pv.np3, Pv.pt3, Pv.slR, Pv.modR, Pv.fdivR, Pv.powR, Pv.ltR, Pv.leR, Pv.gtR, Pv.geR, Pv.negR, Pv.addR, Pv.eqR_ii, Pv.eqR_ss, Pv.eqR_bb, Pv.eqR_is, Pv.neR_ii, Pv.neR_ss, Pv.neR_bb, Pv.inR, Pv.ixR, Pv.lenR, Pv.absR, Pv.tupR, Pv.sumR, Pv.tyN, Pv.isIn, Pv.isiR, Pv.appR, Pv.extR, Pv.smt3, Pv.joinR, Pv.splitR, Pv.startsR, Pv.pop3, Pv.lrev3, Pv.strR, Pv.start3, List.map_cons, List.map_nil, List.cons_append, List.nil_append, List.length_cons, List.length_nil, List.replicate, Pv.atI0, Pv.atI1, Pv.atI2, Nat.reduceAdd, Nat.reduceSub, Nat.zero_add, reduceIte, Pv.strs?, Bool.not_true, Bool.not_false, Bool.false_eq_true, if_false, if_true, decide_eq_true_eq, Bool.not_eq_true', decide_eq_false_iff_not, Pv.ixN0, Pv.ixN1, Pv.ixN2, true_and, and_true, Pv.cst0, Pv.cst1, Pv.cst2, Pv.cst3, Int.reduceEq, Option.bind_none, Option.bind_some, Pv.kn_go_jump, Pv.kn_go_turn, Pv.kn_go_times, Pv.kn_jump_go, Pv.kn_jump_turn, Pv.kn_jump_times, Pv.kn_turn_go, Pv.kn_turn_jump, Pv.kn_turn_times, Pv.kn_times_go, Pv.kn_times_jump, Pv.kn_times_turn, Pv.kp_go, Pv.kp_jump, Pv.kp_turn, Pv.kp_times, Pv.kz_go, Pv.kz_jump, Pv.kz_turn, Pv.kz_times, t_shown, N_shown]
  refine g.chk fun w e h q => ⟨w, by rw [e], by have := h.2.1; omega, h.2.2, h.1, fun p μ' ex hp ep => ?_⟩
  simp only [Pv.seq3, Pv.next3, Pv.never3, Pv.brk3, Pv.cnt3, Pv.drop3, Pv.ret3, Pv.retN3, Pv.ifs3, Pv.gn3, Pv.gnil3, Pv.gcons3, Pv.gtup3, Pv.set3, Pv.asg3, Pv.par3, Pv.sub3, Pv.for3, Pv.is3, Pv.ir3, Pv.ir23, Pv.v3, Pv.c3, Pv.o3, Pv.un3, Pv.b3, Pv.and3, Pv.or3, Pv.not3, Pv.andV3, Pv.orV3, Pv.notV3, Pv.if3, Pv.nil3, Pv.cons3, Pv.tup3, Pv.lst3, Pv.call3, Pv.mt3, Pv.comp3, Pv.tt3, Pv.getI, List.set_cons_zero, List.set_cons_succ, Pv.int2, Pv.int20, Pv.subR, Pv.mulR, Pv.intR, Pv.sl3, Pv.np3, Pv.pt3, Pv.slR, Pv.modR, Pv.fdivR, Pv.powR, Pv.ltR, Pv.leR, Pv.gtR, Pv.geR, Pv.negR, Pv.addR, Pv.eqR_ii, Pv.eqR_ss, Pv.eqR_bb, Pv.eqR_is, Pv.neR_ii, Pv.neR_ss, Pv.neR_bb, Pv.inR, Pv.ixR, Pv.lenR, Pv.absR, Pv.tupR, Pv.sumR, Pv.tyN, Pv.isIn, Pv.isiR, Pv.appR, Pv.extR, Pv.smt3, Pv.joinR, Pv.splitR, Pv.startsR, Pv.pop3, Pv.lrev3, Pv.strR, Pv.start3, List.map_cons, List.map_nil, List.cons_append, List.nil_append, List.length_cons, List.length_nil, List.replicate, Pv.atI0, Pv.atI1, Pv.atI2, Nat.reduceAdd, Nat.reduceSub, Nat.zero_add, reduceIte, Pv.strs?, Bool.not_true, Bool.not_false, Bool.false_eq_true, if_false, if_true, decide_eq_true_eq, Bool.not_eq_true', decide_eq_false_iff_not, Pv.ixN0, Pv.ixN1, Pv.ixN2, true_and, and_true, Pv.cst0, Pv.cst1, Pv.cst2, Pv.cst3, Int.reduceEq, Option.bind_none, Option.bind_some, Pv.kn_go_jump, Pv.kn_go_turn, Pv.kn_go_times, Pv.kn_jump_go, Pv.kn_jump_turn, Pv.kn_jump_times, Pv.kn_turn_go, Pv.kn_turn_jump, Pv.kn_turn_times, Pv.kn_times_go, Pv.kn_times_jump, Pv.kn_times_turn, Pv.kp_go, Pv.kp_jump, Pv.kp_turn, Pv.kp_times, Pv.kz_go, Pv.kz_jump, Pv.kz_turn, Pv.kz_times, ep, strs_sD]
  refine ⟨⟨by decide, ?_⟩, q _ μ' ex⟩
  rw [sum_wt]
  have := wt_mks w h.1
  have := h.2.2
  omega
noncomputable def spxCarried (XE : XE3) : Sp3 := fun ds μ Q => ∃ p d, ds = [encP p, d] ∧ Hd p ∧ Gb XE μ d (fun w => ∀ x, Q x μ)
theorem rd_carried (XE : XE3) (ds : List D) (μ : Mu) (Q : VK3) (h : spxCarried XE ds μ Q) : t_carried XE spxChk spLed (spPb 5) { nx := fun _ μ' => Q .non μ', rt := Q } (start3 N_carried ds) μ := by
  obtain ⟨p, d, rfl, hp, g⟩ := h
  simp only [Pv.seq3, Pv.next3, Pv.never3, Pv.brk3, Pv.cnt3, Pv.drop3, Pv.ret3, Pv.retN3, Pv.ifs3, Pv.gn3, Pv.gnil3, Pv.gcons3, Pv.gtup3, Pv.set3, Pv.asg3, Pv.par3, Pv.sub3, Pv.for3, Pv.is3, Pv.ir3, Pv.ir23, Pv.v3, Pv.c3, Pv.o3, Pv.un3, Pv.b3, Pv.and3, Pv.or3, Pv.not3, Pv.andV3, Pv.orV3, Pv.notV3, Pv.if3, Pv.nil3, Pv.cons3, Pv.tup3, Pv.lst3, Pv.call3, Pv.mt3, Pv.comp3, Pv.tt3, Pv.getI, List.set_cons_zero, List.set_cons_succ, Pv.int2, Pv.int20, Pv.subR, Pv.mulR, Pv.intR, Pv.sl3, Pv.np3, Pv.pt3, Pv.slR, Pv.modR, Pv.fdivR, Pv.powR, Pv.ltR, Pv.leR, Pv.gtR, Pv.geR, Pv.negR, Pv.addR, Pv.eqR_ii, Pv.eqR_ss, Pv.eqR_bb, Pv.eqR_is, Pv.neR_ii, Pv.neR_ss, Pv.neR_bb, Pv.inR, Pv.ixR, Pv.lenR, Pv.absR, Pv.tupR, Pv.sumR, Pv.tyN, Pv.isIn, Pv.isiR, Pv.appR, Pv.extR, Pv.smt3, Pv.joinR, Pv.splitR, Pv.startsR, Pv.pop3, Pv.lrev3, Pv.strR, Pv.start3, List.map_cons, List.map_nil, List.cons_append, List.nil_append, List.length_cons, List.length_nil, List.replicate, Pv.atI0, Pv.atI1, Pv.atI2, Nat.reduceAdd, Nat.reduceSub, Nat.zero_add, reduceIte, Pv.strs?, Bool.not_true, Bool.not_false, Bool.false_eq_true, if_false, if_true, decide_eq_true_eq, Bool.not_eq_true', decide_eq_false_iff_not, Pv.ixN0, Pv.ixN1, Pv.ixN2, true_and, and_true, Pv.cst0, Pv.cst1, Pv.cst2, Pv.cst3, Int.reduceEq, Option.bind_none, Option.bind_some, Pv.kn_go_jump, Pv.kn_go_turn, Pv.kn_go_times, Pv.kn_jump_go, Pv.kn_jump_turn, Pv.kn_jump_times, Pv.kn_turn_go, Pv.kn_turn_jump, Pv.kn_turn_times, Pv.kn_times_go, Pv.kn_times_jump, Pv.kn_times_turn, Pv.kp_go, Pv.kp_jump, Pv.kp_turn, Pv.kp_times, Pv.kz_go, Pv.kz_jump, Pv.kz_turn, Pv.kz_times, t_carried, N_carried]
  refine g.chk fun w e h q => ⟨w, by rw [e], by have := h.2.1; omega, by have := h.2.1; omega, by have := h.2.2; omega, h.1, p, pb w, rfl, hp, q _⟩
noncomputable def spxPenAfter (XE : XE3) : Sp3 := fun ds μ Q => ∃ d, ds = [d] ∧ Gb XE μ d (fun w => ∀ x, Q x μ)
theorem rd_pen_after (XE : XE3) (ds : List D) (μ : Mu) (Q : VK3) (h : spxPenAfter XE ds μ Q) : t_pen_after XE spxCarried { nx := fun _ μ' => Q .non μ', rt := Q } (start3 N_pen_after ds) μ := by
  obtain ⟨d, rfl, g⟩ := h
  simp only [Pv.seq3, Pv.next3, Pv.never3, Pv.brk3, Pv.cnt3, Pv.drop3, Pv.ret3, Pv.retN3, Pv.ifs3, Pv.gn3, Pv.gnil3, Pv.gcons3, Pv.gtup3, Pv.set3, Pv.asg3, Pv.par3, Pv.sub3, Pv.for3, Pv.is3, Pv.ir3, Pv.ir23, Pv.v3, Pv.c3, Pv.o3, Pv.un3, Pv.b3, Pv.and3, Pv.or3, Pv.not3, Pv.andV3, Pv.orV3, Pv.notV3, Pv.if3, Pv.nil3, Pv.cons3, Pv.tup3, Pv.lst3, Pv.call3, Pv.mt3, Pv.comp3, Pv.tt3, Pv.getI, List.set_cons_zero, List.set_cons_succ, Pv.int2, Pv.int20, Pv.subR, Pv.mulR, Pv.intR, Pv.sl3, Pv.np3, Pv.pt3, Pv.slR, Pv.modR, Pv.fdivR, Pv.powR, Pv.ltR, Pv.leR, Pv.gtR, Pv.geR, Pv.negR, Pv.addR, Pv.eqR_ii, Pv.eqR_ss, Pv.eqR_bb, Pv.eqR_is, Pv.neR_ii, Pv.neR_ss, Pv.neR_bb, Pv.inR, Pv.ixR, Pv.lenR, Pv.absR, Pv.tupR, Pv.sumR, Pv.tyN, Pv.isIn, Pv.isiR, Pv.appR, Pv.extR, Pv.smt3, Pv.joinR, Pv.splitR, Pv.startsR, Pv.pop3, Pv.lrev3, Pv.strR, Pv.start3, List.map_cons, List.map_nil, List.cons_append, List.nil_append, List.length_cons, List.length_nil, List.replicate, Pv.atI0, Pv.atI1, Pv.atI2, Nat.reduceAdd, Nat.reduceSub, Nat.zero_add, reduceIte, Pv.strs?, Bool.not_true, Bool.not_false, Bool.false_eq_true, if_false, if_true, decide_eq_true_eq, Bool.not_eq_true', decide_eq_false_iff_not, Pv.ixN0, Pv.ixN1, Pv.ixN2, true_and, and_true, Pv.cst0, Pv.cst1, Pv.cst2, Pv.cst3, Int.reduceEq, Option.bind_none, Option.bind_some, Pv.kn_go_jump, Pv.kn_go_turn, Pv.kn_go_times, Pv.kn_jump_go, Pv.kn_jump_turn, Pv.kn_jump_times, Pv.kn_turn_go, Pv.kn_turn_jump, Pv.kn_turn_times, Pv.kn_times_go, Pv.kn_times_jump, Pv.kn_times_turn, Pv.kp_go, Pv.kp_jump, Pv.kp_turn, Pv.kp_times, Pv.kz_go, Pv.kz_jump, Pv.kz_turn, Pv.kz_times, t_pen_after, N_pen_after]
  exact ⟨st, d, rfl, hd_st, g⟩
theorem Gb.in_ {XE : XE3} {μ : Mu} {d : D} {R : List Dd → Prop} (g : Gb XE μ d R) {Q : VK3} (k : ∀ w, d = .tup (encs w) → Wd w → R w → Q (.int (cnts w)) μ) : spxIn XE [d] μ Q := by
  cases g with
  | good w e hw r =>
    refine ⟨d, rfl, by rw [e]; exact .wd _ (shD_encs w), ?_⟩
    rw [e, ckW_ok hw]
    exact k w e hw r
  | bad b x =>
    refine ⟨d, rfl, b.1, ?_⟩
    rw [b.2]
    exact x
theorem Gb.imp {XE : XE3} {μ : Mu} {d : D} {R R' : List Dd → Prop} (g : Gb XE μ d R) (k : ∀ w, R w → R' w) : Gb XE μ d R' := by
  cases g with
  | good w e hw r => exact .good w e hw (k w r)
  | bad b x => exact .bad b x
noncomputable def spxCalled (XE : XE3) : Sp3 := fun ds μ Q => ∃ (way : Int) (d : D), ds = [.int way, d] ∧ Gb XE μ d (fun w => ∀ μ', Ext μ μ' → Q .non μ')
theorem rd__law_called (XE : XE3) (ds : List D) (μ : Mu) (Q : VK3) (h : spxCalled XE ds μ Q) : t__law_called XE spxCarried spxDns spxIn spxSmall spxPenAfter spxShown spxSks { nx := fun _ μ' => Q .non μ', rt := Q } (start3 N__law_called ds) μ := by
  obtain ⟨way, d, rfl, g⟩ := h
  simp only [Pv.seq3, Pv.next3, Pv.never3, Pv.brk3, Pv.cnt3, Pv.drop3, Pv.ret3, Pv.retN3, Pv.ifs3, Pv.gn3, Pv.gnil3, Pv.gcons3, Pv.gtup3, Pv.set3, Pv.asg3, Pv.par3, Pv.sub3, Pv.for3, Pv.is3, Pv.ir3, Pv.ir23, Pv.v3, Pv.c3, Pv.o3, Pv.un3, Pv.b3, Pv.and3, Pv.or3, Pv.not3, Pv.andV3, Pv.orV3, Pv.notV3, Pv.if3, Pv.nil3, Pv.cons3, Pv.tup3, Pv.lst3, Pv.call3, Pv.mt3, Pv.comp3, Pv.tt3, Pv.getI, List.set_cons_zero, List.set_cons_succ, Pv.int2, Pv.int20, Pv.subR, Pv.mulR, Pv.intR, Pv.sl3, Pv.np3, Pv.pt3, Pv.slR, Pv.modR, Pv.fdivR, Pv.powR, Pv.ltR, Pv.leR, Pv.gtR, Pv.geR, Pv.negR, Pv.addR, Pv.eqR_ii, Pv.eqR_ss, Pv.eqR_bb, Pv.eqR_is, Pv.neR_ii, Pv.neR_ss, Pv.neR_bb, Pv.inR, Pv.ixR, Pv.lenR, Pv.absR, Pv.tupR, Pv.sumR, Pv.tyN, Pv.isIn, Pv.isiR, Pv.appR, Pv.extR, Pv.smt3, Pv.joinR, Pv.splitR, Pv.startsR, Pv.pop3, Pv.lrev3, Pv.strR, Pv.start3, List.map_cons, List.map_nil, List.cons_append, List.nil_append, List.length_cons, List.length_nil, List.replicate, Pv.atI0, Pv.atI1, Pv.atI2, Nat.reduceAdd, Nat.reduceSub, Nat.zero_add, reduceIte, Pv.strs?, Bool.not_true, Bool.not_false, Bool.false_eq_true, if_false, if_true, decide_eq_true_eq, Bool.not_eq_true', decide_eq_false_iff_not, Pv.ixN0, Pv.ixN1, Pv.ixN2, true_and, and_true, Pv.cst0, Pv.cst1, Pv.cst2, Pv.cst3, Int.reduceEq, Option.bind_none, Option.bind_some, Pv.kn_go_jump, Pv.kn_go_turn, Pv.kn_go_times, Pv.kn_jump_go, Pv.kn_jump_turn, Pv.kn_jump_times, Pv.kn_turn_go, Pv.kn_turn_jump, Pv.kn_turn_times, Pv.kn_times_go, Pv.kn_times_jump, Pv.kn_times_turn, Pv.kp_go, Pv.kp_jump, Pv.kp_turn, Pv.kp_times, Pv.kz_go, Pv.kz_jump, Pv.kz_turn, Pv.kz_times, t__law_called, N__law_called]
  split
  · exact g.in_ fun w e hw r => r _ (Ext.refl _)
  · split
    · exact ⟨d, rfl, g.imp fun w r x => r _ (Ext.refl _)⟩
    · split
      · exact ⟨by decide, (1, 2, 3), d, rfl, .inr (.inr (.inr rfl)), g.imp fun w r x => r _ (Ext.refl _)⟩
      · split
        · exact ⟨d, rfl, g.imp fun w r μ' e => r μ' e⟩
        · split
          · exact ⟨d, rfl, g.imp fun w r μ' e => r μ' e⟩
          · split
            · exact ⟨d, rfl, g.imp fun w r b μ' e => r μ' e⟩
            · exact ⟨d, rfl, g.imp fun w r b μ' e => r μ' e⟩
noncomputable def BL : List D := [.bl true, .bl false, .bl false, .bl false, .bl false, .bl false, .bl true]
theorem sx1 : subX "NoWord" "NoWord" = some true := by decide
theorem sx2 : subX "NoRoom" "NoWord" = some false := by decide
theorem sx3 : subX "NoStep" "NoWord" = some false := by decide
theorem sx4 : subX "NoPicture" "NoWord" = some false := by decide
theorem sx5 : subX "NoNumber" "NoWord" = some false := by decide
theorem sx6 : subX "BadNote" "NoWord" = some false := by decide
theorem sx7 : subX "ValueError" "NoWord" = some true := by decide
noncomputable def spMk : Sp3 := fun ds μ Q => ds = [.exc "NoWord"] ∧ ∀ p μ', Ext μ μ' → μ' p = some (.lst BL) → Q (.ref p) μ'
theorem rd__law_marks (ds : List D) (μ : Mu) (Q : VK3) (h : spMk ds μ Q) : t__law_marks { nx := fun _ μ' => Q .non μ', rt := Q } (start3 N__law_marks ds) μ := by
  obtain ⟨rfl, q⟩ := h
  simp only [Pv.seq3, Pv.next3, Pv.never3, Pv.brk3, Pv.cnt3, Pv.drop3, Pv.ret3, Pv.retN3, Pv.ifs3, Pv.gn3, Pv.gnil3, Pv.gcons3, Pv.gtup3, Pv.set3, Pv.asg3, Pv.par3, Pv.sub3, Pv.for3, Pv.is3, Pv.ir3, Pv.ir23, Pv.v3, Pv.c3, Pv.o3, Pv.un3, Pv.b3, Pv.and3, Pv.or3, Pv.not3, Pv.andV3, Pv.orV3, Pv.notV3, Pv.if3, Pv.nil3, Pv.cons3, Pv.tup3, Pv.lst3, Pv.call3, Pv.mt3, Pv.comp3, Pv.tt3, Pv.getI, List.set_cons_zero, List.set_cons_succ, Pv.int2, Pv.int20, Pv.subR, Pv.mulR, Pv.intR, Pv.sl3, Pv.np3, Pv.pt3, Pv.slR, Pv.modR, Pv.fdivR, Pv.powR, Pv.ltR, Pv.leR, Pv.gtR, Pv.geR, Pv.negR, Pv.addR, Pv.eqR_ii, Pv.eqR_ss, Pv.eqR_bb, Pv.eqR_is, Pv.neR_ii, Pv.neR_ss, Pv.neR_bb, Pv.inR, Pv.ixR, Pv.lenR, Pv.absR, Pv.tupR, Pv.sumR, Pv.tyN, Pv.isIn, Pv.isiR, Pv.appR, Pv.extR, Pv.smt3, Pv.joinR, Pv.splitR, Pv.startsR, Pv.pop3, Pv.lrev3, Pv.strR, Pv.start3, List.map_cons, List.map_nil, List.cons_append, List.nil_append, List.length_cons, List.length_nil, List.replicate, Pv.atI0, Pv.atI1, Pv.atI2, Nat.reduceAdd, Nat.reduceSub, Nat.zero_add, reduceIte, Pv.strs?, Bool.not_true, Bool.not_false, Bool.false_eq_true, if_false, if_true, decide_eq_true_eq, Bool.not_eq_true', decide_eq_false_iff_not, Pv.ixN0, Pv.ixN1, Pv.ixN2, true_and, and_true, Pv.cst0, Pv.cst1, Pv.cst2, Pv.cst3, Int.reduceEq, Option.bind_none, Option.bind_some, Pv.kn_go_jump, Pv.kn_go_turn, Pv.kn_go_times, Pv.kn_jump_go, Pv.kn_jump_turn, Pv.kn_jump_times, Pv.kn_turn_go, Pv.kn_turn_jump, Pv.kn_turn_times, Pv.kn_times_go, Pv.kn_times_jump, Pv.kn_times_turn, Pv.kp_go, Pv.kp_jump, Pv.kp_turn, Pv.kp_times, Pv.kz_go, Pv.kz_jump, Pv.kz_turn, Pv.kz_times, t__law_marks, N__law_marks, isx3, sx1, sx2, sx3, sx4, sx5, sx6, sx7]
  refine ⟨by decide, fun p hp => ⟨by decide, fun r hr => ?_⟩⟩
  have hpr : p ≠ r := ne_free updM_same hr
  simp only [Pv.seq3, Pv.next3, Pv.never3, Pv.brk3, Pv.cnt3, Pv.drop3, Pv.ret3, Pv.retN3, Pv.ifs3, Pv.gn3, Pv.gnil3, Pv.gcons3, Pv.gtup3, Pv.set3, Pv.asg3, Pv.par3, Pv.sub3, Pv.for3, Pv.is3, Pv.ir3, Pv.ir23, Pv.v3, Pv.c3, Pv.o3, Pv.un3, Pv.b3, Pv.and3, Pv.or3, Pv.not3, Pv.andV3, Pv.orV3, Pv.notV3, Pv.if3, Pv.nil3, Pv.cons3, Pv.tup3, Pv.lst3, Pv.call3, Pv.mt3, Pv.comp3, Pv.tt3, Pv.getI, List.set_cons_zero, List.set_cons_succ, Pv.int2, Pv.int20, Pv.subR, Pv.mulR, Pv.intR, Pv.sl3, Pv.np3, Pv.pt3, Pv.slR, Pv.modR, Pv.fdivR, Pv.powR, Pv.ltR, Pv.leR, Pv.gtR, Pv.geR, Pv.negR, Pv.addR, Pv.eqR_ii, Pv.eqR_ss, Pv.eqR_bb, Pv.eqR_is, Pv.neR_ii, Pv.neR_ss, Pv.neR_bb, Pv.inR, Pv.ixR, Pv.lenR, Pv.absR, Pv.tupR, Pv.sumR, Pv.tyN, Pv.isIn, Pv.isiR, Pv.appR, Pv.extR, Pv.smt3, Pv.joinR, Pv.splitR, Pv.startsR, Pv.pop3, Pv.lrev3, Pv.strR, Pv.start3, List.map_cons, List.map_nil, List.cons_append, List.nil_append, List.length_cons, List.length_nil, List.replicate, Pv.atI0, Pv.atI1, Pv.atI2, Nat.reduceAdd, Nat.reduceSub, Nat.zero_add, reduceIte, Pv.strs?, Bool.not_true, Bool.not_false, Bool.false_eq_true, if_false, if_true, decide_eq_true_eq, Bool.not_eq_true', decide_eq_false_iff_not, Pv.ixN0, Pv.ixN1, Pv.ixN2, true_and, and_true, Pv.cst0, Pv.cst1, Pv.cst2, Pv.cst3, Int.reduceEq, Option.bind_none, Option.bind_some, Pv.kn_go_jump, Pv.kn_go_turn, Pv.kn_go_times, Pv.kn_jump_go, Pv.kn_jump_turn, Pv.kn_jump_times, Pv.kn_turn_go, Pv.kn_turn_jump, Pv.kn_turn_times, Pv.kn_times_go, Pv.kn_times_jump, Pv.kn_times_turn, Pv.kp_go, Pv.kp_jump, Pv.kp_turn, Pv.kp_times, Pv.kz_go, Pv.kz_jump, Pv.kz_turn, Pv.kz_times, updM_ne hpr, updM_same]
  refine ⟨by decide, fun t ht => q t _ (fun c o hc => ?_) updM_same⟩
  have z1 : updM μ p (.lst [.bl true, .bl false, .bl false, .bl false]) c = some o := by rw [updM_ne (ne_free hc hp)]; exact hc
  have z2 := (Ext.new (o := .lst [.bl false, .bl false, .bl true]) hr) c o z1
  rw [updM_ne (ne_free z2 ht)]; exact z2
noncomputable def spTold : Sp3 := fun ds μ Q => ∃ (way : Int) (d : D), ds = [.int way, d] ∧ ((∃ w, d = .tup (encs w) ∧ Wd w ∧ ∀ p μ', Ext μ μ' → μ' p = some (.lst []) → Q (.ref p) μ') ∨ (Bad d ∧ ∀ p μ', Ext μ μ' → μ' p = some (.lst BL) → Q (.ref p) μ'))
theorem rd__law_told (ds : List D) (μ : Mu) (Q : VK3) (h : spTold ds μ Q) : t__law_told spxCalled spMk { nx := fun _ μ' => Q .non μ', rt := Q } (start3 N__law_told ds) μ := by
  obtain ⟨way, d, rfl, g⟩ := h
  simp only [Pv.seq3, Pv.next3, Pv.never3, Pv.brk3, Pv.cnt3, Pv.drop3, Pv.ret3, Pv.retN3, Pv.ifs3, Pv.gn3, Pv.gnil3, Pv.gcons3, Pv.gtup3, Pv.set3, Pv.asg3, Pv.par3, Pv.sub3, Pv.for3, Pv.is3, Pv.ir3, Pv.ir23, Pv.v3, Pv.c3, Pv.o3, Pv.un3, Pv.b3, Pv.and3, Pv.or3, Pv.not3, Pv.andV3, Pv.orV3, Pv.notV3, Pv.if3, Pv.nil3, Pv.cons3, Pv.tup3, Pv.lst3, Pv.call3, Pv.mt3, Pv.comp3, Pv.tt3, Pv.getI, List.set_cons_zero, List.set_cons_succ, Pv.int2, Pv.int20, Pv.subR, Pv.mulR, Pv.intR, Pv.sl3, Pv.np3, Pv.pt3, Pv.slR, Pv.modR, Pv.fdivR, Pv.powR, Pv.ltR, Pv.leR, Pv.gtR, Pv.geR, Pv.negR, Pv.addR, Pv.eqR_ii, Pv.eqR_ss, Pv.eqR_bb, Pv.eqR_is, Pv.neR_ii, Pv.neR_ss, Pv.neR_bb, Pv.inR, Pv.ixR, Pv.lenR, Pv.absR, Pv.tupR, Pv.sumR, Pv.tyN, Pv.isIn, Pv.isiR, Pv.appR, Pv.extR, Pv.smt3, Pv.joinR, Pv.splitR, Pv.startsR, Pv.pop3, Pv.lrev3, Pv.strR, Pv.start3, List.map_cons, List.map_nil, List.cons_append, List.nil_append, List.length_cons, List.length_nil, List.replicate, Pv.atI0, Pv.atI1, Pv.atI2, Nat.reduceAdd, Nat.reduceSub, Nat.zero_add, reduceIte, Pv.strs?, Bool.not_true, Bool.not_false, Bool.false_eq_true, if_false, if_true, decide_eq_true_eq, Bool.not_eq_true', decide_eq_false_iff_not, Pv.ixN0, Pv.ixN1, Pv.ixN2, true_and, and_true, Pv.cst0, Pv.cst1, Pv.cst2, Pv.cst3, Int.reduceEq, Option.bind_none, Option.bind_some, Pv.kn_go_jump, Pv.kn_go_turn, Pv.kn_go_times, Pv.kn_jump_go, Pv.kn_jump_turn, Pv.kn_jump_times, Pv.kn_turn_go, Pv.kn_turn_jump, Pv.kn_turn_times, Pv.kn_times_go, Pv.kn_times_jump, Pv.kn_times_turn, Pv.kp_go, Pv.kp_jump, Pv.kp_turn, Pv.kp_times, Pv.kz_go, Pv.kz_jump, Pv.kz_turn, Pv.kz_times, t__law_told, N__law_told, try3, keepSt]
  refine ⟨by decide, fun p hp => ⟨way, d, rfl, ?_⟩⟩
  rcases g with ⟨w, e, hw, q⟩ | ⟨b, q⟩
  · exact .good w e hw fun μ' ex => q p μ' ((Ext.new hp).trans ex) (ex _ _ updM_same)
  · refine .bad b ⟨by decide, rfl, fun r μ' ex er => ?_⟩
    exact q r μ' ((Ext.new hp).trans ex) er
theorem subX_in {cls c : Str} {b : Bool} (h : subX cls c = some b) : c ∈ xnames := by
  unfold subX at h
  split at h
  · next e => simpa using e
  · cases h
theorem encs_append : ∀ a b, encs (a ++ b) = encs a ++ encs b
  | [], b => by simp [encs]
  | d :: r, b => by simp only [List.cons_append, encs, encs_append r b]
mutual
noncomputable def sm : Dd → Prop
  | .go n => 0 ≤ n ∧ n ≤ 3
  | .jump n => -3 ≤ n ∧ n ≤ 3
  | .turn n => -5 ≤ n ∧ n ≤ 3
  | .times n w => (0 ≤ n ∧ n ≤ 4) ∧ sms w
noncomputable def sms : List Dd → Prop
  | [] => True
  | d :: r => sm d ∧ sms r
end
theorem sms_append : ∀ a b, sms (a ++ b) ↔ sms a ∧ sms b
  | [], b => by simp [sms]
  | d :: r, b => by simp only [List.cons_append, sms, sms_append r b, and_assoc]
mutual
theorem sm_ok : ∀ d, sm d → okd d
  | .go n, h => by simp only [sm] at h; simp only [okd, G]; omega
  | .jump n, h => by simp only [sm] at h; simp only [okd, G]; omega
  | .turn n, h => by simp only [sm] at h; simp only [okd, G]; omega
  | .times n w, h => by simp only [sm] at h; simp only [okd, G]; exact ⟨by omega, sms_ok w h.2⟩
theorem sms_ok : ∀ w, sms w → oks w
  | [], _ => by simp only [oks]
  | d :: r, h => by simp only [sms] at h; simp only [oks]; exact ⟨sm_ok d h.1, sms_ok r h.2⟩
end
noncomputable def spCell : Sp3 := fun ds μ Q => ∃ (ns : List Int) (k : Int), ds = [.fls (ns.map D.int), .int k] ∧ 0 ≤ k ∧ ∀ i, Q (.int i) μ
theorem rd__law_cell_at (ds : List D) (μ : Mu) (Q : VK3) (h : spCell ds μ Q) : t__law_cell_at { nx := fun _ μ' => Q .non μ', rt := Q } (start3 N__law_cell_at ds) μ := by
  obtain ⟨ns, k, rfl, hk, q⟩ := h
  simp only [Pv.seq3, Pv.next3, Pv.never3, Pv.brk3, Pv.cnt3, Pv.drop3, Pv.ret3, Pv.retN3, Pv.ifs3, Pv.gn3, Pv.gnil3, Pv.gcons3, Pv.gtup3, Pv.set3, Pv.asg3, Pv.par3, Pv.sub3, Pv.for3, Pv.is3, Pv.ir3, Pv.ir23, Pv.v3, Pv.c3, Pv.o3, Pv.un3, Pv.b3, Pv.and3, Pv.or3, Pv.not3, Pv.andV3, Pv.orV3, Pv.notV3, Pv.if3, Pv.nil3, Pv.cons3, Pv.tup3, Pv.lst3, Pv.call3, Pv.mt3, Pv.comp3, Pv.tt3, Pv.getI, List.set_cons_zero, List.set_cons_succ, Pv.int2, Pv.int20, Pv.subR, Pv.mulR, Pv.intR, Pv.sl3, Pv.np3, Pv.pt3, Pv.slR, Pv.modR, Pv.fdivR, Pv.powR, Pv.ltR, Pv.leR, Pv.gtR, Pv.geR, Pv.negR, Pv.addR, Pv.eqR_ii, Pv.eqR_ss, Pv.eqR_bb, Pv.eqR_is, Pv.neR_ii, Pv.neR_ss, Pv.neR_bb, Pv.inR, Pv.ixR, Pv.lenR, Pv.absR, Pv.tupR, Pv.sumR, Pv.tyN, Pv.isIn, Pv.isiR, Pv.appR, Pv.extR, Pv.smt3, Pv.joinR, Pv.splitR, Pv.startsR, Pv.pop3, Pv.lrev3, Pv.strR, Pv.start3, List.map_cons, List.map_nil, List.cons_append, List.nil_append, List.length_cons, List.length_nil, List.replicate, Pv.atI0, Pv.atI1, Pv.atI2, Nat.reduceAdd, Nat.reduceSub, Nat.zero_add, reduceIte, Pv.strs?, Bool.not_true, Bool.not_false, Bool.false_eq_true, if_false, if_true, decide_eq_true_eq, Bool.not_eq_true', decide_eq_false_iff_not, Pv.ixN0, Pv.ixN1, Pv.ixN2, true_and, and_true, Pv.cst0, Pv.cst1, Pv.cst2, Pv.cst3, Int.reduceEq, Option.bind_none, Option.bind_some, Pv.kn_go_jump, Pv.kn_go_turn, Pv.kn_go_times, Pv.kn_jump_go, Pv.kn_jump_turn, Pv.kn_jump_times, Pv.kn_turn_go, Pv.kn_turn_jump, Pv.kn_turn_times, Pv.kn_times_go, Pv.kn_times_jump, Pv.kn_times_turn, Pv.kp_go, Pv.kp_jump, Pv.kp_turn, Pv.kp_times, Pv.kz_go, Pv.kz_jump, Pv.kz_turn, Pv.kz_times, t__law_cell_at, N__law_cell_at]
  split
  · next h1 =>
    obtain ⟨d, hd, e⟩ := atI_in (l := ns.map D.int) hk h1
    obtain ⟨i, _, rfl⟩ := List.mem_map.mp hd
    simp only [e]
    exact q i
  · exact q 0
noncomputable def spState : Sp3 := fun ds μ Q => ∃ (ns : List Int) (k : Int), ds = [.fls (ns.map D.int), .int k] ∧ 0 ≤ k ∧ ∀ a b p, 0 ≤ a → μ p = none → Q (.ref p) (updM μ p (.lst [.int a, .bl b]))
theorem rd__law_state (ds : List D) (μ : Mu) (Q : VK3) (h : spState ds μ Q) : t__law_state spCell { nx := fun _ μ' => Q .non μ', rt := Q } (start3 N__law_state ds) μ := by
  obtain ⟨ns, k, rfl, hk, q⟩ := h
  simp only [Pv.seq3, Pv.next3, Pv.never3, Pv.brk3, Pv.cnt3, Pv.drop3, Pv.ret3, Pv.retN3, Pv.ifs3, Pv.gn3, Pv.gnil3, Pv.gcons3, Pv.gtup3, Pv.set3, Pv.asg3, Pv.par3, Pv.sub3, Pv.for3, Pv.is3, Pv.ir3, Pv.ir23, Pv.v3, Pv.c3, Pv.o3, Pv.un3, Pv.b3, Pv.and3, Pv.or3, Pv.not3, Pv.andV3, Pv.orV3, Pv.notV3, Pv.if3, Pv.nil3, Pv.cons3, Pv.tup3, Pv.lst3, Pv.call3, Pv.mt3, Pv.comp3, Pv.tt3, Pv.getI, List.set_cons_zero, List.set_cons_succ, Pv.int2, Pv.int20, Pv.subR, Pv.mulR, Pv.intR, Pv.sl3, Pv.np3, Pv.pt3, Pv.slR, Pv.modR, Pv.fdivR, Pv.powR, Pv.ltR, Pv.leR, Pv.gtR, Pv.geR, Pv.negR, Pv.addR, Pv.eqR_ii, Pv.eqR_ss, Pv.eqR_bb, Pv.eqR_is, Pv.neR_ii, Pv.neR_ss, Pv.neR_bb, Pv.inR, Pv.ixR, Pv.lenR, Pv.absR, Pv.tupR, Pv.sumR, Pv.tyN, Pv.isIn, Pv.isiR, Pv.appR, Pv.extR, Pv.smt3, Pv.joinR, Pv.splitR, Pv.startsR, Pv.pop3, Pv.lrev3, Pv.strR, Pv.start3, List.map_cons, List.map_nil, List.cons_append, List.nil_append, List.length_cons, List.length_nil, List.replicate, Pv.atI0, Pv.atI1, Pv.atI2, Nat.reduceAdd, Nat.reduceSub, Nat.zero_add, reduceIte, Pv.strs?, Bool.not_true, Bool.not_false, Bool.false_eq_true, if_false, if_true, decide_eq_true_eq, Bool.not_eq_true', decide_eq_false_iff_not, Pv.ixN0, Pv.ixN1, Pv.ixN2, true_and, and_true, Pv.cst0, Pv.cst1, Pv.cst2, Pv.cst3, Int.reduceEq, Option.bind_none, Option.bind_some, Pv.kn_go_jump, Pv.kn_go_turn, Pv.kn_go_times, Pv.kn_jump_go, Pv.kn_jump_turn, Pv.kn_jump_times, Pv.kn_turn_go, Pv.kn_turn_jump, Pv.kn_turn_times, Pv.kn_times_go, Pv.kn_times_jump, Pv.kn_times_turn, Pv.kp_go, Pv.kp_jump, Pv.kp_turn, Pv.kp_times, Pv.kz_go, Pv.kz_jump, Pv.kz_turn, Pv.kz_times, t__law_state, N__law_state]
  refine ⟨ns, k, rfl, hk, fun i => ?_⟩
  simp only [Pv.seq3, Pv.next3, Pv.never3, Pv.brk3, Pv.cnt3, Pv.drop3, Pv.ret3, Pv.retN3, Pv.ifs3, Pv.gn3, Pv.gnil3, Pv.gcons3, Pv.gtup3, Pv.set3, Pv.asg3, Pv.par3, Pv.sub3, Pv.for3, Pv.is3, Pv.ir3, Pv.ir23, Pv.v3, Pv.c3, Pv.o3, Pv.un3, Pv.b3, Pv.and3, Pv.or3, Pv.not3, Pv.andV3, Pv.orV3, Pv.notV3, Pv.if3, Pv.nil3, Pv.cons3, Pv.tup3, Pv.lst3, Pv.call3, Pv.mt3, Pv.comp3, Pv.tt3, Pv.getI, List.set_cons_zero, List.set_cons_succ, Pv.int2, Pv.int20, Pv.subR, Pv.mulR, Pv.intR, Pv.sl3, Pv.np3, Pv.pt3, Pv.slR, Pv.modR, Pv.fdivR, Pv.powR, Pv.ltR, Pv.leR, Pv.gtR, Pv.geR, Pv.negR, Pv.addR, Pv.eqR_ii, Pv.eqR_ss, Pv.eqR_bb, Pv.eqR_is, Pv.neR_ii, Pv.neR_ss, Pv.neR_bb, Pv.inR, Pv.ixR, Pv.lenR, Pv.absR, Pv.tupR, Pv.sumR, Pv.tyN, Pv.isIn, Pv.isiR, Pv.appR, Pv.extR, Pv.smt3, Pv.joinR, Pv.splitR, Pv.startsR, Pv.pop3, Pv.lrev3, Pv.strR, Pv.start3, List.map_cons, List.map_nil, List.cons_append, List.nil_append, List.length_cons, List.length_nil, List.replicate, Pv.atI0, Pv.atI1, Pv.atI2, Nat.reduceAdd, Nat.reduceSub, Nat.zero_add, reduceIte, Pv.strs?, Bool.not_true, Bool.not_false, Bool.false_eq_true, if_false, if_true, decide_eq_true_eq, Bool.not_eq_true', decide_eq_false_iff_not, Pv.ixN0, Pv.ixN1, Pv.ixN2, true_and, and_true, Pv.cst0, Pv.cst1, Pv.cst2, Pv.cst3, Int.reduceEq, Option.bind_none, Option.bind_some, Pv.kn_go_jump, Pv.kn_go_turn, Pv.kn_go_times, Pv.kn_jump_go, Pv.kn_jump_turn, Pv.kn_jump_times, Pv.kn_turn_go, Pv.kn_turn_jump, Pv.kn_turn_times, Pv.kn_times_go, Pv.kn_times_jump, Pv.kn_times_turn, Pv.kp_go, Pv.kp_jump, Pv.kp_turn, Pv.kp_times, Pv.kz_go, Pv.kz_jump, Pv.kz_turn, Pv.kz_times, cst0]
  refine ⟨⟨by decide, by decide, by decide⟩, ?_⟩
  have e : ((10 : Int) ^ (18 : Int).toNat) = 1000000000000000000 := by decide
  simp only [e]
  split
  · next h1 => exact ⟨⟨by decide, by decide, by decide⟩, by decide, fun p hp => q _ _ p (by omega) hp⟩
  · exact ⟨by decide, by decide, fun p hp => q _ _ p (Int.emod_nonneg _ (by decide)) hp⟩
noncomputable def spChoice : Sp3 := fun ds μ Q => ∃ (p : Addr) (m a : Int) (b : Bool) (rest : List D), ds = [.ref p, .int m] ∧ 0 < m ∧ m < 2 ^ 80 ∧ μ p = some (.lst (.int a :: .bl b :: rest)) ∧ 0 ≤ a ∧
  ∀ r a', 0 ≤ r → r < m → 0 ≤ a' → Q (.int r) (updM μ p (.lst (.int a' :: .bl b :: rest)))
theorem rd__law_choice (ds : List D) (μ : Mu) (Q : VK3) (h : spChoice ds μ Q) : t__law_choice { nx := fun _ μ' => Q .non μ', rt := Q } (start3 N__law_choice ds) μ := by
  obtain ⟨p, m, a, b, rest, rfl, h1, h2, h3, h4, q⟩ := h
  simp only [Pv.seq3, Pv.next3, Pv.never3, Pv.brk3, Pv.cnt3, Pv.drop3, Pv.ret3, Pv.retN3, Pv.ifs3, Pv.gn3, Pv.gnil3, Pv.gcons3, Pv.gtup3, Pv.set3, Pv.asg3, Pv.par3, Pv.sub3, Pv.for3, Pv.is3, Pv.ir3, Pv.ir23, Pv.v3, Pv.c3, Pv.o3, Pv.un3, Pv.b3, Pv.and3, Pv.or3, Pv.not3, Pv.andV3, Pv.orV3, Pv.notV3, Pv.if3, Pv.nil3, Pv.cons3, Pv.tup3, Pv.lst3, Pv.call3, Pv.mt3, Pv.comp3, Pv.tt3, Pv.getI, List.set_cons_zero, List.set_cons_succ, Pv.int2, Pv.int20, Pv.subR, Pv.mulR, Pv.intR, Pv.sl3, Pv.np3, Pv.pt3, Pv.slR, Pv.modR, Pv.fdivR, Pv.powR, Pv.ltR, Pv.leR, Pv.gtR, Pv.geR, Pv.negR, Pv.addR, Pv.eqR_ii, Pv.eqR_ss, Pv.eqR_bb, Pv.eqR_is, Pv.neR_ii, Pv.neR_ss, Pv.neR_bb, Pv.inR, Pv.ixR, Pv.lenR, Pv.absR, Pv.tupR, Pv.sumR, Pv.tyN, Pv.isIn, Pv.isiR, Pv.appR, Pv.extR, Pv.smt3, Pv.joinR, Pv.splitR, Pv.startsR, Pv.pop3, Pv.lrev3, Pv.strR, Pv.start3, List.map_cons, List.map_nil, List.cons_append, List.nil_append, List.length_cons, List.length_nil, List.replicate, Pv.atI0, Pv.atI1, Pv.atI2, Nat.reduceAdd, Nat.reduceSub, Nat.zero_add, reduceIte, Pv.strs?, Bool.not_true, Bool.not_false, Bool.false_eq_true, if_false, if_true, decide_eq_true_eq, Bool.not_eq_true', decide_eq_false_iff_not, Pv.ixN0, Pv.ixN1, Pv.ixN2, true_and, and_true, Pv.cst0, Pv.cst1, Pv.cst2, Pv.cst3, Int.reduceEq, Option.bind_none, Option.bind_some, Pv.kn_go_jump, Pv.kn_go_turn, Pv.kn_go_times, Pv.kn_jump_go, Pv.kn_jump_turn, Pv.kn_jump_times, Pv.kn_turn_go, Pv.kn_turn_jump, Pv.kn_turn_times, Pv.kn_times_go, Pv.kn_times_jump, Pv.kn_times_turn, Pv.kp_go, Pv.kp_jump, Pv.kp_turn, Pv.kp_times, Pv.kz_go, Pv.kz_jump, Pv.kz_turn, Pv.kz_times, t__law_choice, N__law_choice, h3]
  split
  · refine ⟨h1, ⟨h1, h2⟩, ?_⟩
    exact q _ _ (Int.emod_nonneg _ (by omega)) (Int.emod_lt_of_pos _ h1) (Int.ediv_nonneg h4 (by omega))
  · refine ⟨.inl (.inr (by decide)), by decide, ?_⟩
    simp only [Pv.seq3, Pv.next3, Pv.never3, Pv.brk3, Pv.cnt3, Pv.drop3, Pv.ret3, Pv.retN3, Pv.ifs3, Pv.gn3, Pv.gnil3, Pv.gcons3, Pv.gtup3, Pv.set3, Pv.asg3, Pv.par3, Pv.sub3, Pv.for3, Pv.is3, Pv.ir3, Pv.ir23, Pv.v3, Pv.c3, Pv.o3, Pv.un3, Pv.b3, Pv.and3, Pv.or3, Pv.not3, Pv.andV3, Pv.orV3, Pv.notV3, Pv.if3, Pv.nil3, Pv.cons3, Pv.tup3, Pv.lst3, Pv.call3, Pv.mt3, Pv.comp3, Pv.tt3, Pv.getI, List.set_cons_zero, List.set_cons_succ, Pv.int2, Pv.int20, Pv.subR, Pv.mulR, Pv.intR, Pv.sl3, Pv.np3, Pv.pt3, Pv.slR, Pv.modR, Pv.fdivR, Pv.powR, Pv.ltR, Pv.leR, Pv.gtR, Pv.geR, Pv.negR, Pv.addR, Pv.eqR_ii, Pv.eqR_ss, Pv.eqR_bb, Pv.eqR_is, Pv.neR_ii, Pv.neR_ss, Pv.neR_bb, Pv.inR, Pv.ixR, Pv.lenR, Pv.absR, Pv.tupR, Pv.sumR, Pv.tyN, Pv.isIn, Pv.isiR, Pv.appR, Pv.extR, Pv.smt3, Pv.joinR, Pv.splitR, Pv.startsR, Pv.pop3, Pv.lrev3, Pv.strR, Pv.start3, List.map_cons, List.map_nil, List.cons_append, List.nil_append, List.length_cons, List.length_nil, List.replicate, Pv.atI0, Pv.atI1, Pv.atI2, Nat.reduceAdd, Nat.reduceSub, Nat.zero_add, reduceIte, Pv.strs?, Bool.not_true, Bool.not_false, Bool.false_eq_true, if_false, if_true, decide_eq_true_eq, Bool.not_eq_true', decide_eq_false_iff_not, Pv.ixN0, Pv.ixN1, Pv.ixN2, true_and, and_true, Pv.cst0, Pv.cst1, Pv.cst2, Pv.cst3, Int.reduceEq, Option.bind_none, Option.bind_some, Pv.kn_go_jump, Pv.kn_go_turn, Pv.kn_go_times, Pv.kn_jump_go, Pv.kn_jump_turn, Pv.kn_jump_times, Pv.kn_turn_go, Pv.kn_turn_jump, Pv.kn_turn_times, Pv.kn_times_go, Pv.kn_times_jump, Pv.kn_times_turn, Pv.kp_go, Pv.kp_jump, Pv.kp_turn, Pv.kp_times, Pv.kz_go, Pv.kz_jump, Pv.kz_turn, Pv.kz_times, updM_same]
    have n1 := Int.emod_nonneg (a * 48271 + 29) (show (2147483647 : Int) ≠ 0 by decide)
    have n2 := Int.emod_lt_of_pos (a * 48271 + 29) (show (0 : Int) < 2147483647 by decide)
    generalize (a * 48271 + 29) % 2147483647 = c at n1 n2 ⊢
    refine ⟨.inl (.inl (by omega)), .inl (.inl (by decide)), by decide, ?_⟩
    have n3 := Int.emod_nonneg (c * c + 39373 * c + 7) (show (2147483629 : Int) ≠ 0 by decide)
    have n4 := Int.emod_lt_of_pos (c * c + 39373 * c + 7) (show (0 : Int) < 2147483629 by decide)
    generalize (c * c + 39373 * c + 7) % 2147483629 = e at n3 n4 ⊢
    refine ⟨.inl (.inl (by omega)), .inl (.inl (by decide)), by decide, ⟨by decide, by decide⟩, h1, ?_⟩
    exact q _ _ (Int.emod_nonneg _ (by omega)) (Int.emod_lt_of_pos _ h1) n1
/-- the words that are drawn -/
noncomputable def spWord (j : Nat) : Sp3 := fun ds μ Q => ∃ (p : Addr) (deep : Int) (a : Int) (b : Bool) (m : Int), ds = [.ref p, .int deep] ∧ 0 ≤ deep ∧ deep < j ∧ μ p = some (.lst [.int a, .bl b, .int m]) ∧ 0 ≤ a ∧ 0 ≤ m ∧
  ∀ w a' m' μ', ExtB p μ μ' → μ' p = some (.lst [.int a', .bl b, .int m']) → 0 ≤ a' → 0 ≤ m' → (cnts w : Int) + m' ≤ m → (deps w : Int) ≤ deep → sms w → w.length ≤ 4 → Q (.tup (encs w)) μ'
/-- between two turns of _law_word -/
noncomputable def WWord (p f : Addr) (b : Bool) (deep m : Int) (μ : Mu) (l : List D) (ρ : St3) (μ' : Mu) : Prop := ExtB p μ μ' ∧ ∃ w a' m' kk kd, ρ = [some (.ref p), some (.int deep), some (.ref f), kk, kd] ∧ μ' f = some (.lst (encs w)) ∧
  μ' p = some (.lst [.int a', .bl b, .int m']) ∧ 0 ≤ a' ∧ 0 ≤ m' ∧ (cnts w : Int) + m' ≤ m ∧ (deps w : Int) ≤ deep ∧ sms w ∧ l.length + w.length ≤ 4
theorem wword_app {p f : Addr} {b : Bool} {deep m : Int} {μ μ2 : Mu} {l : List D} {w : List Dd} {d : Dd} {a3 m3 : Int} {kk kd : Option D} (hpf : p ≠ f) (hf : μ f = none) (ex : ExtB p μ μ2) (e1 : μ2 f = some (.lst (encs w))) (e2 : μ2 p = some (.lst [.int a3, .bl b, .int m3]))
    (i1 : 0 ≤ a3) (i2 : 0 ≤ m3) (i3 : (cnts w : Int) + cnt d + m3 ≤ m) (i4 : (deps w : Int) ≤ deep) (i4' : (dep d : Int) ≤ deep) (i5 : sms w) (i5' : sm d) (i6 : l.length + 1 + w.length ≤ 4) :
    (encs w).length < sizeLine ∧ WWord p f b deep m μ l [some (.ref p), some (.int deep), some (.ref f), kk, kd] (updM μ2 f (.lst (encs w ++ [enc d]))) := by
  have hz : (100 : Nat) < sizeLine := by decide
  refine ⟨by rw [encs_length]; omega, fun c o hc hq => ?_, w ++ [d], a3, m3, kk, kd, rfl, ?_, ?_, i1, i2, ?_, ?_, ?_, ?_⟩
  · rw [updM_ne (ne_free hq hf)]; exact ex c o hc hq
  · rw [updM_same, encs_append]; simp [encs]
  · rw [updM_ne hpf]; exact e2
  · rw [cnts_append]; simp only [cnts]; omega
  · rw [deps_append]; simp only [deps]; omega
  · rw [sms_append]; exact ⟨i5, by simp only [sms]; exact ⟨i5', trivial⟩⟩
  · rw [List.length_append]; simp only [List.length_cons, List.length_nil]; omega
theorem ite_both {a b T E : Prop} [Decidable a] [Decidable b] (hT : a → b → T) (hE : E) : if a then (if b then T else E) else E := by
  split
  · split
    · exact hT ‹_› ‹_›
    · exact hE
  · exact hE
theorem rd__law_word (j : Nat) (ds : List D) (μ : Mu) (Q : VK3) (h : spWord (j + 1) ds μ Q) : t__law_word spChoice (spWord j) { nx := fun _ μ' => Q .non μ', rt := Q } (start3 N__law_word ds) μ := by
  obtain ⟨p, deep, a, b, m, rfl, h1, h2, h3, h4, h5, q⟩ := h
  refine ⟨(by decide : 0 ≤ sizeLine), fun f hf => ?_⟩
  have hpf : p ≠ f := ne_free h3 hf
  refine ⟨p, 5, a, b, [.int m], rfl, by decide, by decide, by rw [updM_ne hpf]; exact h3, h4, fun r a1 r1 r2 r3 => ?_⟩
  refine ⟨⟨by omega, by omega⟩, ?_⟩
  refine for_inv (WWord p f b deep m μ) ?_ (fun _ _ _ _ => trivial) ?_ ?_
  · refine ⟨fun c o hc hq => ?_, [], a1, m, none, none, rfl, ?_, updM_same, r3, h5, by simp [cnts], by simp [deps]; exact h1, by simp [sms], ?_⟩
    · rw [updM_ne hc, updM_ne (ne_free hq hf)]; exact hq
    · rw [updM_ne (Ne.symm hpf), updM_same]; simp [encs]
    · simp only [rngD, List.length_map, List.length_range, List.length_nil]; omega
  · rintro ρ μ' ⟨ex, w, a', m', kk, kd, rfl, e1, e2, i1, i2, i3, i4, i5, i6⟩
    simp only [Pv.seq3, Pv.next3, Pv.never3, Pv.brk3, Pv.cnt3, Pv.drop3, Pv.ret3, Pv.retN3, Pv.ifs3, Pv.gn3, Pv.gnil3, Pv.gcons3, Pv.gtup3, Pv.set3, Pv.asg3, Pv.par3, Pv.sub3, Pv.for3, Pv.is3, Pv.ir3, Pv.ir23, Pv.v3, Pv.c3, Pv.o3, Pv.un3, Pv.b3, Pv.and3, Pv.or3, Pv.not3, Pv.andV3, Pv.orV3, Pv.notV3, Pv.if3, Pv.nil3, Pv.cons3, Pv.tup3, Pv.lst3, Pv.call3, Pv.mt3, Pv.comp3, Pv.tt3, Pv.getI, List.set_cons_zero, List.set_cons_succ, Pv.int2, Pv.int20, Pv.subR, Pv.mulR, Pv.intR, Pv.sl3, Pv.np3, Pv.pt3, Pv.slR, Pv.modR, Pv.fdivR, Pv.powR, Pv.ltR, Pv.leR, Pv.gtR, Pv.geR, Pv.negR, Pv.addR, Pv.eqR_ii, Pv.eqR_ss, Pv.eqR_bb, Pv.eqR_is, Pv.neR_ii, Pv.neR_ss, Pv.neR_bb, Pv.inR, Pv.ixR, Pv.lenR, Pv.absR, Pv.tupR, Pv.sumR, Pv.tyN, Pv.isIn, Pv.isiR, Pv.appR, Pv.extR, Pv.smt3, Pv.joinR, Pv.splitR, Pv.startsR, Pv.pop3, Pv.lrev3, Pv.strR, Pv.start3, List.map_cons, List.map_nil, List.cons_append, List.nil_append, List.length_cons, List.length_nil, List.replicate, Pv.atI0, Pv.atI1, Pv.atI2, Nat.reduceAdd, Nat.reduceSub, Nat.zero_add, reduceIte, Pv.strs?, Bool.not_true, Bool.not_false, Bool.false_eq_true, if_false, if_true, decide_eq_true_eq, Bool.not_eq_true', decide_eq_false_iff_not, Pv.ixN0, Pv.ixN1, Pv.ixN2, true_and, and_true, Pv.cst0, Pv.cst1, Pv.cst2, Pv.cst3, Int.reduceEq, Option.bind_none, Option.bind_some, Pv.kn_go_jump, Pv.kn_go_turn, Pv.kn_go_times, Pv.kn_jump_go, Pv.kn_jump_turn, Pv.kn_jump_times, Pv.kn_turn_go, Pv.kn_turn_jump, Pv.kn_turn_times, Pv.kn_times_go, Pv.kn_times_jump, Pv.kn_times_turn, Pv.kp_go, Pv.kp_jump, Pv.kp_turn, Pv.kp_times, Pv.kz_go, Pv.kz_jump, Pv.kz_turn, Pv.kz_times, e1]
    exact q w a' m' μ' ex e2 i1 i2 i3 i4 i5 (by simpa using i6)
  · rintro x rest ρ μ' ⟨ex, w, a', m', kk, kd, rfl, e1, e2, i1, i2, i3, i4, i5, i6⟩
    rw [List.length_cons] at i6
    refine ⟨p, 7, a', b, [.int m'], rfl, by decide, by decide, e2, i1, fun kd2 a2 k1 k2 k3 => ?_⟩
    -- the state behind the kind's draw
    have e3 : ∀ o : MO, updM μ' p o f = some (.lst (encs w)) := fun o => by rw [updM_ne (Ne.symm hpf)]; exact e1
    have ex3 : ∀ o : MO, ExtB p μ (updM μ' p o) := fun o => ex.trans ExtB.upd
    simp only [Pv.seq3, Pv.next3, Pv.never3, Pv.brk3, Pv.cnt3, Pv.drop3, Pv.ret3, Pv.retN3, Pv.ifs3, Pv.gn3, Pv.gnil3, Pv.gcons3, Pv.gtup3, Pv.set3, Pv.asg3, Pv.par3, Pv.sub3, Pv.for3, Pv.is3, Pv.ir3, Pv.ir23, Pv.v3, Pv.c3, Pv.o3, Pv.un3, Pv.b3, Pv.and3, Pv.or3, Pv.not3, Pv.andV3, Pv.orV3, Pv.notV3, Pv.if3, Pv.nil3, Pv.cons3, Pv.tup3, Pv.lst3, Pv.call3, Pv.mt3, Pv.comp3, Pv.tt3, Pv.getI, List.set_cons_zero, List.set_cons_succ, Pv.int2, Pv.int20, Pv.subR, Pv.mulR, Pv.intR, Pv.sl3, Pv.np3, Pv.pt3, Pv.slR, Pv.modR, Pv.fdivR, Pv.powR, Pv.ltR, Pv.leR, Pv.gtR, Pv.geR, Pv.negR, Pv.addR, Pv.eqR_ii, Pv.eqR_ss, Pv.eqR_bb, Pv.eqR_is, Pv.neR_ii, Pv.neR_ss, Pv.neR_bb, Pv.inR, Pv.ixR, Pv.lenR, Pv.absR, Pv.tupR, Pv.sumR, Pv.tyN, Pv.isIn, Pv.isiR, Pv.appR, Pv.extR, Pv.smt3, Pv.joinR, Pv.splitR, Pv.startsR, Pv.pop3, Pv.lrev3, Pv.strR, Pv.start3, List.map_cons, List.map_nil, List.cons_append, List.nil_append, List.length_cons, List.length_nil, List.replicate, Pv.atI0, Pv.atI1, Pv.atI2, Nat.reduceAdd, Nat.reduceSub, Nat.zero_add, reduceIte, Pv.strs?, Bool.not_true, Bool.not_false, Bool.false_eq_true, if_false, if_true, decide_eq_true_eq, Bool.not_eq_true', decide_eq_false_iff_not, Pv.ixN0, Pv.ixN1, Pv.ixN2, true_and, and_true, Pv.cst0, Pv.cst1, Pv.cst2, Pv.cst3, Int.reduceEq, Option.bind_none, Option.bind_some, Pv.kn_go_jump, Pv.kn_go_turn, Pv.kn_go_times, Pv.kn_jump_go, Pv.kn_jump_turn, Pv.kn_jump_times, Pv.kn_turn_go, Pv.kn_turn_jump, Pv.kn_turn_times, Pv.kn_times_go, Pv.kn_times_jump, Pv.kn_times_turn, Pv.kp_go, Pv.kp_jump, Pv.kp_turn, Pv.kp_times, Pv.kz_go, Pv.kz_jump, Pv.kz_turn, Pv.kz_times, updM_same, updM_updM, e3]
    have hz : (100 : Nat) < sizeLine := by decide
    split
    · next h6 =>
      refine ite_both (fun h7 h8 => ?_) ?_
      · refine ⟨p, 5, a2, b, [.int (m' - 1)], rfl, by decide, by decide, updM_same, k3, fun n a3 n1 n2 n3 => ?_⟩
        rw [updM_updM]
        refine ⟨p, deep - 1, a3, b, m' - 1, rfl, by omega, by omega, updM_same, n3, by omega, fun w2 a4 m4 μ4 x1 x2 x3 x4 x5 x6 x7 x8 => ⟨by omega, ?_⟩⟩
        have e4 : μ4 f = some (.lst (encs w)) := x1 f _ (Ne.symm hpf) (e3 _)
        simp only [e4]
        exact wword_app (d := .times n w2) hpf hf ((ex3 _).trans x1) e4 x2 x3 x4 (by simp only [cnt]; omega) i4 (by simp only [dep]; omega) i5 (by simp only [sm]; exact ⟨by omega, x7⟩) i6
      · split
        · refine ⟨by omega, fun t ht => ?_⟩
          have hpt : p ≠ t := ne_free updM_same ht
          have hft : f ≠ t := ne_free (e3 _) ht
          refine ⟨p, 8, a2, b, [.int (m' - 1)], rfl, by decide, by decide, by rw [updM_ne hpt]; exact updM_same, k3, fun n a3 n1 n2 n3 => ?_⟩
          have et : ∀ (o o' : MO) (ν : Mu), updM (updM ν t o) p o' t = some o := fun o o' ν => by rw [updM_ne (Ne.symm hpt), updM_same]
          obtain ⟨dv, hd, e5⟩ := atI_in (l := ([D.int 1, D.int (-1), D.int 2, D.int 3, D.int (-5), D.int 0, D.int 1, D.int (-1)] : List D)) (i := n) n1 (by simp only [List.length_cons, List.length_nil]; omega)
          have hk : ∃ k : Int, dv = .int k ∧ -5 ≤ k ∧ k ≤ 3 := by
            simp only [List.mem_cons, List.not_mem_nil, or_false] at hd
            rcases hd with rfl | rfl | rfl | rfl | rfl | rfl | rfl | rfl <;> exact ⟨_, rfl, by decide, by decide⟩
          obtain ⟨k, rfl, g1, g2⟩ := hk
          simp only [Pv.seq3, Pv.next3, Pv.never3, Pv.brk3, Pv.cnt3, Pv.drop3, Pv.ret3, Pv.retN3, Pv.ifs3, Pv.gn3, Pv.gnil3, Pv.gcons3, Pv.gtup3, Pv.set3, Pv.asg3, Pv.par3, Pv.sub3, Pv.for3, Pv.is3, Pv.ir3, Pv.ir23, Pv.v3, Pv.c3, Pv.o3, Pv.un3, Pv.b3, Pv.and3, Pv.or3, Pv.not3, Pv.andV3, Pv.orV3, Pv.notV3, Pv.if3, Pv.nil3, Pv.cons3, Pv.tup3, Pv.lst3, Pv.call3, Pv.mt3, Pv.comp3, Pv.tt3, Pv.getI, List.set_cons_zero, List.set_cons_succ, Pv.int2, Pv.int20, Pv.subR, Pv.mulR, Pv.intR, Pv.sl3, Pv.np3, Pv.pt3, Pv.slR, Pv.modR, Pv.fdivR, Pv.powR, Pv.ltR, Pv.leR, Pv.gtR, Pv.geR, Pv.negR, Pv.addR, Pv.eqR_ii, Pv.eqR_ss, Pv.eqR_bb, Pv.eqR_is, Pv.neR_ii, Pv.neR_ss, Pv.neR_bb, Pv.inR, Pv.ixR, Pv.lenR, Pv.absR, Pv.tupR, Pv.sumR, Pv.tyN, Pv.isIn, Pv.isiR, Pv.appR, Pv.extR, Pv.smt3, Pv.joinR, Pv.splitR, Pv.startsR, Pv.pop3, Pv.lrev3, Pv.strR, Pv.start3, List.map_cons, List.map_nil, List.cons_append, List.nil_append, List.length_cons, List.length_nil, List.replicate, Pv.atI0, Pv.atI1, Pv.atI2, Nat.reduceAdd, Nat.reduceSub, Nat.zero_add, reduceIte, Pv.strs?, Bool.not_true, Bool.not_false, Bool.false_eq_true, if_false, if_true, decide_eq_true_eq, Bool.not_eq_true', decide_eq_false_iff_not, Pv.ixN0, Pv.ixN1, Pv.ixN2, true_and, and_true, Pv.cst0, Pv.cst1, Pv.cst2, Pv.cst3, Int.reduceEq, Option.bind_none, Option.bind_some, Pv.kn_go_jump, Pv.kn_go_turn, Pv.kn_go_times, Pv.kn_jump_go, Pv.kn_jump_turn, Pv.kn_jump_times, Pv.kn_turn_go, Pv.kn_turn_jump, Pv.kn_turn_times, Pv.kn_times_go, Pv.kn_times_jump, Pv.kn_times_turn, Pv.kp_go, Pv.kp_jump, Pv.kp_turn, Pv.kp_times, Pv.kz_go, Pv.kz_jump, Pv.kz_turn, Pv.kz_times, et, e5]
          have e4 : ∀ (o o' : MO), updM (updM (updM μ' p o) t o') p (.lst [.int a3, .bl b, .int (m' - 1)]) f = some (.lst (encs w)) := fun o o' => by rw [updM_ne (Ne.symm hpf), updM_ne hft]; exact e3 _
          simp only [e4]
          refine ⟨by omega, wword_app (d := .turn k) hpf hf (fun c o hc hq => ?_) (e4 _ _) updM_same n3 (by omega) (by simp only [cnt]; omega) i4 (by simp only [dep]; omega) i5 (by simp only [sm]; omega) i6⟩
          have z := ex3 (.lst [.int a2, .bl b, .int (m' - 1)]) c o hc hq
          rw [updM_ne hc, updM_ne (ne_free z ht)]
          exact z
        · split
          · refine ⟨p, 7, a2, b, [.int (m' - 1)], rfl, by decide, by decide, updM_same, k3, fun n a3 n1 n2 n3 => ?_⟩
            simp only [Pv.seq3, Pv.next3, Pv.never3, Pv.brk3, Pv.cnt3, Pv.drop3, Pv.ret3, Pv.retN3, Pv.ifs3, Pv.gn3, Pv.gnil3, Pv.gcons3, Pv.gtup3, Pv.set3, Pv.asg3, Pv.par3, Pv.sub3, Pv.for3, Pv.is3, Pv.ir3, Pv.ir23, Pv.v3, Pv.c3, Pv.o3, Pv.un3, Pv.b3, Pv.and3, Pv.or3, Pv.not3, Pv.andV3, Pv.orV3, Pv.notV3, Pv.if3, Pv.nil3, Pv.cons3, Pv.tup3, Pv.lst3, Pv.call3, Pv.mt3, Pv.comp3, Pv.tt3, Pv.getI, List.set_cons_zero, List.set_cons_succ, Pv.int2, Pv.int20, Pv.subR, Pv.mulR, Pv.intR, Pv.sl3, Pv.np3, Pv.pt3, Pv.slR, Pv.modR, Pv.fdivR, Pv.powR, Pv.ltR, Pv.leR, Pv.gtR, Pv.geR, Pv.negR, Pv.addR, Pv.eqR_ii, Pv.eqR_ss, Pv.eqR_bb, Pv.eqR_is, Pv.neR_ii, Pv.neR_ss, Pv.neR_bb, Pv.inR, Pv.ixR, Pv.lenR, Pv.absR, Pv.tupR, Pv.sumR, Pv.tyN, Pv.isIn, Pv.isiR, Pv.appR, Pv.extR, Pv.smt3, Pv.joinR, Pv.splitR, Pv.startsR, Pv.pop3, Pv.lrev3, Pv.strR, Pv.start3, List.map_cons, List.map_nil, List.cons_append, List.nil_append, List.length_cons, List.length_nil, List.replicate, Pv.atI0, Pv.atI1, Pv.atI2, Nat.reduceAdd, Nat.reduceSub, Nat.zero_add, reduceIte, Pv.strs?, Bool.not_true, Bool.not_false, Bool.false_eq_true, if_false, if_true, decide_eq_true_eq, Bool.not_eq_true', decide_eq_false_iff_not, Pv.ixN0, Pv.ixN1, Pv.ixN2, true_and, and_true, Pv.cst0, Pv.cst1, Pv.cst2, Pv.cst3, Int.reduceEq, Option.bind_none, Option.bind_some, Pv.kn_go_jump, Pv.kn_go_turn, Pv.kn_go_times, Pv.kn_jump_go, Pv.kn_jump_turn, Pv.kn_jump_times, Pv.kn_turn_go, Pv.kn_turn_jump, Pv.kn_turn_times, Pv.kn_times_go, Pv.kn_times_jump, Pv.kn_times_turn, Pv.kp_go, Pv.kp_jump, Pv.kp_turn, Pv.kp_times, Pv.kz_go, Pv.kz_jump, Pv.kz_turn, Pv.kz_times, updM_updM, e3]
            exact ⟨by omega, wword_app (d := .jump (n - 3)) hpf hf (ex3 _) (e3 _) updM_same n3 (by omega) (by simp only [cnt]; omega) i4 (by simp only [dep]; omega) i5 (by simp only [sm]; omega) i6⟩
          · refine ⟨p, 4, a2, b, [.int (m' - 1)], rfl, by decide, by decide, updM_same, k3, fun n a3 n1 n2 n3 => ?_⟩
            simp only [Pv.seq3, Pv.next3, Pv.never3, Pv.brk3, Pv.cnt3, Pv.drop3, Pv.ret3, Pv.retN3, Pv.ifs3, Pv.gn3, Pv.gnil3, Pv.gcons3, Pv.gtup3, Pv.set3, Pv.asg3, Pv.par3, Pv.sub3, Pv.for3, Pv.is3, Pv.ir3, Pv.ir23, Pv.v3, Pv.c3, Pv.o3, Pv.un3, Pv.b3, Pv.and3, Pv.or3, Pv.not3, Pv.andV3, Pv.orV3, Pv.notV3, Pv.if3, Pv.nil3, Pv.cons3, Pv.tup3, Pv.lst3, Pv.call3, Pv.mt3, Pv.comp3, Pv.tt3, Pv.getI, List.set_cons_zero, List.set_cons_succ, Pv.int2, Pv.int20, Pv.subR, Pv.mulR, Pv.intR, Pv.sl3, Pv.np3, Pv.pt3, Pv.slR, Pv.modR, Pv.fdivR, Pv.powR, Pv.ltR, Pv.leR, Pv.gtR, Pv.geR, Pv.negR, Pv.addR, Pv.eqR_ii, Pv.eqR_ss, Pv.eqR_bb, Pv.eqR_is, Pv.neR_ii, Pv.neR_ss, Pv.neR_bb, Pv.inR, Pv.ixR, Pv.lenR, Pv.absR, Pv.tupR, Pv.sumR, Pv.tyN, Pv.isIn, Pv.isiR, Pv.appR, Pv.extR, Pv.smt3, Pv.joinR, Pv.splitR, Pv.startsR, Pv.pop3, Pv.lrev3, Pv.strR, Pv.start3, List.map_cons, List.map_nil, List.cons_append, List.nil_append, List.length_cons, List.length_nil, List.replicate, Pv.atI0, Pv.atI1, Pv.atI2, Nat.reduceAdd, Nat.reduceSub, Nat.zero_add, reduceIte, Pv.strs?, Bool.not_true, Bool.not_false, Bool.false_eq_true, if_false, if_true, decide_eq_true_eq, Bool.not_eq_true', decide_eq_false_iff_not, Pv.ixN0, Pv.ixN1, Pv.ixN2, true_and, and_true, Pv.cst0, Pv.cst1, Pv.cst2, Pv.cst3, Int.reduceEq, Option.bind_none, Option.bind_some, Pv.kn_go_jump, Pv.kn_go_turn, Pv.kn_go_times, Pv.kn_jump_go, Pv.kn_jump_turn, Pv.kn_jump_times, Pv.kn_turn_go, Pv.kn_turn_jump, Pv.kn_turn_times, Pv.kn_times_go, Pv.kn_times_jump, Pv.kn_times_turn, Pv.kp_go, Pv.kp_jump, Pv.kp_turn, Pv.kp_times, Pv.kz_go, Pv.kz_jump, Pv.kz_turn, Pv.kz_times, updM_updM, e3]
            exact ⟨by omega, wword_app (d := .go n) hpf hf (ex3 _) (e3 _) updM_same n3 (by omega) (by simp only [cnt]; omega) i4 (by simp only [dep]; omega) i5 (by simp only [sm]; omega) i6⟩
    · refine ⟨ex3 _, w, a2, m', _, _, rfl, e3 _, updM_same, k3, i2, i3, i4, i5, by omega⟩
/-- a drawn word: deep, most -/
noncomputable def spDrawn (j : Nat) : Sp3 := fun ds μ Q => ∃ (ns : List Int) (k deep most : Int), ds = [.fls (ns.map D.int), .int k, .int deep, .int most] ∧ 0 ≤ k ∧ 0 ≤ deep ∧ deep < j ∧ 0 ≤ most ∧
  ∀ w μ', Ext μ μ' → (cnts w : Int) ≤ most → (deps w : Int) ≤ deep → sms w → w.length ≤ 4 → Q (.tup (encs w)) μ'
theorem rd__law_drawn_word (j : Nat) (ds : List D) (μ : Mu) (Q : VK3) (h : spDrawn j ds μ Q) : t__law_drawn_word spState (spWord j) { nx := fun _ μ' => Q .non μ', rt := Q } (start3 N__law_drawn_word ds) μ := by
  obtain ⟨ns, k, deep, most, rfl, h1, h2, h3, h4, q⟩ := h
  simp only [Pv.seq3, Pv.next3, Pv.never3, Pv.brk3, Pv.cnt3, Pv.drop3, Pv.ret3, Pv.retN3, Pv.ifs3, Pv.gn3, Pv.gnil3, Pv.gcons3, Pv.gtup3, Pv.set3, Pv.asg3, Pv.par3, Pv.sub3, Pv.for3, Pv.is3, Pv.ir3, Pv.ir23, Pv.v3, Pv.c3, Pv.o3, Pv.un3, Pv.b3, Pv.and3, Pv.or3, Pv.not3, Pv.andV3, Pv.orV3, Pv.notV3, Pv.if3, Pv.nil3, Pv.cons3, Pv.tup3, Pv.lst3, Pv.call3, Pv.mt3, Pv.comp3, Pv.tt3, Pv.getI, List.set_cons_zero, List.set_cons_succ, Pv.int2, Pv.int20, Pv.subR, Pv.mulR, Pv.intR, Pv.sl3, Pv.np3, Pv.pt3, Pv.slR, Pv.modR, Pv.fdivR, Pv.powR, Pv.ltR, Pv.leR, Pv.gtR, Pv.geR, Pv.negR, Pv.addR, Pv.eqR_ii, Pv.eqR_ss, Pv.eqR_bb, Pv.eqR_is, Pv.neR_ii, Pv.neR_ss, Pv.neR_bb, Pv.inR, Pv.ixR, Pv.lenR, Pv.absR, Pv.tupR, Pv.sumR, Pv.tyN, Pv.isIn, Pv.isiR, Pv.appR, Pv.extR, Pv.smt3, Pv.joinR, Pv.splitR, Pv.startsR, Pv.pop3, Pv.lrev3, Pv.strR, Pv.start3, List.map_cons, List.map_nil, List.cons_append, List.nil_append, List.length_cons, List.length_nil, List.replicate, Pv.atI0, Pv.atI1, Pv.atI2, Nat.reduceAdd, Nat.reduceSub, Nat.zero_add, reduceIte, Pv.strs?, Bool.not_true, Bool.not_false, Bool.false_eq_true, if_false, if_true, decide_eq_true_eq, Bool.not_eq_true', decide_eq_false_iff_not, Pv.ixN0, Pv.ixN1, Pv.ixN2, true_and, and_true, Pv.cst0, Pv.cst1, Pv.cst2, Pv.cst3, Int.reduceEq, Option.bind_none, Option.bind_some, Pv.kn_go_jump, Pv.kn_go_turn, Pv.kn_go_times, Pv.kn_jump_go, Pv.kn_jump_turn, Pv.kn_jump_times, Pv.kn_turn_go, Pv.kn_turn_jump, Pv.kn_turn_times, Pv.kn_times_go, Pv.kn_times_jump, Pv.kn_times_turn, Pv.kp_go, Pv.kp_jump, Pv.kp_turn, Pv.kp_times, Pv.kz_go, Pv.kz_jump, Pv.kz_turn, Pv.kz_times, t__law_drawn_word, N__law_drawn_word]
  refine ⟨ns, k, rfl, h1, fun a b p ha hp => ⟨by decide, fun t ht => ?_⟩⟩
  have hpt : p ≠ t := ne_free updM_same ht
  have ept : ∀ o o', updM (updM μ p o) t o' p = some o := fun o o' => by rw [updM_ne hpt, updM_same]
  simp only [Pv.seq3, Pv.next3, Pv.never3, Pv.brk3, Pv.cnt3, Pv.drop3, Pv.ret3, Pv.retN3, Pv.ifs3, Pv.gn3, Pv.gnil3, Pv.gcons3, Pv.gtup3, Pv.set3, Pv.asg3, Pv.par3, Pv.sub3, Pv.for3, Pv.is3, Pv.ir3, Pv.ir23, Pv.v3, Pv.c3, Pv.o3, Pv.un3, Pv.b3, Pv.and3, Pv.or3, Pv.not3, Pv.andV3, Pv.orV3, Pv.notV3, Pv.if3, Pv.nil3, Pv.cons3, Pv.tup3, Pv.lst3, Pv.call3, Pv.mt3, Pv.comp3, Pv.tt3, Pv.getI, List.set_cons_zero, List.set_cons_succ, Pv.int2, Pv.int20, Pv.subR, Pv.mulR, Pv.intR, Pv.sl3, Pv.np3, Pv.pt3, Pv.slR, Pv.modR, Pv.fdivR, Pv.powR, Pv.ltR, Pv.leR, Pv.gtR, Pv.geR, Pv.negR, Pv.addR, Pv.eqR_ii, Pv.eqR_ss, Pv.eqR_bb, Pv.eqR_is, Pv.neR_ii, Pv.neR_ss, Pv.neR_bb, Pv.inR, Pv.ixR, Pv.lenR, Pv.absR, Pv.tupR, Pv.sumR, Pv.tyN, Pv.isIn, Pv.isiR, Pv.appR, Pv.extR, Pv.smt3, Pv.joinR, Pv.splitR, Pv.startsR, Pv.pop3, Pv.lrev3, Pv.strR, Pv.start3, List.map_cons, List.map_nil, List.cons_append, List.nil_append, List.length_cons, List.length_nil, List.replicate, Pv.atI0, Pv.atI1, Pv.atI2, Nat.reduceAdd, Nat.reduceSub, Nat.zero_add, reduceIte, Pv.strs?, Bool.not_true, Bool.not_false, Bool.false_eq_true, if_false, if_true, decide_eq_true_eq, Bool.not_eq_true', decide_eq_false_iff_not, Pv.ixN0, Pv.ixN1, Pv.ixN2, true_and, and_true, Pv.cst0, Pv.cst1, Pv.cst2, Pv.cst3, Int.reduceEq, Option.bind_none, Option.bind_some, Pv.kn_go_jump, Pv.kn_go_turn, Pv.kn_go_times, Pv.kn_jump_go, Pv.kn_jump_turn, Pv.kn_jump_times, Pv.kn_turn_go, Pv.kn_turn_jump, Pv.kn_turn_times, Pv.kn_times_go, Pv.kn_times_jump, Pv.kn_times_turn, Pv.kp_go, Pv.kp_jump, Pv.kp_turn, Pv.kp_times, Pv.kz_go, Pv.kz_jump, Pv.kz_turn, Pv.kz_times, ept, updM_same]
  refine ⟨by decide, fun s hs => ?_⟩
  refine ⟨s, deep, a, b, most, rfl, h2, h3, updM_same, ha, h4, fun w a' m' μ' x1 x2 x3 x4 x5 x6 x7 x8 => q w μ' (fun c o hc => ?_) (by omega) x6 x7 x8⟩
  have z1 : updM μ p (.lst [.int a, .bl b]) c = some o := by rw [updM_ne (ne_free hc hp)]; exact hc
  have z2 : updM (updM μ p (.lst [.int a, .bl b])) t (.lst [.int most]) c = some o := by rw [updM_ne (ne_free z1 ht)]; exact z1
  have hcs : c ≠ s := ne_free z2 hs
  exact x1 c o hcs (by rw [updM_ne hcs]; exact z2)
noncomputable def spWhole : Sp3 := fun ds μ Q => ∃ i : Int, ds = [.int i] ∧ Q (.bl true) μ
theorem rd__law_whole (ds : List D) (μ : Mu) (Q : VK3) (h : spWhole ds μ Q) : t__law_whole { nx := fun _ μ' => Q .non μ', rt := Q } (start3 N__law_whole ds) μ := by
  obtain ⟨i, rfl, q⟩ := h
  simp only [Pv.seq3, Pv.next3, Pv.never3, Pv.brk3, Pv.cnt3, Pv.drop3, Pv.ret3, Pv.retN3, Pv.ifs3, Pv.gn3, Pv.gnil3, Pv.gcons3, Pv.gtup3, Pv.set3, Pv.asg3, Pv.par3, Pv.sub3, Pv.for3, Pv.is3, Pv.ir3, Pv.ir23, Pv.v3, Pv.c3, Pv.o3, Pv.un3, Pv.b3, Pv.and3, Pv.or3, Pv.not3, Pv.andV3, Pv.orV3, Pv.notV3, Pv.if3, Pv.nil3, Pv.cons3, Pv.tup3, Pv.lst3, Pv.call3, Pv.mt3, Pv.comp3, Pv.tt3, Pv.getI, List.set_cons_zero, List.set_cons_succ, Pv.int2, Pv.int20, Pv.subR, Pv.mulR, Pv.intR, Pv.sl3, Pv.np3, Pv.pt3, Pv.slR, Pv.modR, Pv.fdivR, Pv.powR, Pv.ltR, Pv.leR, Pv.gtR, Pv.geR, Pv.negR, Pv.addR, Pv.eqR_ii, Pv.eqR_ss, Pv.eqR_bb, Pv.eqR_is, Pv.neR_ii, Pv.neR_ss, Pv.neR_bb, Pv.inR, Pv.ixR, Pv.lenR, Pv.absR, Pv.tupR, Pv.sumR, Pv.tyN, Pv.isIn, Pv.isiR, Pv.appR, Pv.extR, Pv.smt3, Pv.joinR, Pv.splitR, Pv.startsR, Pv.pop3, Pv.lrev3, Pv.strR, Pv.start3, List.map_cons, List.map_nil, List.cons_append, List.nil_append, List.length_cons, List.length_nil, List.replicate, Pv.atI0, Pv.atI1, Pv.atI2, Nat.reduceAdd, Nat.reduceSub, Nat.zero_add, reduceIte, Pv.strs?, Bool.not_true, Bool.not_false, Bool.false_eq_true, if_false, if_true, decide_eq_true_eq, Bool.not_eq_true', decide_eq_false_iff_not, Pv.ixN0, Pv.ixN1, Pv.ixN2, true_and, and_true, Pv.cst0, Pv.cst1, Pv.cst2, Pv.cst3, Int.reduceEq, Option.bind_none, Option.bind_some, Pv.kn_go_jump, Pv.kn_go_turn, Pv.kn_go_times, Pv.kn_jump_go, Pv.kn_jump_turn, Pv.kn_jump_times, Pv.kn_turn_go, Pv.kn_turn_jump, Pv.kn_turn_times, Pv.kn_times_go, Pv.kn_times_jump, Pv.kn_times_turn, Pv.kp_go, Pv.kp_jump, Pv.kp_turn, Pv.kp_times, Pv.kz_go, Pv.kz_jump, Pv.kz_turn, Pv.kz_times, t__law_whole, N__law_whole]
  simp [q]
/-! small things of the law -/
noncomputable def spRef : Sp3 := fun ds μ Q => ∃ p, ds = [.ref p, .int 0] ∧ μ p = some (.lst BL) ∧ ∀ μ', Ext μ μ' → Q (.bl true) μ'
theorem rd__law_refused (ds : List D) (μ : Mu) (Q : VK3) (h : spRef ds μ Q) : t__law_refused { nx := fun _ μ' => Q .non μ', rt := Q } (start3 N__law_refused ds) μ := by
  obtain ⟨p, rfl, ep, q⟩ := h
  simp only [Pv.seq3, Pv.next3, Pv.never3, Pv.brk3, Pv.cnt3, Pv.drop3, Pv.ret3, Pv.retN3, Pv.ifs3, Pv.gn3, Pv.gnil3, Pv.gcons3, Pv.gtup3, Pv.set3, Pv.asg3, Pv.par3, Pv.sub3, Pv.for3, Pv.is3, Pv.ir3, Pv.ir23, Pv.v3, Pv.c3, Pv.o3, Pv.un3, Pv.b3, Pv.and3, Pv.or3, Pv.not3, Pv.andV3, Pv.orV3, Pv.notV3, Pv.if3, Pv.nil3, Pv.cons3, Pv.tup3, Pv.lst3, Pv.call3, Pv.mt3, Pv.comp3, Pv.tt3, Pv.getI, List.set_cons_zero, List.set_cons_succ, Pv.int2, Pv.int20, Pv.subR, Pv.mulR, Pv.intR, Pv.sl3, Pv.np3, Pv.pt3, Pv.slR, Pv.modR, Pv.fdivR, Pv.powR, Pv.ltR, Pv.leR, Pv.gtR, Pv.geR, Pv.negR, Pv.addR, Pv.eqR_ii, Pv.eqR_ss, Pv.eqR_bb, Pv.eqR_is, Pv.neR_ii, Pv.neR_ss, Pv.neR_bb, Pv.inR, Pv.ixR, Pv.lenR, Pv.absR, Pv.tupR, Pv.sumR, Pv.tyN, Pv.isIn, Pv.isiR, Pv.appR, Pv.extR, Pv.smt3, Pv.joinR, Pv.splitR, Pv.startsR, Pv.pop3, Pv.lrev3, Pv.strR, Pv.start3, List.map_cons, List.map_nil, List.cons_append, List.nil_append, List.length_cons, List.length_nil, List.replicate, Pv.atI0, Pv.atI1, Pv.atI2, Nat.reduceAdd, Nat.reduceSub, Nat.zero_add, reduceIte, Pv.strs?, Bool.not_true, Bool.not_false, Bool.false_eq_true, if_false, if_true, decide_eq_true_eq, Bool.not_eq_true', decide_eq_false_iff_not, Pv.ixN0, Pv.ixN1, Pv.ixN2, true_and, and_true, Pv.cst0, Pv.cst1, Pv.cst2, Pv.cst3, Int.reduceEq, Option.bind_none, Option.bind_some, Pv.kn_go_jump, Pv.kn_go_turn, Pv.kn_go_times, Pv.kn_jump_go, Pv.kn_jump_turn, Pv.kn_jump_times, Pv.kn_turn_go, Pv.kn_turn_jump, Pv.kn_turn_times, Pv.kn_times_go, Pv.kn_times_jump, Pv.kn_times_turn, Pv.kp_go, Pv.kp_jump, Pv.kp_turn, Pv.kp_times, Pv.kz_go, Pv.kz_jump, Pv.kz_turn, Pv.kz_times, t__law_refused, N__law_refused]
  refine ⟨by decide, fun r hr => ?_⟩
  have hl : (rngD 0 (6 : Int).toNat).length ≤ sizeLine := by decide
  refine comp_map (fun x => match x with | .int i => .bl (decide (i = 0)) | _ => .non) hr hl (fun _ _ => trivial) ?_ ?_
  · intro x hx μ' R ex k
    obtain ⟨i, _, rfl⟩ := List.mem_map.mp hx
    simp only [Pv.seq3, Pv.next3, Pv.never3, Pv.brk3, Pv.cnt3, Pv.drop3, Pv.ret3, Pv.retN3, Pv.ifs3, Pv.gn3, Pv.gnil3, Pv.gcons3, Pv.gtup3, Pv.set3, Pv.asg3, Pv.par3, Pv.sub3, Pv.for3, Pv.is3, Pv.ir3, Pv.ir23, Pv.v3, Pv.c3, Pv.o3, Pv.un3, Pv.b3, Pv.and3, Pv.or3, Pv.not3, Pv.andV3, Pv.orV3, Pv.notV3, Pv.if3, Pv.nil3, Pv.cons3, Pv.tup3, Pv.lst3, Pv.call3, Pv.mt3, Pv.comp3, Pv.tt3, Pv.getI, List.set_cons_zero, List.set_cons_succ, Pv.int2, Pv.int20, Pv.subR, Pv.mulR, Pv.intR, Pv.sl3, Pv.np3, Pv.pt3, Pv.slR, Pv.modR, Pv.fdivR, Pv.powR, Pv.ltR, Pv.leR, Pv.gtR, Pv.geR, Pv.negR, Pv.addR, Pv.eqR_ii, Pv.eqR_ss, Pv.eqR_bb, Pv.eqR_is, Pv.neR_ii, Pv.neR_ss, Pv.neR_bb, Pv.inR, Pv.ixR, Pv.lenR, Pv.absR, Pv.tupR, Pv.sumR, Pv.tyN, Pv.isIn, Pv.isiR, Pv.appR, Pv.extR, Pv.smt3, Pv.joinR, Pv.splitR, Pv.startsR, Pv.pop3, Pv.lrev3, Pv.strR, Pv.start3, List.map_cons, List.map_nil, List.cons_append, List.nil_append, List.length_cons, List.length_nil, List.replicate, Pv.atI0, Pv.atI1, Pv.atI2, Nat.reduceAdd, Nat.reduceSub, Nat.zero_add, reduceIte, Pv.strs?, Bool.not_true, Bool.not_false, Bool.false_eq_true, if_false, if_true, decide_eq_true_eq, Bool.not_eq_true', decide_eq_false_iff_not, Pv.ixN0, Pv.ixN1, Pv.ixN2, true_and, and_true, Pv.cst0, Pv.cst1, Pv.cst2, Pv.cst3, Int.reduceEq, Option.bind_none, Option.bind_some, Pv.kn_go_jump, Pv.kn_go_turn, Pv.kn_go_times, Pv.kn_jump_go, Pv.kn_jump_turn, Pv.kn_jump_times, Pv.kn_turn_go, Pv.kn_turn_jump, Pv.kn_turn_times, Pv.kn_times_go, Pv.kn_times_jump, Pv.kn_times_turn, Pv.kp_go, Pv.kp_jump, Pv.kp_turn, Pv.kp_times, Pv.kz_go, Pv.kz_jump, Pv.kz_turn, Pv.kz_times, cst0]
    exact k _ (Ext.refl _)
  · intro μ1 e1 y1
    have y2 : μ1 r = some (.lst [.bl true, .bl false, .bl false, .bl false, .bl false, .bl false]) := by rw [y1]; rfl
    refine ⟨by decide, fun t ht => ?_⟩
    have hrt : r ≠ t := ne_free y2 ht
    simp only [Pv.seq3, Pv.next3, Pv.never3, Pv.brk3, Pv.cnt3, Pv.drop3, Pv.ret3, Pv.retN3, Pv.ifs3, Pv.gn3, Pv.gnil3, Pv.gcons3, Pv.gtup3, Pv.set3, Pv.asg3, Pv.par3, Pv.sub3, Pv.for3, Pv.is3, Pv.ir3, Pv.ir23, Pv.v3, Pv.c3, Pv.o3, Pv.un3, Pv.b3, Pv.and3, Pv.or3, Pv.not3, Pv.andV3, Pv.orV3, Pv.notV3, Pv.if3, Pv.nil3, Pv.cons3, Pv.tup3, Pv.lst3, Pv.call3, Pv.mt3, Pv.comp3, Pv.tt3, Pv.getI, List.set_cons_zero, List.set_cons_succ, Pv.int2, Pv.int20, Pv.subR, Pv.mulR, Pv.intR, Pv.sl3, Pv.np3, Pv.pt3, Pv.slR, Pv.modR, Pv.fdivR, Pv.powR, Pv.ltR, Pv.leR, Pv.gtR, Pv.geR, Pv.negR, Pv.addR, Pv.eqR_ii, Pv.eqR_ss, Pv.eqR_bb, Pv.eqR_is, Pv.neR_ii, Pv.neR_ss, Pv.neR_bb, Pv.inR, Pv.ixR, Pv.lenR, Pv.absR, Pv.tupR, Pv.sumR, Pv.tyN, Pv.isIn, Pv.isiR, Pv.appR, Pv.extR, Pv.smt3, Pv.joinR, Pv.splitR, Pv.startsR, Pv.pop3, Pv.lrev3, Pv.strR, Pv.start3, List.map_cons, List.map_nil, List.cons_append, List.nil_append, List.length_cons, List.length_nil, List.replicate, Pv.atI0, Pv.atI1, Pv.atI2, Nat.reduceAdd, Nat.reduceSub, Nat.zero_add, reduceIte, Pv.strs?, Bool.not_true, Bool.not_false, Bool.false_eq_true, if_false, if_true, decide_eq_true_eq, Bool.not_eq_true', decide_eq_false_iff_not, Pv.ixN0, Pv.ixN1, Pv.ixN2, true_and, and_true, Pv.cst0, Pv.cst1, Pv.cst2, Pv.cst3, Int.reduceEq, Option.bind_none, Option.bind_some, Pv.kn_go_jump, Pv.kn_go_turn, Pv.kn_go_times, Pv.kn_jump_go, Pv.kn_jump_turn, Pv.kn_jump_times, Pv.kn_turn_go, Pv.kn_turn_jump, Pv.kn_turn_times, Pv.kn_times_go, Pv.kn_times_jump, Pv.kn_times_turn, Pv.kp_go, Pv.kp_jump, Pv.kp_turn, Pv.kp_times, Pv.kz_go, Pv.kz_jump, Pv.kz_turn, Pv.kz_times, updM_ne hrt, y2, updM_same]
    refine ⟨by decide, fun z hz => ?_⟩
    have e2 : Ext μ (updM (updM μ1 t (.lst [.bl true])) z (.lst BL)) := e1.trans ((Ext.new ht).trans (Ext.new hz))
    have d1 : datM (updM (updM μ1 t (.lst [.bl true])) z (.lst BL)) (.ref p) = some (.list [.bool true, .bool false, .bool false, .bool false, .bool false, .bool false, .bool true]) := by
      have := e2 p _ ep
      simp only [datM, this]; rfl
    have d2 : datM (updM (updM μ1 t (.lst [.bl true])) z (.lst BL)) (.ref z) = some (.list [.bool true, .bool false, .bool false, .bool false, .bool false, .bool false, .bool true]) := by simp only [datM, updM_same]; rfl
    have dp : (PyData.list [.bool true, .bool false, .bool false, .bool false, .bool false, .bool false, .bool true]).depth ≤ 64 := by decide
    show eqR (.ref p) (.ref z) (updM (updM μ1 t (.lst [.bl true])) z (.lst BL)) Q
    rw [eqR_dat rfl d1 d2 dp dp]
    have ev : PyData.eqv (.list [.bool true, .bool false, .bool false, .bool false, .bool false, .bool false, .bool true]) (.list [.bool true, .bool false, .bool false, .bool false, .bool false, .bool false, .bool true]) = true := by decide
    rw [ev]
    exact q _ e2
noncomputable def spCnt (j : Nat) : Sp3 := fun ds μ Q => ∃ w, ds = [.tup (encs w)] ∧ deps w < j ∧ Q (.int (cnts w)) μ
theorem rd__law_count (j : Nat) (ds : List D) (μ : Mu) (Q : VK3) (h : spCnt (j + 1) ds μ Q) : t__law_count (spCnt j) { nx := fun _ μ' => Q .non μ', rt := Q } (start3 N__law_count ds) μ := by
  obtain ⟨w, rfl, h1, q⟩ := h
  refine for_inv (fun l ρ μ' => μ' = μ ∧ ∃ (r : List Dd) (c : Nat) (dd : Option D), l = encs r ∧ ρ = [some (.tup (encs w)), some (.int c), dd] ∧ deps r ≤ deps w ∧ c + cnts r = cnts w) ?_ (fun _ _ _ _ => trivial) ?_ ?_
  · exact ⟨rfl, w, 0, none, rfl, rfl, Nat.le_refl _, by omega⟩
  · rintro ρ μ' ⟨rfl, r, c, dd, e, rfl, _, e2⟩
    cases r with
    | nil =>
      simp only [cnts, Nat.add_zero] at e2
      subst e2
      exact q
    | cons _ _ => simp [encs] at e
  · rintro x rest ρ μ' ⟨rfl, r, c, dd, e, rfl, dp, e2⟩
    cases r with
    | nil => simp [encs] at e
    | cons d r =>
      simp only [encs, List.cons.injEq] at e
      obtain ⟨rfl, rfl⟩ := e
      simp only [deps, cnts] at dp e2
      have e3 : ((c + 1 : Nat) : Int) = (c : Int) + 1 := by omega
      cases d
      case go n => exact ⟨rfl, r, c + 1, _, rfl, by rw [e3]; rfl, by omega, by simp only [cnt] at e2; omega⟩
      case jump n => exact ⟨rfl, r, c + 1, _, rfl, by rw [e3]; rfl, by omega, by simp only [cnt] at e2; omega⟩
      case turn n => exact ⟨rfl, r, c + 1, _, rfl, by rw [e3]; rfl, by omega, by simp only [cnt] at e2; omega⟩
      case times n v =>
        simp only [dep, cnt] at dp e2
        refine ⟨v, rfl, by omega, rfl, r, c + 1 + cnts v, some (.tup [.str "times", .int n, .tup (encs v)]), rfl, ?_, by omega, by omega⟩
        have e4 : ((c + 1 + cnts v : Nat) : Int) = (c : Int) + 1 + (cnts v : Int) := by omega
        rw [e4]
        rfl
/-- times within one another -/
noncomputable def nst (w : List Dd) : Nat → List Dd
  | 0 => w
  | i + 1 => [.times (1 + (i : Int) % 2) (nst w i)]
noncomputable def spNst : Sp3 := fun ds μ Q => ∃ (n : Int) (w : List Dd), ds = [.int n, .tup (encs w)] ∧ 0 ≤ n ∧ n ≤ 100 ∧ Q (.tup (encs (nst w n.toNat))) μ
theorem rd__law_nested (ds : List D) (μ : Mu) (Q : VK3) (h : spNst ds μ Q) : t__law_nested { nx := fun _ μ' => Q .non μ', rt := Q } (start3 N__law_nested ds) μ := by
  obtain ⟨n, w, rfl, h0, h1, q⟩ := h
  simp only [Pv.seq3, Pv.next3, Pv.never3, Pv.brk3, Pv.cnt3, Pv.drop3, Pv.ret3, Pv.retN3, Pv.ifs3, Pv.gn3, Pv.gnil3, Pv.gcons3, Pv.gtup3, Pv.set3, Pv.asg3, Pv.par3, Pv.sub3, Pv.for3, Pv.is3, Pv.ir3, Pv.ir23, Pv.v3, Pv.c3, Pv.o3, Pv.un3, Pv.b3, Pv.and3, Pv.or3, Pv.not3, Pv.andV3, Pv.orV3, Pv.notV3, Pv.if3, Pv.nil3, Pv.cons3, Pv.tup3, Pv.lst3, Pv.call3, Pv.mt3, Pv.comp3, Pv.tt3, Pv.getI, List.set_cons_zero, List.set_cons_succ, Pv.int2, Pv.int20, Pv.subR, Pv.mulR, Pv.intR, Pv.sl3, Pv.np3, Pv.pt3, Pv.slR, Pv.modR, Pv.fdivR, Pv.powR, Pv.ltR, Pv.leR, Pv.gtR, Pv.geR, Pv.negR, Pv.addR, Pv.eqR_ii, Pv.eqR_ss, Pv.eqR_bb, Pv.eqR_is, Pv.neR_ii, Pv.neR_ss, Pv.neR_bb, Pv.inR, Pv.ixR, Pv.lenR, Pv.absR, Pv.tupR, Pv.sumR, Pv.tyN, Pv.isIn, Pv.isiR, Pv.appR, Pv.extR, Pv.smt3, Pv.joinR, Pv.splitR, Pv.startsR, Pv.pop3, Pv.lrev3, Pv.strR, Pv.start3, List.map_cons, List.map_nil, List.cons_append, List.nil_append, List.length_cons, List.length_nil, List.replicate, Pv.atI0, Pv.atI1, Pv.atI2, Nat.reduceAdd, Nat.reduceSub, Nat.zero_add, reduceIte, Pv.strs?, Bool.not_true, Bool.not_false, Bool.false_eq_true, if_false, if_true, decide_eq_true_eq, Bool.not_eq_true', decide_eq_false_iff_not, Pv.ixN0, Pv.ixN1, Pv.ixN2, true_and, and_true, Pv.cst0, Pv.cst1, Pv.cst2, Pv.cst3, Int.reduceEq, Option.bind_none, Option.bind_some, Pv.kn_go_jump, Pv.kn_go_turn, Pv.kn_go_times, Pv.kn_jump_go, Pv.kn_jump_turn, Pv.kn_jump_times, Pv.kn_turn_go, Pv.kn_turn_jump, Pv.kn_turn_times, Pv.kn_times_go, Pv.kn_times_jump, Pv.kn_times_turn, Pv.kp_go, Pv.kp_jump, Pv.kp_turn, Pv.kp_times, Pv.kz_go, Pv.kz_jump, Pv.kz_turn, Pv.kz_times, t__law_nested, N__law_nested]
  refine ⟨⟨by omega, by omega⟩, ?_⟩
  refine for_inv (fun l ρ μ' => μ' = μ ∧ ∃ (i : Nat) (dd : Option D), l = rngD (0 + (i : Nat)) (n.toNat - i) ∧ i ≤ n.toNat ∧ ρ = [some (.int n), some (.tup (encs w)), some (.tup (encs (nst w i))), dd]) ?_ (fun _ _ _ _ => trivial) ?_ ?_
  · exact ⟨rfl, 0, none, by simp, by omega, rfl⟩
  · rintro ρ μ' ⟨rfl, i, dd, e, hi, rfl⟩
    have : n.toNat - i = 0 := by
      cases hq : n.toNat - i with
      | zero => rfl
      | succ m => rw [hq, rngD_succ] at e; cases e
    have hi2 : i = n.toNat := by omega
    simp only [Pv.seq3, Pv.next3, Pv.never3, Pv.brk3, Pv.cnt3, Pv.drop3, Pv.ret3, Pv.retN3, Pv.ifs3, Pv.gn3, Pv.gnil3, Pv.gcons3, Pv.gtup3, Pv.set3, Pv.asg3, Pv.par3, Pv.sub3, Pv.for3, Pv.is3, Pv.ir3, Pv.ir23, Pv.v3, Pv.c3, Pv.o3, Pv.un3, Pv.b3, Pv.and3, Pv.or3, Pv.not3, Pv.andV3, Pv.orV3, Pv.notV3, Pv.if3, Pv.nil3, Pv.cons3, Pv.tup3, Pv.lst3, Pv.call3, Pv.mt3, Pv.comp3, Pv.tt3, Pv.getI, List.set_cons_zero, List.set_cons_succ, Pv.int2, Pv.int20, Pv.subR, Pv.mulR, Pv.intR, Pv.sl3, Pv.np3, Pv.pt3, Pv.slR, Pv.modR, Pv.fdivR, Pv.powR, Pv.ltR, Pv.leR, Pv.gtR, Pv.geR, Pv.negR, Pv.addR, Pv.eqR_ii, Pv.eqR_ss, Pv.eqR_bb, Pv.eqR_is, Pv.neR_ii, Pv.neR_ss, Pv.neR_bb, Pv.inR, Pv.ixR, Pv.lenR, Pv.absR, Pv.tupR, Pv.sumR, Pv.tyN, Pv.isIn, Pv.isiR, Pv.appR, Pv.extR, Pv.smt3, Pv.joinR, Pv.splitR, Pv.startsR, Pv.pop3, Pv.lrev3, Pv.strR, Pv.start3, List.map_cons, List.map_nil, List.cons_append, List.nil_append, List.length_cons, List.length_nil, List.replicate, Pv.atI0, Pv.atI1, Pv.atI2, Nat.reduceAdd, Nat.reduceSub, Nat.zero_add, reduceIte, Pv.strs?, Bool.not_true, Bool.not_false, Bool.false_eq_true, if_false, if_true, decide_eq_true_eq, Bool.not_eq_true', decide_eq_false_iff_not, Pv.ixN0, Pv.ixN1, Pv.ixN2, true_and, and_true, Pv.cst0, Pv.cst1, Pv.cst2, Pv.cst3, Int.reduceEq, Option.bind_none, Option.bind_some, Pv.kn_go_jump, Pv.kn_go_turn, Pv.kn_go_times, Pv.kn_jump_go, Pv.kn_jump_turn, Pv.kn_jump_times, Pv.kn_turn_go, Pv.kn_turn_jump, Pv.kn_turn_times, Pv.kn_times_go, Pv.kn_times_jump, Pv.kn_times_turn, Pv.kp_go, Pv.kp_jump, Pv.kp_turn, Pv.kp_times, Pv.kz_go, Pv.kz_jump, Pv.kz_turn, Pv.kz_times, cst0]
    rw [hi2]
    exact q
  · rintro x rest ρ μ' ⟨rfl, i, dd, e, hi, rfl⟩
    cases hq : n.toNat - i with
    | zero => rw [hq] at e; simp [rngD] at e
    | succ m =>
      rw [hq, rngD_succ] at e
      simp only [List.cons.injEq] at e
      obtain ⟨rfl, rfl⟩ := e
      simp only [Pv.seq3, Pv.next3, Pv.never3, Pv.brk3, Pv.cnt3, Pv.drop3, Pv.ret3, Pv.retN3, Pv.ifs3, Pv.gn3, Pv.gnil3, Pv.gcons3, Pv.gtup3, Pv.set3, Pv.asg3, Pv.par3, Pv.sub3, Pv.for3, Pv.is3, Pv.ir3, Pv.ir23, Pv.v3, Pv.c3, Pv.o3, Pv.un3, Pv.b3, Pv.and3, Pv.or3, Pv.not3, Pv.andV3, Pv.orV3, Pv.notV3, Pv.if3, Pv.nil3, Pv.cons3, Pv.tup3, Pv.lst3, Pv.call3, Pv.mt3, Pv.comp3, Pv.tt3, Pv.getI, List.set_cons_zero, List.set_cons_succ, Pv.int2, Pv.int20, Pv.subR, Pv.mulR, Pv.intR, Pv.sl3, Pv.np3, Pv.pt3, Pv.slR, Pv.modR, Pv.fdivR, Pv.powR, Pv.ltR, Pv.leR, Pv.gtR, Pv.geR, Pv.negR, Pv.addR, Pv.eqR_ii, Pv.eqR_ss, Pv.eqR_bb, Pv.eqR_is, Pv.neR_ii, Pv.neR_ss, Pv.neR_bb, Pv.inR, Pv.ixR, Pv.lenR, Pv.absR, Pv.tupR, Pv.sumR, Pv.tyN, Pv.isIn, Pv.isiR, Pv.appR, Pv.extR, Pv.smt3, Pv.joinR, Pv.splitR, Pv.startsR, Pv.pop3, Pv.lrev3, Pv.strR, Pv.start3, List.map_cons, List.map_nil, List.cons_append, List.nil_append, List.length_cons, List.length_nil, List.replicate, Pv.atI0, Pv.atI1, Pv.atI2, Nat.reduceAdd, Nat.reduceSub, Nat.zero_add, reduceIte, Pv.strs?, Bool.not_true, Bool.not_false, Bool.false_eq_true, if_false, if_true, decide_eq_true_eq, Bool.not_eq_true', decide_eq_false_iff_not, Pv.ixN0, Pv.ixN1, Pv.ixN2, true_and, and_true, Pv.cst0, Pv.cst1, Pv.cst2, Pv.cst3, Int.reduceEq, Option.bind_none, Option.bind_some, Pv.kn_go_jump, Pv.kn_go_turn, Pv.kn_go_times, Pv.kn_jump_go, Pv.kn_jump_turn, Pv.kn_jump_times, Pv.kn_turn_go, Pv.kn_turn_jump, Pv.kn_turn_times, Pv.kn_times_go, Pv.kn_times_jump, Pv.kn_times_turn, Pv.kp_go, Pv.kp_jump, Pv.kp_turn, Pv.kp_times, Pv.kz_go, Pv.kz_jump, Pv.kz_turn, Pv.kz_times, cst0]
      refine ⟨by decide, by decide, by decide, i + 1, some (.int (0 + (i : Nat))), ?_, by omega, ?_⟩
      · have e1 : n.toNat - (i + 1) = m := by omega
        rw [e1]
        congr 1 <;> omega
      · have e2 : (0 : Int) + (i : Nat) = (i : Int) := by omega
        rw [e2]
        simp only [nst, encs, enc]
/-! what is no word -/
theorem ckL_mid {cd : D → Option Nat} {b : D} (hb : cd b = none ∨ ∃ m, cd b = some m ∧ 30 < m) (post : List D) : ∀ (pre : List D) (c : Nat), ckL cd (pre ++ b :: post) c = none
  | [], c => by
    simp only [List.nil_append, ckL]
    rcases hb with h | ⟨m, h, hm⟩
    · rw [h]
    · rw [h]; dsimp only; rw [if_pos (by omega)]
  | x :: pre, c => by
    simp only [List.cons_append, ckL]
    cases cd x with
    | none => rfl
    | some m =>
      dsimp only
      split
      · rfl
      · exact ckL_mid hb post pre _
theorem ckL_rep {cd : D → Option Nat} {x : D} (hx : cd x = some 1) : ∀ (n c : Nat), c ≤ 30 → ckL cd (List.replicate n x) c = if 30 < c + n then none else some (c + n)
  | 0, c, h => by simp only [List.replicate, ckL]; rw [if_neg (by omega), Nat.add_zero]
  | n + 1, c, h => by
    simp only [List.replicate, ckL, hx]
    by_cases h1 : 30 < c + 1
    · rw [if_pos h1, if_pos (by omega)]
    · rw [if_neg h1, ckL_rep hx n (c + 1) (by omega)]
      have e : c + 1 + n = c + (n + 1) := by omega
      rw [e]
theorem nst_bad : ∀ (m j : Nat) (k : Int) (w : List Dd), k ≤ 5 → 5 ≤ k + m → ckW j (.tup (encs (nst w m))) k = none
  | m, 0, k, w, _, _ => by simp only [ckW]
  | 0, j + 1, k, w, h1, h2 => by simp only [ckW]; rw [if_pos (by omega)]
  | m + 1, j + 1, k, w, h1, h2 => by
    simp only [ckW]
    split
    · rfl
    · have e := nst_bad m j (k + 1) w (by omega) (by omega)
      have ed : ckD (ckW j) k (enc (.times (1 + (m : Int) % 2) (nst w m))) = none := by
        simp only [enc, ckD, e]
        split <;> rfl
      simp only [nst, encs, ckL, ed]
theorem bad_of {l : List D} (hs : ∀ x, x ∈ l → ShD x) (h : ckL (ckD (ckW 5) 0) l 0 = none) : Bad (.tup l) := by
  refine ⟨.wd _ hs, ?_⟩
  simp only [ckW, if_neg (show ¬ (4 : Int) < 0 by decide), h]
mutual
noncomputable def shDb : Nat → D → Bool
  | n + 1, .tup [] => true
  | n + 1, .tup (.str _ :: r) => r.all (shVb n)
  | _, _ => false
noncomputable def shVb : Nat → D → Bool
  | _, .int _ => true
  | n + 1, .tup l => l.all (shDb n)
  | _, _ => false
end
theorem sh_sound : ∀ n : Nat, (∀ d, shDb n d = true → ShD d) ∧ (∀ d, shVb n d = true → ShV d)
  | 0 => by
    refine ⟨fun d h => ?_, fun d h => ?_⟩
    · unfold shDb at h; cases h
    · cases d with
      | int n => exact .int n
      | _ => unfold shVb at h; cases h
  | n + 1 => by
    obtain ⟨i1, i2⟩ := sh_sound n
    refine ⟨fun d h => ?_, fun d h => ?_⟩
    · cases d with
      | tup l =>
        cases l with
        | nil => exact .nil
        | cons s r =>
          cases s with
          | str s =>
            simp only [shDb, List.all_eq_true] at h
            exact .mk s r fun x hx => i2 x (h x hx)
          | _ => simp [shDb] at h
      | _ => simp [shDb] at h
    · cases d with
      | int n => exact .int n
      | tup l =>
        simp only [shVb, List.all_eq_true] at h
        exact .wd l fun x hx => i1 x (h x hx)
      | _ => simp [shVb] at h
noncomputable def badList (far : Int) : List D := [.tup [.str "go", .int (-1)], .tup [.str "go", .int far], .tup [.str "jump", .int far], .tup [.str "jump", .int (0 - far)], .tup [.str "turn", .int far], .tup [.str "turn", .int (0 - far)], .tup [.str "go"],
  .tup [.str "go", .int 1, .int 1], .tup [.str "times", .int (-1), .tup []], .tup [.str "times", .int far, .tup []], .tup [.str "times", .int 2], .tup [.str "times", .int 2, .int 3], .tup [.str "Go", .int 1],
  .tup [.str "", .int 1], .tup [.str "gone", .int 1], .tup [.str "times", .int 2, .tup [], .tup []], .tup [.str "jump"], .tup [.str "turn", .int 1, .int 2], .tup [.str "times"],
  .tup [.str "times", .int 1, .tup [.tup [.str "go", .int (-1)]]], .tup [.str "times", .int 0, .tup [.tup [.str "hop", .int 1]]], .tup [.str "go", .int (0 - far)],
  .tup [], .tup [.str "go", .tup []], .tup [.str "times", .tup [], .int 2], .tup [.str "turn", .tup [.tup [.str "go", .int 1]]], .tup [.str "times", .int 0, .tup [.tup []]]]
theorem badList_bad {far : Int} (h : 100000000000000000000 ≤ far) : ∀ b, b ∈ badList far → shDb 4 b = true ∧ ckD (ckW 5) 0 b = none := by
  have f1 : ∀ s, ckN s (.int far) = false := fun s => by
    have h1 : ¬ (-G ≤ far ∧ far ≤ G) := by unfold G; omega
    simp only [ckN, h1]; simp
  have f2 : ∀ s, ckN s (.int (0 - far)) = false := fun s => by
    have h1 : ¬ (-G ≤ 0 - far ∧ 0 - far ≤ G) := by unfold G; omega
    simp only [ckN, h1]; simp
  intro b hb
  simp only [badList, List.mem_cons, List.not_mem_nil, or_false] at hb
  rcases hb with rfl | rfl | rfl | rfl | rfl | rfl | rfl | rfl | rfl | rfl | rfl | rfl | rfl | rfl | rfl | rfl | rfl | rfl | rfl | rfl | rfl | rfl | rfl | rfl | rfl | rfl | rfl <;>
    refine ⟨rfl, ?_⟩ <;> first | (simp only [ckD, f1, f2, Bool.false_eq_true, and_false, if_false]; done) | (simp only [ckD]; done) | decide
theorem fl1 {α : Type} (x : α) : ∀ n, (List.replicate n [x]).flatten = List.replicate n x
  | 0 => rfl
  | n + 1 => by rw [List.replicate_succ, List.flatten_cons, fl1 x n]; rfl
theorem shD_rep {x : D} (h : ShD x) {n : Nat} : ∀ y, y ∈ List.replicate n x → ShD y := fun y hy => by rw [(List.mem_replicate.mp hy).2]; exact h
theorem add_new {μ : Mu} {Q : VK3} {s t : Addr} {L M : List D} (hs : μ s = some (.lst L)) (ht : μ t = none) (hl : L.length + M.length ≤ sizeLine) (k : ∀ r μ', Ext μ μ' → μ' r = some (.lst (L ++ M)) → Q (.ref r) μ') : addR (.ref s) (.ref t) (updM μ t (.lst M)) Q := by
  have hst : s ≠ t := ne_free hs ht
  simp only [Pv.addR, updM_ne hst, hs, updM_same]
  exact ⟨hl, fun r hr => k r _ ((Ext.new ht).trans (Ext.new hr)) updM_same⟩
theorem e_take : ∀ (w : List Dd) (k : Nat), encs (w.take k) = (encs w).take k
  | [], k => by simp [encs]
  | d :: r, 0 => by simp [encs]
  | d :: r, k + 1 => by simp only [List.take_succ_cons, encs, e_take r k]
theorem e_drop : ∀ (w : List Dd) (k : Nat), encs (w.drop k) = (encs w).drop k
  | [], k => by simp [encs]
  | d :: r, 0 => by simp [encs]
  | d :: r, k + 1 => by simp only [List.drop_succ_cons, encs, e_drop r k]
theorem take_min {α : Type} (l : List α) (k : Nat) : l.take (min k l.length) = l.take k := by
  by_cases h : k ≤ l.length
  · rw [Nat.min_eq_left h]
  · rw [Nat.min_eq_right (by omega), List.take_of_length_le (Nat.le_refl _), List.take_of_length_le (by omega)]
theorem cutL (w : List Dd) (i : Int) (h0 : 0 ≤ i) : cut3 (encs w) none (some i) = encs (w.take i.toNat) := by
  rw [e_take]
  unfold cut3 sIx3
  simp only [if_neg (show ¬ i < 0 by omega), List.drop_zero, Nat.sub_zero]
  exact take_min _ _
theorem cutR (w : List Dd) (i : Int) (h0 : 0 ≤ i) (h1 : i ≤ w.length) : cut3 (encs w) (some i) none = encs (w.drop i.toNat) := by
  rw [e_drop]
  unfold cut3 sIx3
  simp only [encs_length, if_neg (show ¬ i < 0 by omega)]
  rw [show min i.toNat w.length = i.toNat by omega]
  apply List.take_of_length_le
  rw [List.length_drop, encs_length]
  omega
noncomputable def spBad : Sp3 := fun ds μ Q => ∃ (p : Addr) (a : Int) (b : Bool) (m : Int), ds = [.ref p] ∧ μ p = some (.lst [.int a, .bl b, .int m]) ∧ 0 ≤ a ∧ 0 ≤ m ∧ ∀ d μ', Bad d → Q d μ'
noncomputable abbrev TB (t : Sp3 → Sp3 → Sp3 → TS3) : TS3 := t spChoice spNst (spWord 5)
noncomputable abbrev EB (Q : VK3) : Ends3 := { nx := fun _ μ' => Q .non μ', rt := Q }
theorem bad_end (Q : VK3) (q : ∀ d μ', Bad d → Q d μ') (far : Int) (hfar : 100000000000000000000 ≤ far) (p s : Addr) (a : Int) (b : Bool) (m : Int) (μ : Mu) (hp : μ p = some (.lst [.int a, .bl b, .int m])) (ha : 0 ≤ a) (hm : 0 ≤ m) (hs : μ s = some (.lst (badList far))) :
    TB t__law_bad_word_r6 (EB Q) [some (.ref p), some (.int far), some (.ref s), none, none, none] μ := by
  have hps : p ≠ s := by
    intro e; subst e; rw [hp] at hs; simp [badList] at hs
  have hz : (100000 : Nat) < sizeLine := by decide
  simp only [Pv.seq3, Pv.next3, Pv.never3, Pv.brk3, Pv.cnt3, Pv.drop3, Pv.ret3, Pv.retN3, Pv.ifs3, Pv.gn3, Pv.gnil3, Pv.gcons3, Pv.gtup3, Pv.set3, Pv.asg3, Pv.par3, Pv.sub3, Pv.for3, Pv.is3, Pv.ir3, Pv.ir23, Pv.v3, Pv.c3, Pv.o3, Pv.un3, Pv.b3, Pv.and3, Pv.or3, Pv.not3, Pv.andV3, Pv.orV3, Pv.notV3, Pv.if3, Pv.nil3, Pv.cons3, Pv.tup3, Pv.lst3, Pv.call3, Pv.mt3, Pv.comp3, Pv.tt3, Pv.getI, List.set_cons_zero, List.set_cons_succ, Pv.int2, Pv.int20, Pv.subR, Pv.mulR, Pv.intR, Pv.sl3, Pv.np3, Pv.pt3, Pv.slR, Pv.modR, Pv.fdivR, Pv.powR, Pv.ltR, Pv.leR, Pv.gtR, Pv.geR, Pv.negR, Pv.addR, Pv.eqR_ii, Pv.eqR_ss, Pv.eqR_bb, Pv.eqR_is, Pv.neR_ii, Pv.neR_ss, Pv.neR_bb, Pv.inR, Pv.ixR, Pv.lenR, Pv.absR, Pv.tupR, Pv.sumR, Pv.tyN, Pv.isIn, Pv.isiR, Pv.appR, Pv.extR, Pv.smt3, Pv.joinR, Pv.splitR, Pv.startsR, Pv.pop3, Pv.lrev3, Pv.strR, Pv.start3, List.map_cons, List.map_nil, List.cons_append, List.nil_append, List.length_cons, List.length_nil, List.replicate, Pv.atI0, Pv.atI1, Pv.atI2, Nat.reduceAdd, Nat.reduceSub, Nat.zero_add, reduceIte, Pv.strs?, Bool.not_true, Bool.not_false, Bool.false_eq_true, if_false, if_true, decide_eq_true_eq, Bool.not_eq_true', decide_eq_false_iff_not, Pv.ixN0, Pv.ixN1, Pv.ixN2, true_and, and_true, Pv.cst0, Pv.cst1, Pv.cst2, Pv.cst3, Int.reduceEq, Option.bind_none, Option.bind_some, Pv.kn_go_jump, Pv.kn_go_turn, Pv.kn_go_times, Pv.kn_jump_go, Pv.kn_jump_turn, Pv.kn_jump_times, Pv.kn_turn_go, Pv.kn_turn_jump, Pv.kn_turn_times, Pv.kn_times_go, Pv.kn_times_jump, Pv.kn_times_turn, Pv.kp_go, Pv.kp_jump, Pv.kp_turn, Pv.kp_times, Pv.kz_go, Pv.kz_jump, Pv.kz_turn, Pv.kz_times, TB, t__law_bad_word_r6]
  refine ⟨p, 2, a, b, m, rfl, by decide, by decide, hp, ha, hm, fun w a1 m1 μ1 e1 p1 a1n m1n c1 c2 c3 c4 => ?_⟩
  have s1 : μ1 s = some (.lst (badList far)) := e1 s _ (Ne.symm hps) hs
  simp only [Pv.seq3, Pv.next3, Pv.never3, Pv.brk3, Pv.cnt3, Pv.drop3, Pv.ret3, Pv.retN3, Pv.ifs3, Pv.gn3, Pv.gnil3, Pv.gcons3, Pv.gtup3, Pv.set3, Pv.asg3, Pv.par3, Pv.sub3, Pv.for3, Pv.is3, Pv.ir3, Pv.ir23, Pv.v3, Pv.c3, Pv.o3, Pv.un3, Pv.b3, Pv.and3, Pv.or3, Pv.not3, Pv.andV3, Pv.orV3, Pv.notV3, Pv.if3, Pv.nil3, Pv.cons3, Pv.tup3, Pv.lst3, Pv.call3, Pv.mt3, Pv.comp3, Pv.tt3, Pv.getI, List.set_cons_zero, List.set_cons_succ, Pv.int2, Pv.int20, Pv.subR, Pv.mulR, Pv.intR, Pv.sl3, Pv.np3, Pv.pt3, Pv.slR, Pv.modR, Pv.fdivR, Pv.powR, Pv.ltR, Pv.leR, Pv.gtR, Pv.geR, Pv.negR, Pv.addR, Pv.eqR_ii, Pv.eqR_ss, Pv.eqR_bb, Pv.eqR_is, Pv.neR_ii, Pv.neR_ss, Pv.neR_bb, Pv.inR, Pv.ixR, Pv.lenR, Pv.absR, Pv.tupR, Pv.sumR, Pv.tyN, Pv.isIn, Pv.isiR, Pv.appR, Pv.extR, Pv.smt3, Pv.joinR, Pv.splitR, Pv.startsR, Pv.pop3, Pv.lrev3, Pv.strR, Pv.start3, List.map_cons, List.map_nil, List.cons_append, List.nil_append, List.length_cons, List.length_nil, List.replicate, Pv.atI0, Pv.atI1, Pv.atI2, Nat.reduceAdd, Nat.reduceSub, Nat.zero_add, reduceIte, Pv.strs?, Bool.not_true, Bool.not_false, Bool.false_eq_true, if_false, if_true, decide_eq_true_eq, Bool.not_eq_true', decide_eq_false_iff_not, Pv.ixN0, Pv.ixN1, Pv.ixN2, true_and, and_true, Pv.cst0, Pv.cst1, Pv.cst2, Pv.cst3, Int.reduceEq, Option.bind_none, Option.bind_some, Pv.kn_go_jump, Pv.kn_go_turn, Pv.kn_go_times, Pv.kn_jump_go, Pv.kn_jump_turn, Pv.kn_jump_times, Pv.kn_turn_go, Pv.kn_turn_jump, Pv.kn_turn_times, Pv.kn_times_go, Pv.kn_times_jump, Pv.kn_times_turn, Pv.kp_go, Pv.kp_jump, Pv.kp_turn, Pv.kp_times, Pv.kz_go, Pv.kz_jump, Pv.kz_turn, Pv.kz_times, cutL w 3 (by decide)]
  generalize hg : w.take (3 : Int).toNat = g
  have gl : g.length ≤ 3 := by rw [← hg, List.length_take]; exact Nat.min_le_left _ _
  simp only [Pv.seq3, Pv.next3, Pv.never3, Pv.brk3, Pv.cnt3, Pv.drop3, Pv.ret3, Pv.retN3, Pv.ifs3, Pv.gn3, Pv.gnil3, Pv.gcons3, Pv.gtup3, Pv.set3, Pv.asg3, Pv.par3, Pv.sub3, Pv.for3, Pv.is3, Pv.ir3, Pv.ir23, Pv.v3, Pv.c3, Pv.o3, Pv.un3, Pv.b3, Pv.and3, Pv.or3, Pv.not3, Pv.andV3, Pv.orV3, Pv.notV3, Pv.if3, Pv.nil3, Pv.cons3, Pv.tup3, Pv.lst3, Pv.call3, Pv.mt3, Pv.comp3, Pv.tt3, Pv.getI, List.set_cons_zero, List.set_cons_succ, Pv.int2, Pv.int20, Pv.subR, Pv.mulR, Pv.intR, Pv.sl3, Pv.np3, Pv.pt3, Pv.slR, Pv.modR, Pv.fdivR, Pv.powR, Pv.ltR, Pv.leR, Pv.gtR, Pv.geR, Pv.negR, Pv.addR, Pv.eqR_ii, Pv.eqR_ss, Pv.eqR_bb, Pv.eqR_is, Pv.neR_ii, Pv.neR_ss, Pv.neR_bb, Pv.inR, Pv.ixR, Pv.lenR, Pv.absR, Pv.tupR, Pv.sumR, Pv.tyN, Pv.isIn, Pv.isiR, Pv.appR, Pv.extR, Pv.smt3, Pv.joinR, Pv.splitR, Pv.startsR, Pv.pop3, Pv.lrev3, Pv.strR, Pv.start3, List.map_cons, List.map_nil, List.cons_append, List.nil_append, List.length_cons, List.length_nil, List.replicate, Pv.atI0, Pv.atI1, Pv.atI2, Nat.reduceAdd, Nat.reduceSub, Nat.zero_add, reduceIte, Pv.strs?, Bool.not_true, Bool.not_false, Bool.false_eq_true, if_false, if_true, decide_eq_true_eq, Bool.not_eq_true', decide_eq_false_iff_not, Pv.ixN0, Pv.ixN1, Pv.ixN2, true_and, and_true, Pv.cst0, Pv.cst1, Pv.cst2, Pv.cst3, Int.reduceEq, Option.bind_none, Option.bind_some, Pv.kn_go_jump, Pv.kn_go_turn, Pv.kn_go_times, Pv.kn_jump_go, Pv.kn_jump_turn, Pv.kn_jump_times, Pv.kn_turn_go, Pv.kn_turn_jump, Pv.kn_turn_times, Pv.kn_times_go, Pv.kn_times_jump, Pv.kn_times_turn, Pv.kp_go, Pv.kp_jump, Pv.kp_turn, Pv.kp_times, Pv.kz_go, Pv.kz_jump, Pv.kz_turn, Pv.kz_times, t__law_bad_word_r7]
  refine ⟨p, _, a1, b, [.int m1], rfl, by omega, by rw [encs_length]; omega, p1, a1n, fun at' a2 t1 t2 a2n => ?_⟩
  rw [encs_length] at t2
  simp only [Pv.seq3, Pv.next3, Pv.never3, Pv.brk3, Pv.cnt3, Pv.drop3, Pv.ret3, Pv.retN3, Pv.ifs3, Pv.gn3, Pv.gnil3, Pv.gcons3, Pv.gtup3, Pv.set3, Pv.asg3, Pv.par3, Pv.sub3, Pv.for3, Pv.is3, Pv.ir3, Pv.ir23, Pv.v3, Pv.c3, Pv.o3, Pv.un3, Pv.b3, Pv.and3, Pv.or3, Pv.not3, Pv.andV3, Pv.orV3, Pv.notV3, Pv.if3, Pv.nil3, Pv.cons3, Pv.tup3, Pv.lst3, Pv.call3, Pv.mt3, Pv.comp3, Pv.tt3, Pv.getI, List.set_cons_zero, List.set_cons_succ, Pv.int2, Pv.int20, Pv.subR, Pv.mulR, Pv.intR, Pv.sl3, Pv.np3, Pv.pt3, Pv.slR, Pv.modR, Pv.fdivR, Pv.powR, Pv.ltR, Pv.leR, Pv.gtR, Pv.geR, Pv.negR, Pv.addR, Pv.eqR_ii, Pv.eqR_ss, Pv.eqR_bb, Pv.eqR_is, Pv.neR_ii, Pv.neR_ss, Pv.neR_bb, Pv.inR, Pv.ixR, Pv.lenR, Pv.absR, Pv.tupR, Pv.sumR, Pv.tyN, Pv.isIn, Pv.isiR, Pv.appR, Pv.extR, Pv.smt3, Pv.joinR, Pv.splitR, Pv.startsR, Pv.pop3, Pv.lrev3, Pv.strR, Pv.start3, List.map_cons, List.map_nil, List.cons_append, List.nil_append, List.length_cons, List.length_nil, List.replicate, Pv.atI0, Pv.atI1, Pv.atI2, Nat.reduceAdd, Nat.reduceSub, Nat.zero_add, reduceIte, Pv.strs?, Bool.not_true, Bool.not_false, Bool.false_eq_true, if_false, if_true, decide_eq_true_eq, Bool.not_eq_true', decide_eq_false_iff_not, Pv.ixN0, Pv.ixN1, Pv.ixN2, true_and, and_true, Pv.cst0, Pv.cst1, Pv.cst2, Pv.cst3, Int.reduceEq, Option.bind_none, Option.bind_some, Pv.kn_go_jump, Pv.kn_go_turn, Pv.kn_go_times, Pv.kn_jump_go, Pv.kn_jump_turn, Pv.kn_jump_times, Pv.kn_turn_go, Pv.kn_turn_jump, Pv.kn_turn_times, Pv.kn_times_go, Pv.kn_times_jump, Pv.kn_times_turn, Pv.kp_go, Pv.kp_jump, Pv.kp_turn, Pv.kp_times, Pv.kz_go, Pv.kz_jump, Pv.kz_turn, Pv.kz_times, t__law_bad_word_r8]
  refine ⟨p, 5, a2, b, [.int m1], rfl, by decide, by decide, updM_same, a2n, fun kind a3 k1 k2 a3n => ?_⟩
  simp only [Pv.seq3, Pv.next3, Pv.never3, Pv.brk3, Pv.cnt3, Pv.drop3, Pv.ret3, Pv.retN3, Pv.ifs3, Pv.gn3, Pv.gnil3, Pv.gcons3, Pv.gtup3, Pv.set3, Pv.asg3, Pv.par3, Pv.sub3, Pv.for3, Pv.is3, Pv.ir3, Pv.ir23, Pv.v3, Pv.c3, Pv.o3, Pv.un3, Pv.b3, Pv.and3, Pv.or3, Pv.not3, Pv.andV3, Pv.orV3, Pv.notV3, Pv.if3, Pv.nil3, Pv.cons3, Pv.tup3, Pv.lst3, Pv.call3, Pv.mt3, Pv.comp3, Pv.tt3, Pv.getI, List.set_cons_zero, List.set_cons_succ, Pv.int2, Pv.int20, Pv.subR, Pv.mulR, Pv.intR, Pv.sl3, Pv.np3, Pv.pt3, Pv.slR, Pv.modR, Pv.fdivR, Pv.powR, Pv.ltR, Pv.leR, Pv.gtR, Pv.geR, Pv.negR, Pv.addR, Pv.eqR_ii, Pv.eqR_ss, Pv.eqR_bb, Pv.eqR_is, Pv.neR_ii, Pv.neR_ss, Pv.neR_bb, Pv.inR, Pv.ixR, Pv.lenR, Pv.absR, Pv.tupR, Pv.sumR, Pv.tyN, Pv.isIn, Pv.isiR, Pv.appR, Pv.extR, Pv.smt3, Pv.joinR, Pv.splitR, Pv.startsR, Pv.pop3, Pv.lrev3, Pv.strR, Pv.start3, List.map_cons, List.map_nil, List.cons_append, List.nil_append, List.length_cons, List.length_nil, List.replicate, Pv.atI0, Pv.atI1, Pv.atI2, Nat.reduceAdd, Nat.reduceSub, Nat.zero_add, reduceIte, Pv.strs?, Bool.not_true, Bool.not_false, Bool.false_eq_true, if_false, if_true, decide_eq_true_eq, Bool.not_eq_true', decide_eq_false_iff_not, Pv.ixN0, Pv.ixN1, Pv.ixN2, true_and, and_true, Pv.cst0, Pv.cst1, Pv.cst2, Pv.cst3, Int.reduceEq, Option.bind_none, Option.bind_some, Pv.kn_go_jump, Pv.kn_go_turn, Pv.kn_go_times, Pv.kn_jump_go, Pv.kn_jump_turn, Pv.kn_jump_times, Pv.kn_turn_go, Pv.kn_turn_jump, Pv.kn_turn_times, Pv.kn_times_go, Pv.kn_times_jump, Pv.kn_times_turn, Pv.kp_go, Pv.kp_jump, Pv.kp_turn, Pv.kp_times, Pv.kz_go, Pv.kz_jump, Pv.kz_turn, Pv.kz_times, updM_updM]
  have s2 : ∀ o, updM μ1 p o s = some (.lst (badList far)) := fun o => by rw [updM_ne (Ne.symm hps)]; exact s1
  have atl : at' ≤ g.length := by omega
  have gs : ∀ (k : Nat) x, x ∈ encs (g.take k) → ShD x := fun k => shD_encs _
  have gd : ∀ (k : Nat) x, x ∈ encs (g.drop k) → ShD x := fun k => shD_encs _
  have lt : (g.take at'.toNat).length ≤ 3 := by rw [List.length_take]; omega
  have ld : (g.drop at'.toNat).length ≤ 3 := by rw [List.length_drop]; omega
  simp only [Pv.seq3, Pv.next3, Pv.never3, Pv.brk3, Pv.cnt3, Pv.drop3, Pv.ret3, Pv.retN3, Pv.ifs3, Pv.gn3, Pv.gnil3, Pv.gcons3, Pv.gtup3, Pv.set3, Pv.asg3, Pv.par3, Pv.sub3, Pv.for3, Pv.is3, Pv.ir3, Pv.ir23, Pv.v3, Pv.c3, Pv.o3, Pv.un3, Pv.b3, Pv.and3, Pv.or3, Pv.not3, Pv.andV3, Pv.orV3, Pv.notV3, Pv.if3, Pv.nil3, Pv.cons3, Pv.tup3, Pv.lst3, Pv.call3, Pv.mt3, Pv.comp3, Pv.tt3, Pv.getI, List.set_cons_zero, List.set_cons_succ, Pv.int2, Pv.int20, Pv.subR, Pv.mulR, Pv.intR, Pv.sl3, Pv.np3, Pv.pt3, Pv.slR, Pv.modR, Pv.fdivR, Pv.powR, Pv.ltR, Pv.leR, Pv.gtR, Pv.geR, Pv.negR, Pv.addR, Pv.eqR_ii, Pv.eqR_ss, Pv.eqR_bb, Pv.eqR_is, Pv.neR_ii, Pv.neR_ss, Pv.neR_bb, Pv.inR, Pv.ixR, Pv.lenR, Pv.absR, Pv.tupR, Pv.sumR, Pv.tyN, Pv.isIn, Pv.isiR, Pv.appR, Pv.extR, Pv.smt3, Pv.joinR, Pv.splitR, Pv.startsR, Pv.pop3, Pv.lrev3, Pv.strR, Pv.start3, List.map_cons, List.map_nil, List.cons_append, List.nil_append, List.length_cons, List.length_nil, List.replicate, Pv.atI0, Pv.atI1, Pv.atI2, Nat.reduceAdd, Nat.reduceSub, Nat.zero_add, reduceIte, Pv.strs?, Bool.not_true, Bool.not_false, Bool.false_eq_true, if_false, if_true, decide_eq_true_eq, Bool.not_eq_true', decide_eq_false_iff_not, Pv.ixN0, Pv.ixN1, Pv.ixN2, true_and, and_true, Pv.cst0, Pv.cst1, Pv.cst2, Pv.cst3, Int.reduceEq, Option.bind_none, Option.bind_some, Pv.kn_go_jump, Pv.kn_go_turn, Pv.kn_go_times, Pv.kn_jump_go, Pv.kn_jump_turn, Pv.kn_jump_times, Pv.kn_turn_go, Pv.kn_turn_jump, Pv.kn_turn_times, Pv.kn_times_go, Pv.kn_times_jump, Pv.kn_times_turn, Pv.kp_go, Pv.kp_jump, Pv.kp_turn, Pv.kp_times, Pv.kz_go, Pv.kz_jump, Pv.kz_turn, Pv.kz_times, t__law_bad_word_r9]
  split
  · -- too many
    refine ⟨by decide, by decide, p, 9, a3, b, [.int m1], rfl, by decide, by decide, updM_same, a3n, fun c a4 u1 u2 a4n => ?_⟩
    simp only [Pv.seq3, Pv.next3, Pv.never3, Pv.brk3, Pv.cnt3, Pv.drop3, Pv.ret3, Pv.retN3, Pv.ifs3, Pv.gn3, Pv.gnil3, Pv.gcons3, Pv.gtup3, Pv.set3, Pv.asg3, Pv.par3, Pv.sub3, Pv.for3, Pv.is3, Pv.ir3, Pv.ir23, Pv.v3, Pv.c3, Pv.o3, Pv.un3, Pv.b3, Pv.and3, Pv.or3, Pv.not3, Pv.andV3, Pv.orV3, Pv.notV3, Pv.if3, Pv.nil3, Pv.cons3, Pv.tup3, Pv.lst3, Pv.call3, Pv.mt3, Pv.comp3, Pv.tt3, Pv.getI, List.set_cons_zero, List.set_cons_succ, Pv.int2, Pv.int20, Pv.subR, Pv.mulR, Pv.intR, Pv.sl3, Pv.np3, Pv.pt3, Pv.slR, Pv.modR, Pv.fdivR, Pv.powR, Pv.ltR, Pv.leR, Pv.gtR, Pv.geR, Pv.negR, Pv.addR, Pv.eqR_ii, Pv.eqR_ss, Pv.eqR_bb, Pv.eqR_is, Pv.neR_ii, Pv.neR_ss, Pv.neR_bb, Pv.inR, Pv.ixR, Pv.lenR, Pv.absR, Pv.tupR, Pv.sumR, Pv.tyN, Pv.isIn, Pv.isiR, Pv.appR, Pv.extR, Pv.smt3, Pv.joinR, Pv.splitR, Pv.startsR, Pv.pop3, Pv.lrev3, Pv.strR, Pv.start3, List.map_cons, List.map_nil, List.cons_append, List.nil_append, List.length_cons, List.length_nil, List.replicate, Pv.atI0, Pv.atI1, Pv.atI2, Nat.reduceAdd, Nat.reduceSub, Nat.zero_add, reduceIte, Pv.strs?, Bool.not_true, Bool.not_false, Bool.false_eq_true, if_false, if_true, decide_eq_true_eq, Bool.not_eq_true', decide_eq_false_iff_not, Pv.ixN0, Pv.ixN1, Pv.ixN2, true_and, and_true, Pv.cst0, Pv.cst1, Pv.cst2, Pv.cst3, Int.reduceEq, Option.bind_none, Option.bind_some, Pv.kn_go_jump, Pv.kn_go_turn, Pv.kn_go_times, Pv.kn_jump_go, Pv.kn_jump_turn, Pv.kn_jump_times, Pv.kn_turn_go, Pv.kn_turn_jump, Pv.kn_turn_times, Pv.kn_times_go, Pv.kn_times_jump, Pv.kn_times_turn, Pv.kp_go, Pv.kp_jump, Pv.kp_turn, Pv.kp_times, Pv.kz_go, Pv.kz_jump, Pv.kz_turn, Pv.kz_times, updM_updM]
    refine ⟨⟨⟨by omega, by omega⟩, by omega⟩, q _ _ ?_⟩
    rw [fl1]
    refine bad_of (shD_rep (shD_enc (.go 1))) ?_
    rw [ckL_rep (show ckD (ckW 5) 0 (.tup [.str "go", .int 1]) = some 1 by decide) _ 0 (by decide), if_pos (by omega)]
  · simp only [Pv.seq3, Pv.next3, Pv.never3, Pv.brk3, Pv.cnt3, Pv.drop3, Pv.ret3, Pv.retN3, Pv.ifs3, Pv.gn3, Pv.gnil3, Pv.gcons3, Pv.gtup3, Pv.set3, Pv.asg3, Pv.par3, Pv.sub3, Pv.for3, Pv.is3, Pv.ir3, Pv.ir23, Pv.v3, Pv.c3, Pv.o3, Pv.un3, Pv.b3, Pv.and3, Pv.or3, Pv.not3, Pv.andV3, Pv.orV3, Pv.notV3, Pv.if3, Pv.nil3, Pv.cons3, Pv.tup3, Pv.lst3, Pv.call3, Pv.mt3, Pv.comp3, Pv.tt3, Pv.getI, List.set_cons_zero, List.set_cons_succ, Pv.int2, Pv.int20, Pv.subR, Pv.mulR, Pv.intR, Pv.sl3, Pv.np3, Pv.pt3, Pv.slR, Pv.modR, Pv.fdivR, Pv.powR, Pv.ltR, Pv.leR, Pv.gtR, Pv.geR, Pv.negR, Pv.addR, Pv.eqR_ii, Pv.eqR_ss, Pv.eqR_bb, Pv.eqR_is, Pv.neR_ii, Pv.neR_ss, Pv.neR_bb, Pv.inR, Pv.ixR, Pv.lenR, Pv.absR, Pv.tupR, Pv.sumR, Pv.tyN, Pv.isIn, Pv.isiR, Pv.appR, Pv.extR, Pv.smt3, Pv.joinR, Pv.splitR, Pv.startsR, Pv.pop3, Pv.lrev3, Pv.strR, Pv.start3, List.map_cons, List.map_nil, List.cons_append, List.nil_append, List.length_cons, List.length_nil, List.replicate, Pv.atI0, Pv.atI1, Pv.atI2, Nat.reduceAdd, Nat.reduceSub, Nat.zero_add, reduceIte, Pv.strs?, Bool.not_true, Bool.not_false, Bool.false_eq_true, if_false, if_true, decide_eq_true_eq, Bool.not_eq_true', decide_eq_false_iff_not, Pv.ixN0, Pv.ixN1, Pv.ixN2, true_and, and_true, Pv.cst0, Pv.cst1, Pv.cst2, Pv.cst3, Int.reduceEq, Option.bind_none, Option.bind_some, Pv.kn_go_jump, Pv.kn_go_turn, Pv.kn_go_times, Pv.kn_jump_go, Pv.kn_jump_turn, Pv.kn_jump_times, Pv.kn_turn_go, Pv.kn_turn_jump, Pv.kn_turn_times, Pv.kn_times_go, Pv.kn_times_jump, Pv.kn_times_turn, Pv.kp_go, Pv.kp_jump, Pv.kp_turn, Pv.kp_times, Pv.kz_go, Pv.kz_jump, Pv.kz_turn, Pv.kz_times, t__law_bad_word_r10]
    split
    · -- too deep
      refine ⟨p, 3, a3, b, [.int m1], rfl, by decide, by decide, updM_same, a3n, fun c a4 u1 u2 a4n => ?_⟩
      simp only [Pv.seq3, Pv.next3, Pv.never3, Pv.brk3, Pv.cnt3, Pv.drop3, Pv.ret3, Pv.retN3, Pv.ifs3, Pv.gn3, Pv.gnil3, Pv.gcons3, Pv.gtup3, Pv.set3, Pv.asg3, Pv.par3, Pv.sub3, Pv.for3, Pv.is3, Pv.ir3, Pv.ir23, Pv.v3, Pv.c3, Pv.o3, Pv.un3, Pv.b3, Pv.and3, Pv.or3, Pv.not3, Pv.andV3, Pv.orV3, Pv.notV3, Pv.if3, Pv.nil3, Pv.cons3, Pv.tup3, Pv.lst3, Pv.call3, Pv.mt3, Pv.comp3, Pv.tt3, Pv.getI, List.set_cons_zero, List.set_cons_succ, Pv.int2, Pv.int20, Pv.subR, Pv.mulR, Pv.intR, Pv.sl3, Pv.np3, Pv.pt3, Pv.slR, Pv.modR, Pv.fdivR, Pv.powR, Pv.ltR, Pv.leR, Pv.gtR, Pv.geR, Pv.negR, Pv.addR, Pv.eqR_ii, Pv.eqR_ss, Pv.eqR_bb, Pv.eqR_is, Pv.neR_ii, Pv.neR_ss, Pv.neR_bb, Pv.inR, Pv.ixR, Pv.lenR, Pv.absR, Pv.tupR, Pv.sumR, Pv.tyN, Pv.isIn, Pv.isiR, Pv.appR, Pv.extR, Pv.smt3, Pv.joinR, Pv.splitR, Pv.startsR, Pv.pop3, Pv.lrev3, Pv.strR, Pv.start3, List.map_cons, List.map_nil, List.cons_append, List.nil_append, List.length_cons, List.length_nil, List.replicate, Pv.atI0, Pv.atI1, Pv.atI2, Nat.reduceAdd, Nat.reduceSub, Nat.zero_add, reduceIte, Pv.strs?, Bool.not_true, Bool.not_false, Bool.false_eq_true, if_false, if_true, decide_eq_true_eq, Bool.not_eq_true', decide_eq_false_iff_not, Pv.ixN0, Pv.ixN1, Pv.ixN2, true_and, and_true, Pv.cst0, Pv.cst1, Pv.cst2, Pv.cst3, Int.reduceEq, Option.bind_none, Option.bind_some, Pv.kn_go_jump, Pv.kn_go_turn, Pv.kn_go_times, Pv.kn_jump_go, Pv.kn_jump_turn, Pv.kn_jump_times, Pv.kn_turn_go, Pv.kn_turn_jump, Pv.kn_turn_times, Pv.kn_times_go, Pv.kn_times_jump, Pv.kn_times_turn, Pv.kp_go, Pv.kp_jump, Pv.kp_turn, Pv.kp_times, Pv.kz_go, Pv.kz_jump, Pv.kz_turn, Pv.kz_times, updM_updM, cutL g 1 (by decide)]
      refine ⟨5 + c, g.take (1 : Int).toNat, rfl, by omega, by omega, q _ _ ⟨.wd _ (shD_encs _), nst_bad _ 6 0 _ (by decide) (by omega)⟩⟩
    · simp only [Pv.seq3, Pv.next3, Pv.never3, Pv.brk3, Pv.cnt3, Pv.drop3, Pv.ret3, Pv.retN3, Pv.ifs3, Pv.gn3, Pv.gnil3, Pv.gcons3, Pv.gtup3, Pv.set3, Pv.asg3, Pv.par3, Pv.sub3, Pv.for3, Pv.is3, Pv.ir3, Pv.ir23, Pv.v3, Pv.c3, Pv.o3, Pv.un3, Pv.b3, Pv.and3, Pv.or3, Pv.not3, Pv.andV3, Pv.orV3, Pv.notV3, Pv.if3, Pv.nil3, Pv.cons3, Pv.tup3, Pv.lst3, Pv.call3, Pv.mt3, Pv.comp3, Pv.tt3, Pv.getI, List.set_cons_zero, List.set_cons_succ, Pv.int2, Pv.int20, Pv.subR, Pv.mulR, Pv.intR, Pv.sl3, Pv.np3, Pv.pt3, Pv.slR, Pv.modR, Pv.fdivR, Pv.powR, Pv.ltR, Pv.leR, Pv.gtR, Pv.geR, Pv.negR, Pv.addR, Pv.eqR_ii, Pv.eqR_ss, Pv.eqR_bb, Pv.eqR_is, Pv.neR_ii, Pv.neR_ss, Pv.neR_bb, Pv.inR, Pv.ixR, Pv.lenR, Pv.absR, Pv.tupR, Pv.sumR, Pv.tyN, Pv.isIn, Pv.isiR, Pv.appR, Pv.extR, Pv.smt3, Pv.joinR, Pv.splitR, Pv.startsR, Pv.pop3, Pv.lrev3, Pv.strR, Pv.start3, List.map_cons, List.map_nil, List.cons_append, List.nil_append, List.length_cons, List.length_nil, List.replicate, Pv.atI0, Pv.atI1, Pv.atI2, Nat.reduceAdd, Nat.reduceSub, Nat.zero_add, reduceIte, Pv.strs?, Bool.not_true, Bool.not_false, Bool.false_eq_true, if_false, if_true, decide_eq_true_eq, Bool.not_eq_true', decide_eq_false_iff_not, Pv.ixN0, Pv.ixN1, Pv.ixN2, true_and, and_true, Pv.cst0, Pv.cst1, Pv.cst2, Pv.cst3, Int.reduceEq, Option.bind_none, Option.bind_some, Pv.kn_go_jump, Pv.kn_go_turn, Pv.kn_go_times, Pv.kn_jump_go, Pv.kn_jump_turn, Pv.kn_jump_times, Pv.kn_turn_go, Pv.kn_turn_jump, Pv.kn_turn_times, Pv.kn_times_go, Pv.kn_times_jump, Pv.kn_times_turn, Pv.kp_go, Pv.kp_jump, Pv.kp_turn, Pv.kp_times, Pv.kz_go, Pv.kz_jump, Pv.kz_turn, Pv.kz_times, t__law_bad_word_r11]
      split
      · -- too many within
        simp only [Pv.seq3, Pv.next3, Pv.never3, Pv.brk3, Pv.cnt3, Pv.drop3, Pv.ret3, Pv.retN3, Pv.ifs3, Pv.gn3, Pv.gnil3, Pv.gcons3, Pv.gtup3, Pv.set3, Pv.asg3, Pv.par3, Pv.sub3, Pv.for3, Pv.is3, Pv.ir3, Pv.ir23, Pv.v3, Pv.c3, Pv.o3, Pv.un3, Pv.b3, Pv.and3, Pv.or3, Pv.not3, Pv.andV3, Pv.orV3, Pv.notV3, Pv.if3, Pv.nil3, Pv.cons3, Pv.tup3, Pv.lst3, Pv.call3, Pv.mt3, Pv.comp3, Pv.tt3, Pv.getI, List.set_cons_zero, List.set_cons_succ, Pv.int2, Pv.int20, Pv.subR, Pv.mulR, Pv.intR, Pv.sl3, Pv.np3, Pv.pt3, Pv.slR, Pv.modR, Pv.fdivR, Pv.powR, Pv.ltR, Pv.leR, Pv.gtR, Pv.geR, Pv.negR, Pv.addR, Pv.eqR_ii, Pv.eqR_ss, Pv.eqR_bb, Pv.eqR_is, Pv.neR_ii, Pv.neR_ss, Pv.neR_bb, Pv.inR, Pv.ixR, Pv.lenR, Pv.absR, Pv.tupR, Pv.sumR, Pv.tyN, Pv.isIn, Pv.isiR, Pv.appR, Pv.extR, Pv.smt3, Pv.joinR, Pv.splitR, Pv.startsR, Pv.pop3, Pv.lrev3, Pv.strR, Pv.start3, List.map_cons, List.map_nil, List.cons_append, List.nil_append, List.length_cons, List.length_nil, List.replicate, Pv.atI0, Pv.atI1, Pv.atI2, Nat.reduceAdd, Nat.reduceSub, Nat.zero_add, reduceIte, Pv.strs?, Bool.not_true, Bool.not_false, Bool.false_eq_true, if_false, if_true, decide_eq_true_eq, Bool.not_eq_true', decide_eq_false_iff_not, Pv.ixN0, Pv.ixN1, Pv.ixN2, true_and, and_true, Pv.cst0, Pv.cst1, Pv.cst2, Pv.cst3, Int.reduceEq, Option.bind_none, Option.bind_some, Pv.kn_go_jump, Pv.kn_go_turn, Pv.kn_go_times, Pv.kn_jump_go, Pv.kn_jump_turn, Pv.kn_jump_times, Pv.kn_turn_go, Pv.kn_turn_jump, Pv.kn_turn_times, Pv.kn_times_go, Pv.kn_times_jump, Pv.kn_times_turn, Pv.kp_go, Pv.kp_jump, Pv.kp_turn, Pv.kp_times, Pv.kz_go, Pv.kz_jump, Pv.kz_turn, Pv.kz_times, cutL g at' t1, cutR g at' t1 atl]
        refine ⟨by decide, by decide, p, 4, a3, b, [.int m1], rfl, by decide, by decide, updM_same, a3n, fun c a4 u1 u2 a4n => ?_⟩
        simp only [Pv.seq3, Pv.next3, Pv.never3, Pv.brk3, Pv.cnt3, Pv.drop3, Pv.ret3, Pv.retN3, Pv.ifs3, Pv.gn3, Pv.gnil3, Pv.gcons3, Pv.gtup3, Pv.set3, Pv.asg3, Pv.par3, Pv.sub3, Pv.for3, Pv.is3, Pv.ir3, Pv.ir23, Pv.v3, Pv.c3, Pv.o3, Pv.un3, Pv.b3, Pv.and3, Pv.or3, Pv.not3, Pv.andV3, Pv.orV3, Pv.notV3, Pv.if3, Pv.nil3, Pv.cons3, Pv.tup3, Pv.lst3, Pv.call3, Pv.mt3, Pv.comp3, Pv.tt3, Pv.getI, List.set_cons_zero, List.set_cons_succ, Pv.int2, Pv.int20, Pv.subR, Pv.mulR, Pv.intR, Pv.sl3, Pv.np3, Pv.pt3, Pv.slR, Pv.modR, Pv.fdivR, Pv.powR, Pv.ltR, Pv.leR, Pv.gtR, Pv.geR, Pv.negR, Pv.addR, Pv.eqR_ii, Pv.eqR_ss, Pv.eqR_bb, Pv.eqR_is, Pv.neR_ii, Pv.neR_ss, Pv.neR_bb, Pv.inR, Pv.ixR, Pv.lenR, Pv.absR, Pv.tupR, Pv.sumR, Pv.tyN, Pv.isIn, Pv.isiR, Pv.appR, Pv.extR, Pv.smt3, Pv.joinR, Pv.splitR, Pv.startsR, Pv.pop3, Pv.lrev3, Pv.strR, Pv.start3, List.map_cons, List.map_nil, List.cons_append, List.nil_append, List.length_cons, List.length_nil, List.replicate, Pv.atI0, Pv.atI1, Pv.atI2, Nat.reduceAdd, Nat.reduceSub, Nat.zero_add, reduceIte, Pv.strs?, Bool.not_true, Bool.not_false, Bool.false_eq_true, if_false, if_true, decide_eq_true_eq, Bool.not_eq_true', decide_eq_false_iff_not, Pv.ixN0, Pv.ixN1, Pv.ixN2, true_and, and_true, Pv.cst0, Pv.cst1, Pv.cst2, Pv.cst3, Int.reduceEq, Option.bind_none, Option.bind_some, Pv.kn_go_jump, Pv.kn_go_turn, Pv.kn_go_times, Pv.kn_jump_go, Pv.kn_jump_turn, Pv.kn_jump_times, Pv.kn_turn_go, Pv.kn_turn_jump, Pv.kn_turn_times, Pv.kn_times_go, Pv.kn_times_jump, Pv.kn_times_turn, Pv.kp_go, Pv.kp_jump, Pv.kp_turn, Pv.kp_times, Pv.kz_go, Pv.kz_jump, Pv.kz_turn, Pv.kz_times, updM_updM]
        refine ⟨⟨⟨by omega, by omega⟩, by omega⟩, by decide, by decide, ?_, ?_, q _ _ ?_⟩
        · rw [encs_length]; omega
        · simp only [List.length_append, List.length_cons, List.length_nil, encs_length]; omega
        rw [fl1, List.append_assoc]
        have sh : ShD (.tup [.str "times", .int 2, .tup (List.replicate (30 + c).toNat (.tup [.str "turn", .int 1]))]) := .mk _ _ (by
          intro x hx
          simp only [List.mem_cons, List.not_mem_nil, or_false] at hx
          rcases hx with rfl | rfl
          · exact .int 2
          · exact .wd _ (shD_rep (shD_enc (.turn 1))))
        refine bad_of (fun x hx => ?_) (ckL_mid ?_ _ _ 0)
        · rcases List.mem_append.mp hx with hx | hx
          · exact gs _ x hx
          · rcases List.mem_cons.mp hx with rfl | hx
            · exact sh
            · exact gd _ x hx
        · have er := ckL_rep (show ckD (ckW 4) (0 + 1) (.tup [.str "turn", .int 1]) = some 1 by decide) (30 + c).toNat 0 (by decide)
          have en : ckN "times" (.int 2) = true := by decide
          by_cases hc : c = 0
          · right
            refine ⟨31, ?_, by decide⟩
            subst hc
            rw [if_neg (by decide)] at er
            simp only [ckD, en, and_self, if_true, ckW, if_neg (show ¬ (4 : Int) < 0 + 1 by decide), er]
            rfl
          · left
            rw [if_pos (by omega)] at er
            simp only [ckD, en, and_self, if_true, ckW, if_neg (show ¬ (4 : Int) < 0 + 1 by decide), er]
      · -- a deed that is none
        simp only [Pv.seq3, Pv.next3, Pv.never3, Pv.brk3, Pv.cnt3, Pv.drop3, Pv.ret3, Pv.retN3, Pv.ifs3, Pv.gn3, Pv.gnil3, Pv.gcons3, Pv.gtup3, Pv.set3, Pv.asg3, Pv.par3, Pv.sub3, Pv.for3, Pv.is3, Pv.ir3, Pv.ir23, Pv.v3, Pv.c3, Pv.o3, Pv.un3, Pv.b3, Pv.and3, Pv.or3, Pv.not3, Pv.andV3, Pv.orV3, Pv.notV3, Pv.if3, Pv.nil3, Pv.cons3, Pv.tup3, Pv.lst3, Pv.call3, Pv.mt3, Pv.comp3, Pv.tt3, Pv.getI, List.set_cons_zero, List.set_cons_succ, Pv.int2, Pv.int20, Pv.subR, Pv.mulR, Pv.intR, Pv.sl3, Pv.np3, Pv.pt3, Pv.slR, Pv.modR, Pv.fdivR, Pv.powR, Pv.ltR, Pv.leR, Pv.gtR, Pv.geR, Pv.negR, Pv.addR, Pv.eqR_ii, Pv.eqR_ss, Pv.eqR_bb, Pv.eqR_is, Pv.neR_ii, Pv.neR_ss, Pv.neR_bb, Pv.inR, Pv.ixR, Pv.lenR, Pv.absR, Pv.tupR, Pv.sumR, Pv.tyN, Pv.isIn, Pv.isiR, Pv.appR, Pv.extR, Pv.smt3, Pv.joinR, Pv.splitR, Pv.startsR, Pv.pop3, Pv.lrev3, Pv.strR, Pv.start3, List.map_cons, List.map_nil, List.cons_append, List.nil_append, List.length_cons, List.length_nil, List.replicate, Pv.atI0, Pv.atI1, Pv.atI2, Nat.reduceAdd, Nat.reduceSub, Nat.zero_add, reduceIte, Pv.strs?, Bool.not_true, Bool.not_false, Bool.false_eq_true, if_false, if_true, decide_eq_true_eq, Bool.not_eq_true', decide_eq_false_iff_not, Pv.ixN0, Pv.ixN1, Pv.ixN2, true_and, and_true, Pv.cst0, Pv.cst1, Pv.cst2, Pv.cst3, Int.reduceEq, Option.bind_none, Option.bind_some, Pv.kn_go_jump, Pv.kn_go_turn, Pv.kn_go_times, Pv.kn_jump_go, Pv.kn_jump_turn, Pv.kn_jump_times, Pv.kn_turn_go, Pv.kn_turn_jump, Pv.kn_turn_times, Pv.kn_times_go, Pv.kn_times_jump, Pv.kn_times_turn, Pv.kp_go, Pv.kp_jump, Pv.kp_turn, Pv.kp_times, Pv.kz_go, Pv.kz_jump, Pv.kz_turn, Pv.kz_times, t__law_bad_word_r12, cutL g at' t1, cutR g at' t1 atl, s2]
        have hlen : (badList far).length = 27 := rfl
        refine ⟨p, _, a3, b, [.int m1], rfl, by rw [hlen]; decide, by rw [hlen]; decide, updM_same, a3n, fun c a4 u1 u2 a4n => ?_⟩
        simp only [Pv.seq3, Pv.next3, Pv.never3, Pv.brk3, Pv.cnt3, Pv.drop3, Pv.ret3, Pv.retN3, Pv.ifs3, Pv.gn3, Pv.gnil3, Pv.gcons3, Pv.gtup3, Pv.set3, Pv.asg3, Pv.par3, Pv.sub3, Pv.for3, Pv.is3, Pv.ir3, Pv.ir23, Pv.v3, Pv.c3, Pv.o3, Pv.un3, Pv.b3, Pv.and3, Pv.or3, Pv.not3, Pv.andV3, Pv.orV3, Pv.notV3, Pv.if3, Pv.nil3, Pv.cons3, Pv.tup3, Pv.lst3, Pv.call3, Pv.mt3, Pv.comp3, Pv.tt3, Pv.getI, List.set_cons_zero, List.set_cons_succ, Pv.int2, Pv.int20, Pv.subR, Pv.mulR, Pv.intR, Pv.sl3, Pv.np3, Pv.pt3, Pv.slR, Pv.modR, Pv.fdivR, Pv.powR, Pv.ltR, Pv.leR, Pv.gtR, Pv.geR, Pv.negR, Pv.addR, Pv.eqR_ii, Pv.eqR_ss, Pv.eqR_bb, Pv.eqR_is, Pv.neR_ii, Pv.neR_ss, Pv.neR_bb, Pv.inR, Pv.ixR, Pv.lenR, Pv.absR, Pv.tupR, Pv.sumR, Pv.tyN, Pv.isIn, Pv.isiR, Pv.appR, Pv.extR, Pv.smt3, Pv.joinR, Pv.splitR, Pv.startsR, Pv.pop3, Pv.lrev3, Pv.strR, Pv.start3, List.map_cons, List.map_nil, List.cons_append, List.nil_append, List.length_cons, List.length_nil, List.replicate, Pv.atI0, Pv.atI1, Pv.atI2, Nat.reduceAdd, Nat.reduceSub, Nat.zero_add, reduceIte, Pv.strs?, Bool.not_true, Bool.not_false, Bool.false_eq_true, if_false, if_true, decide_eq_true_eq, Bool.not_eq_true', decide_eq_false_iff_not, Pv.ixN0, Pv.ixN1, Pv.ixN2, true_and, and_true, Pv.cst0, Pv.cst1, Pv.cst2, Pv.cst3, Int.reduceEq, Option.bind_none, Option.bind_some, Pv.kn_go_jump, Pv.kn_go_turn, Pv.kn_go_times, Pv.kn_jump_go, Pv.kn_jump_turn, Pv.kn_jump_times, Pv.kn_turn_go, Pv.kn_turn_jump, Pv.kn_turn_times, Pv.kn_times_go, Pv.kn_times_jump, Pv.kn_times_turn, Pv.kp_go, Pv.kp_jump, Pv.kp_turn, Pv.kp_times, Pv.kz_go, Pv.kz_jump, Pv.kz_turn, Pv.kz_times, updM_updM, s2]
        obtain ⟨bd, hb, eb⟩ := atI_in (l := badList far) u1 u2
        simp only [Pv.seq3, Pv.next3, Pv.never3, Pv.brk3, Pv.cnt3, Pv.drop3, Pv.ret3, Pv.retN3, Pv.ifs3, Pv.gn3, Pv.gnil3, Pv.gcons3, Pv.gtup3, Pv.set3, Pv.asg3, Pv.par3, Pv.sub3, Pv.for3, Pv.is3, Pv.ir3, Pv.ir23, Pv.v3, Pv.c3, Pv.o3, Pv.un3, Pv.b3, Pv.and3, Pv.or3, Pv.not3, Pv.andV3, Pv.orV3, Pv.notV3, Pv.if3, Pv.nil3, Pv.cons3, Pv.tup3, Pv.lst3, Pv.call3, Pv.mt3, Pv.comp3, Pv.tt3, Pv.getI, List.set_cons_zero, List.set_cons_succ, Pv.int2, Pv.int20, Pv.subR, Pv.mulR, Pv.intR, Pv.sl3, Pv.np3, Pv.pt3, Pv.slR, Pv.modR, Pv.fdivR, Pv.powR, Pv.ltR, Pv.leR, Pv.gtR, Pv.geR, Pv.negR, Pv.addR, Pv.eqR_ii, Pv.eqR_ss, Pv.eqR_bb, Pv.eqR_is, Pv.neR_ii, Pv.neR_ss, Pv.neR_bb, Pv.inR, Pv.ixR, Pv.lenR, Pv.absR, Pv.tupR, Pv.sumR, Pv.tyN, Pv.isIn, Pv.isiR, Pv.appR, Pv.extR, Pv.smt3, Pv.joinR, Pv.splitR, Pv.startsR, Pv.pop3, Pv.lrev3, Pv.strR, Pv.start3, List.map_cons, List.map_nil, List.cons_append, List.nil_append, List.length_cons, List.length_nil, List.replicate, Pv.atI0, Pv.atI1, Pv.atI2, Nat.reduceAdd, Nat.reduceSub, Nat.zero_add, reduceIte, Pv.strs?, Bool.not_true, Bool.not_false, Bool.false_eq_true, if_false, if_true, decide_eq_true_eq, Bool.not_eq_true', decide_eq_false_iff_not, Pv.ixN0, Pv.ixN1, Pv.ixN2, true_and, and_true, Pv.cst0, Pv.cst1, Pv.cst2, Pv.cst3, Int.reduceEq, Option.bind_none, Option.bind_some, Pv.kn_go_jump, Pv.kn_go_turn, Pv.kn_go_times, Pv.kn_jump_go, Pv.kn_jump_turn, Pv.kn_jump_times, Pv.kn_turn_go, Pv.kn_turn_jump, Pv.kn_turn_times, Pv.kn_times_go, Pv.kn_times_jump, Pv.kn_times_turn, Pv.kp_go, Pv.kp_jump, Pv.kp_turn, Pv.kp_times, Pv.kz_go, Pv.kz_jump, Pv.kz_turn, Pv.kz_times, eb]
        obtain ⟨z1, z2⟩ := badList_bad hfar bd hb
        refine ⟨by decide, ?_, ?_, q _ _ ?_⟩
        · rw [encs_length]; omega
        · simp only [List.length_append, List.length_cons, List.length_nil, encs_length]; omega
        rw [List.append_assoc]
        refine bad_of (fun x hx => ?_) (ckL_mid (.inl z2) _ _ 0)
        rcases List.mem_append.mp hx with hx | hx
        · exact gs _ x hx
        · rcases List.mem_cons.mp hx with rfl | hx
          · exact (sh_sound 4).1 _ z1
          · exact gd _ x hx
theorem rd__law_bad_word (ds : List D) (μ : Mu) (Q : VK3) (h : spBad ds μ Q) : TB t__law_bad_word (EB Q) (start3 N__law_bad_word ds) μ := by
  obtain ⟨p, a, b, m, rfl, hp, ha, hm, q⟩ := h
  have c1 : CPow 10 20 := ⟨by decide, by decide, by decide⟩
  have c2 : CPow 10 9 := ⟨by decide, by decide, by decide⟩
  have e1 : ((10 : Int) ^ (20 : Int).toNat) = 100000000000000000000 := by decide
  have e2 : ((10 : Int) ^ (9 : Int).toNat) = 1000000000 := by decide
  have fin := bad_end Q q
  simp only [TB] at fin
  simp only [Pv.seq3, Pv.next3, Pv.never3, Pv.brk3, Pv.cnt3, Pv.drop3, Pv.ret3, Pv.retN3, Pv.ifs3, Pv.gn3, Pv.gnil3, Pv.gcons3, Pv.gtup3, Pv.set3, Pv.asg3, Pv.par3, Pv.sub3, Pv.for3, Pv.is3, Pv.ir3, Pv.ir23, Pv.v3, Pv.c3, Pv.o3, Pv.un3, Pv.b3, Pv.and3, Pv.or3, Pv.not3, Pv.andV3, Pv.orV3, Pv.notV3, Pv.if3, Pv.nil3, Pv.cons3, Pv.tup3, Pv.lst3, Pv.call3, Pv.mt3, Pv.comp3, Pv.tt3, Pv.getI, List.set_cons_zero, List.set_cons_succ, Pv.int2, Pv.int20, Pv.subR, Pv.mulR, Pv.intR, Pv.sl3, Pv.np3, Pv.pt3, Pv.slR, Pv.modR, Pv.fdivR, Pv.powR, Pv.ltR, Pv.leR, Pv.gtR, Pv.geR, Pv.negR, Pv.addR, Pv.eqR_ii, Pv.eqR_ss, Pv.eqR_bb, Pv.eqR_is, Pv.neR_ii, Pv.neR_ss, Pv.neR_bb, Pv.inR, Pv.ixR, Pv.lenR, Pv.absR, Pv.tupR, Pv.sumR, Pv.tyN, Pv.isIn, Pv.isiR, Pv.appR, Pv.extR, Pv.smt3, Pv.joinR, Pv.splitR, Pv.startsR, Pv.pop3, Pv.lrev3, Pv.strR, Pv.start3, List.map_cons, List.map_nil, List.cons_append, List.nil_append, List.length_cons, List.length_nil, List.replicate, Pv.atI0, Pv.atI1, Pv.atI2, Nat.reduceAdd, Nat.reduceSub, Nat.zero_add, reduceIte, Pv.strs?, Bool.not_true, Bool.not_false, Bool.false_eq_true, if_false, if_true, decide_eq_true_eq, Bool.not_eq_true', decide_eq_false_iff_not, Pv.ixN0, Pv.ixN1, Pv.ixN2, true_and, and_true, Pv.cst0, Pv.cst1, Pv.cst2, Pv.cst3, Int.reduceEq, Option.bind_none, Option.bind_some, Pv.kn_go_jump, Pv.kn_go_turn, Pv.kn_go_times, Pv.kn_jump_go, Pv.kn_jump_turn, Pv.kn_jump_times, Pv.kn_turn_go, Pv.kn_turn_jump, Pv.kn_turn_times, Pv.kn_times_go, Pv.kn_times_jump, Pv.kn_times_turn, Pv.kp_go, Pv.kp_jump, Pv.kp_turn, Pv.kp_times, Pv.kz_go, Pv.kz_jump, Pv.kz_turn, Pv.kz_times, TB, t__law_bad_word, N__law_bad_word, c1, c2, e1, e2]
  refine ⟨p, 1000000000, a, b, [.int m], rfl, by decide, by decide, hp, ha, fun f0 a1 g1 g2 a1n => ?_⟩
  simp only [Pv.seq3, Pv.next3, Pv.never3, Pv.brk3, Pv.cnt3, Pv.drop3, Pv.ret3, Pv.retN3, Pv.ifs3, Pv.gn3, Pv.gnil3, Pv.gcons3, Pv.gtup3, Pv.set3, Pv.asg3, Pv.par3, Pv.sub3, Pv.for3, Pv.is3, Pv.ir3, Pv.ir23, Pv.v3, Pv.c3, Pv.o3, Pv.un3, Pv.b3, Pv.and3, Pv.or3, Pv.not3, Pv.andV3, Pv.orV3, Pv.notV3, Pv.if3, Pv.nil3, Pv.cons3, Pv.tup3, Pv.lst3, Pv.call3, Pv.mt3, Pv.comp3, Pv.tt3, Pv.getI, List.set_cons_zero, List.set_cons_succ, Pv.int2, Pv.int20, Pv.subR, Pv.mulR, Pv.intR, Pv.sl3, Pv.np3, Pv.pt3, Pv.slR, Pv.modR, Pv.fdivR, Pv.powR, Pv.ltR, Pv.leR, Pv.gtR, Pv.geR, Pv.negR, Pv.addR, Pv.eqR_ii, Pv.eqR_ss, Pv.eqR_bb, Pv.eqR_is, Pv.neR_ii, Pv.neR_ss, Pv.neR_bb, Pv.inR, Pv.ixR, Pv.lenR, Pv.absR, Pv.tupR, Pv.sumR, Pv.tyN, Pv.isIn, Pv.isiR, Pv.appR, Pv.extR, Pv.smt3, Pv.joinR, Pv.splitR, Pv.startsR, Pv.pop3, Pv.lrev3, Pv.strR, Pv.start3, List.map_cons, List.map_nil, List.cons_append, List.nil_append, List.length_cons, List.length_nil, List.replicate, Pv.atI0, Pv.atI1, Pv.atI2, Nat.reduceAdd, Nat.reduceSub, Nat.zero_add, reduceIte, Pv.strs?, Bool.not_true, Bool.not_false, Bool.false_eq_true, if_false, if_true, decide_eq_true_eq, Bool.not_eq_true', decide_eq_false_iff_not, Pv.ixN0, Pv.ixN1, Pv.ixN2, true_and, and_true, Pv.cst0, Pv.cst1, Pv.cst2, Pv.cst3, Int.reduceEq, Option.bind_none, Option.bind_some, Pv.kn_go_jump, Pv.kn_go_turn, Pv.kn_go_times, Pv.kn_jump_go, Pv.kn_jump_turn, Pv.kn_jump_times, Pv.kn_turn_go, Pv.kn_turn_jump, Pv.kn_turn_times, Pv.kn_times_go, Pv.kn_times_jump, Pv.kn_times_turn, Pv.kp_go, Pv.kp_jump, Pv.kp_turn, Pv.kp_times, Pv.kz_go, Pv.kz_jump, Pv.kz_turn, Pv.kz_times, t__law_bad_word_r1]
  have hfar : 100000000000000000000 ≤ 100000000000000000000 + f0 := by omega
  generalize 100000000000000000000 + f0 = far at hfar ⊢
  have p0 : updM μ p (.lst [.int a1, .bl b, .int m]) p = some (.lst [.int a1, .bl b, .int m]) := updM_same
  generalize updM μ p (.lst [.int a1, .bl b, .int m]) = μ0 at p0 ⊢
  repeat refine ⟨by decide, ?_⟩
  intro s1 hs1
  simp only [t__law_bad_word_r2, Pv.seq3, Pv.next3, Pv.never3, Pv.brk3, Pv.cnt3, Pv.drop3, Pv.ret3, Pv.retN3, Pv.ifs3, Pv.gn3, Pv.gnil3, Pv.gcons3, Pv.gtup3, Pv.set3, Pv.asg3, Pv.par3, Pv.sub3, Pv.for3, Pv.is3, Pv.ir3, Pv.ir23, Pv.v3, Pv.c3, Pv.o3, Pv.un3, Pv.b3, Pv.and3, Pv.or3, Pv.not3, Pv.andV3, Pv.orV3, Pv.notV3, Pv.if3, Pv.nil3, Pv.cons3, Pv.tup3, Pv.lst3, Pv.call3, Pv.mt3, Pv.comp3, Pv.tt3, Pv.getI, List.set_cons_zero, List.set_cons_succ, Pv.int2, Pv.int20, Pv.subR, Pv.mulR, Pv.intR, Pv.sl3, Pv.np3, Pv.pt3, Pv.slR, Pv.modR, Pv.fdivR, Pv.powR, Pv.ltR, Pv.leR, Pv.gtR, Pv.geR, Pv.negR, Pv.eqR_ii, Pv.eqR_ss, Pv.eqR_bb, Pv.eqR_is, Pv.neR_ii, Pv.neR_ss, Pv.neR_bb, Pv.inR, Pv.ixR, Pv.lenR, Pv.absR, Pv.tupR, Pv.sumR, Pv.tyN, Pv.isIn, Pv.isiR, Pv.appR, Pv.extR, Pv.smt3, Pv.joinR, Pv.splitR, Pv.startsR, Pv.pop3, Pv.lrev3, Pv.strR, Pv.start3, List.map_cons, List.map_nil, List.cons_append, List.nil_append, List.length_cons, List.length_nil, List.replicate, Pv.atI0, Pv.atI1, Pv.atI2, Nat.reduceAdd, Nat.reduceSub, Nat.zero_add, reduceIte, Pv.strs?, Bool.not_true, Bool.not_false, Bool.false_eq_true, if_false, if_true, decide_eq_true_eq, Bool.not_eq_true', decide_eq_false_iff_not, Pv.ixN0, Pv.ixN1, Pv.ixN2, true_and, and_true, Pv.cst0, Pv.cst1, Pv.cst2, Pv.cst3, Int.reduceEq, Option.bind_none, Option.bind_some, Pv.kn_go_jump, Pv.kn_go_turn, Pv.kn_go_times, Pv.kn_jump_go, Pv.kn_jump_turn, Pv.kn_jump_times, Pv.kn_turn_go, Pv.kn_turn_jump, Pv.kn_turn_times, Pv.kn_times_go, Pv.kn_times_jump, Pv.kn_times_turn, Pv.kp_go, Pv.kp_jump, Pv.kp_turn, Pv.kp_times, Pv.kz_go, Pv.kz_jump, Pv.kz_turn, Pv.kz_times]
  have q1 := Ext.new (o := .lst [.tup [.str "go", .int (-1)], .tup [.str "go", .int far], .tup [.str "jump", .int far], .tup [.str "jump", .int (0 - far)], .tup [.str "turn", .int far], .tup [.str "turn", .int (0 - far)], .tup [.str "go"]]) hs1 p _ p0
  repeat refine ⟨by decide, ?_⟩
  intro t1 ht1
  refine add_new updM_same ht1 ?h1 fun s2 μ2 x2 y2 => ?_
  case h1 => show 7 + 6 ≤ sizeLine; decide
  have q2 := x2 _ _ q1
  simp only [t__law_bad_word_r3, Pv.seq3, Pv.next3, Pv.never3, Pv.brk3, Pv.cnt3, Pv.drop3, Pv.ret3, Pv.retN3, Pv.ifs3, Pv.gn3, Pv.gnil3, Pv.gcons3, Pv.gtup3, Pv.set3, Pv.asg3, Pv.par3, Pv.sub3, Pv.for3, Pv.is3, Pv.ir3, Pv.ir23, Pv.v3, Pv.c3, Pv.o3, Pv.un3, Pv.b3, Pv.and3, Pv.or3, Pv.not3, Pv.andV3, Pv.orV3, Pv.notV3, Pv.if3, Pv.nil3, Pv.cons3, Pv.tup3, Pv.lst3, Pv.call3, Pv.mt3, Pv.comp3, Pv.tt3, Pv.getI, List.set_cons_zero, List.set_cons_succ, Pv.int2, Pv.int20, Pv.subR, Pv.mulR, Pv.intR, Pv.sl3, Pv.np3, Pv.pt3, Pv.slR, Pv.modR, Pv.fdivR, Pv.powR, Pv.ltR, Pv.leR, Pv.gtR, Pv.geR, Pv.negR, Pv.eqR_ii, Pv.eqR_ss, Pv.eqR_bb, Pv.eqR_is, Pv.neR_ii, Pv.neR_ss, Pv.neR_bb, Pv.inR, Pv.ixR, Pv.lenR, Pv.absR, Pv.tupR, Pv.sumR, Pv.tyN, Pv.isIn, Pv.isiR, Pv.appR, Pv.extR, Pv.smt3, Pv.joinR, Pv.splitR, Pv.startsR, Pv.pop3, Pv.lrev3, Pv.strR, Pv.start3, List.map_cons, List.map_nil, List.cons_append, List.nil_append, List.length_cons, List.length_nil, List.replicate, Pv.atI0, Pv.atI1, Pv.atI2, Nat.reduceAdd, Nat.reduceSub, Nat.zero_add, reduceIte, Pv.strs?, Bool.not_true, Bool.not_false, Bool.false_eq_true, if_false, if_true, decide_eq_true_eq, Bool.not_eq_true', decide_eq_false_iff_not, Pv.ixN0, Pv.ixN1, Pv.ixN2, true_and, and_true, Pv.cst0, Pv.cst1, Pv.cst2, Pv.cst3, Int.reduceEq, Option.bind_none, Option.bind_some, Pv.kn_go_jump, Pv.kn_go_turn, Pv.kn_go_times, Pv.kn_jump_go, Pv.kn_jump_turn, Pv.kn_jump_times, Pv.kn_turn_go, Pv.kn_turn_jump, Pv.kn_turn_times, Pv.kn_times_go, Pv.kn_times_jump, Pv.kn_times_turn, Pv.kp_go, Pv.kp_jump, Pv.kp_turn, Pv.kp_times, Pv.kz_go, Pv.kz_jump, Pv.kz_turn, Pv.kz_times]
  repeat refine ⟨by decide, ?_⟩
  intro t2 ht2
  refine add_new y2 ht2 ?h2 fun s3 μ3 x3 y3 => ?_
  case h2 => show 13 + 6 ≤ sizeLine; decide
  have q3 := x3 _ _ q2
  simp only [t__law_bad_word_r4, Pv.seq3, Pv.next3, Pv.never3, Pv.brk3, Pv.cnt3, Pv.drop3, Pv.ret3, Pv.retN3, Pv.ifs3, Pv.gn3, Pv.gnil3, Pv.gcons3, Pv.gtup3, Pv.set3, Pv.asg3, Pv.par3, Pv.sub3, Pv.for3, Pv.is3, Pv.ir3, Pv.ir23, Pv.v3, Pv.c3, Pv.o3, Pv.un3, Pv.b3, Pv.and3, Pv.or3, Pv.not3, Pv.andV3, Pv.orV3, Pv.notV3, Pv.if3, Pv.nil3, Pv.cons3, Pv.tup3, Pv.lst3, Pv.call3, Pv.mt3, Pv.comp3, Pv.tt3, Pv.getI, List.set_cons_zero, List.set_cons_succ, Pv.int2, Pv.int20, Pv.subR, Pv.mulR, Pv.intR, Pv.sl3, Pv.np3, Pv.pt3, Pv.slR, Pv.modR, Pv.fdivR, Pv.powR, Pv.ltR, Pv.leR, Pv.gtR, Pv.geR, Pv.negR, Pv.eqR_ii, Pv.eqR_ss, Pv.eqR_bb, Pv.eqR_is, Pv.neR_ii, Pv.neR_ss, Pv.neR_bb, Pv.inR, Pv.ixR, Pv.lenR, Pv.absR, Pv.tupR, Pv.sumR, Pv.tyN, Pv.isIn, Pv.isiR, Pv.appR, Pv.extR, Pv.smt3, Pv.joinR, Pv.splitR, Pv.startsR, Pv.pop3, Pv.lrev3, Pv.strR, Pv.start3, List.map_cons, List.map_nil, List.cons_append, List.nil_append, List.length_cons, List.length_nil, List.replicate, Pv.atI0, Pv.atI1, Pv.atI2, Nat.reduceAdd, Nat.reduceSub, Nat.zero_add, reduceIte, Pv.strs?, Bool.not_true, Bool.not_false, Bool.false_eq_true, if_false, if_true, decide_eq_true_eq, Bool.not_eq_true', decide_eq_false_iff_not, Pv.ixN0, Pv.ixN1, Pv.ixN2, true_and, and_true, Pv.cst0, Pv.cst1, Pv.cst2, Pv.cst3, Int.reduceEq, Option.bind_none, Option.bind_some, Pv.kn_go_jump, Pv.kn_go_turn, Pv.kn_go_times, Pv.kn_jump_go, Pv.kn_jump_turn, Pv.kn_jump_times, Pv.kn_turn_go, Pv.kn_turn_jump, Pv.kn_turn_times, Pv.kn_times_go, Pv.kn_times_jump, Pv.kn_times_turn, Pv.kp_go, Pv.kp_jump, Pv.kp_turn, Pv.kp_times, Pv.kz_go, Pv.kz_jump, Pv.kz_turn, Pv.kz_times]
  repeat refine ⟨by decide, ?_⟩
  intro t3 ht3
  refine add_new y3 ht3 ?h3 fun s4 μ4 x4 y4 => ?_
  case h3 => show 19 + 3 ≤ sizeLine; decide
  have q4 := x4 _ _ q3
  simp only [t__law_bad_word_r5, Pv.seq3, Pv.next3, Pv.never3, Pv.brk3, Pv.cnt3, Pv.drop3, Pv.ret3, Pv.retN3, Pv.ifs3, Pv.gn3, Pv.gnil3, Pv.gcons3, Pv.gtup3, Pv.set3, Pv.asg3, Pv.par3, Pv.sub3, Pv.for3, Pv.is3, Pv.ir3, Pv.ir23, Pv.v3, Pv.c3, Pv.o3, Pv.un3, Pv.b3, Pv.and3, Pv.or3, Pv.not3, Pv.andV3, Pv.orV3, Pv.notV3, Pv.if3, Pv.nil3, Pv.cons3, Pv.tup3, Pv.lst3, Pv.call3, Pv.mt3, Pv.comp3, Pv.tt3, Pv.getI, List.set_cons_zero, List.set_cons_succ, Pv.int2, Pv.int20, Pv.subR, Pv.mulR, Pv.intR, Pv.sl3, Pv.np3, Pv.pt3, Pv.slR, Pv.modR, Pv.fdivR, Pv.powR, Pv.ltR, Pv.leR, Pv.gtR, Pv.geR, Pv.negR, Pv.eqR_ii, Pv.eqR_ss, Pv.eqR_bb, Pv.eqR_is, Pv.neR_ii, Pv.neR_ss, Pv.neR_bb, Pv.inR, Pv.ixR, Pv.lenR, Pv.absR, Pv.tupR, Pv.sumR, Pv.tyN, Pv.isIn, Pv.isiR, Pv.appR, Pv.extR, Pv.smt3, Pv.joinR, Pv.splitR, Pv.startsR, Pv.pop3, Pv.lrev3, Pv.strR, Pv.start3, List.map_cons, List.map_nil, List.cons_append, List.nil_append, List.length_cons, List.length_nil, List.replicate, Pv.atI0, Pv.atI1, Pv.atI2, Nat.reduceAdd, Nat.reduceSub, Nat.zero_add, reduceIte, Pv.strs?, Bool.not_true, Bool.not_false, Bool.false_eq_true, if_false, if_true, decide_eq_true_eq, Bool.not_eq_true', decide_eq_false_iff_not, Pv.ixN0, Pv.ixN1, Pv.ixN2, true_and, and_true, Pv.cst0, Pv.cst1, Pv.cst2, Pv.cst3, Int.reduceEq, Option.bind_none, Option.bind_some, Pv.kn_go_jump, Pv.kn_go_turn, Pv.kn_go_times, Pv.kn_jump_go, Pv.kn_jump_turn, Pv.kn_jump_times, Pv.kn_turn_go, Pv.kn_turn_jump, Pv.kn_turn_times, Pv.kn_times_go, Pv.kn_times_jump, Pv.kn_times_turn, Pv.kp_go, Pv.kp_jump, Pv.kp_turn, Pv.kp_times, Pv.kz_go, Pv.kz_jump, Pv.kz_turn, Pv.kz_times]
  repeat refine ⟨by decide, ?_⟩
  intro t4 ht4
  refine add_new y4 ht4 ?h4 fun s5 μ5 x5 y5 => ?_
  case h4 => show 22 + 5 ≤ sizeLine; decide
  have q5 := x5 _ _ q4
  exact fin far hfar p s5 a1 b m μ5 q5 a1n hm y5
/-! the law -/
noncomputable def spLaw : Sp3 := fun ds μ Q => ∃ ns : List Int, ds = [.fls (ns.map D.int)] ∧ ns.length ≤ 63 ∧ ∀ μ', Q (.bl true) μ'
noncomputable abbrev TL (t : Sp3 → Sp3 → Sp3 → Sp3 → Sp3 → Sp3 → Sp3 → Sp3 → Sp3 → (XE3 → Sp3) → TS3) : TS3 := t spBad spCell (spCnt 6) (spDrawn 5) spNst spRef spState spTold spWhole spxIn
noncomputable abbrev EL (Q : VK3) : Ends3 := { nx := fun _ μ' => Q .non μ', rt := Q }
theorem law_tail (Q : VK3) (q : ∀ μ', Q (.bl true) μ') (ns : List Int) (w : List Dd) (hw : Wd w) (edge : D) (μ : Mu) :
    TL t_law_r4 (EL Q) [some (.fls (ns.map D.int)), some (.tup (encs w)), some edge, none, none, none] μ := by
  simp only [Pv.seq3, Pv.next3, Pv.never3, Pv.brk3, Pv.cnt3, Pv.drop3, Pv.ret3, Pv.retN3, Pv.ifs3, Pv.gn3, Pv.gnil3, Pv.gcons3, Pv.gtup3, Pv.set3, Pv.asg3, Pv.par3, Pv.sub3, Pv.for3, Pv.is3, Pv.ir3, Pv.ir23, Pv.v3, Pv.c3, Pv.o3, Pv.un3, Pv.b3, Pv.and3, Pv.or3, Pv.not3, Pv.andV3, Pv.orV3, Pv.notV3, Pv.if3, Pv.nil3, Pv.cons3, Pv.tup3, Pv.lst3, Pv.call3, Pv.mt3, Pv.comp3, Pv.tt3, Pv.getI, List.set_cons_zero, List.set_cons_succ, Pv.int2, Pv.int20, Pv.subR, Pv.mulR, Pv.intR, Pv.sl3, Pv.np3, Pv.pt3, Pv.slR, Pv.modR, Pv.fdivR, Pv.powR, Pv.ltR, Pv.leR, Pv.gtR, Pv.geR, Pv.negR, Pv.addR, Pv.eqR_ii, Pv.eqR_ss, Pv.eqR_bb, Pv.eqR_is, Pv.neR_ii, Pv.neR_ss, Pv.neR_bb, Pv.inR, Pv.ixR, Pv.lenR, Pv.absR, Pv.tupR, Pv.sumR, Pv.tyN, Pv.isIn, Pv.isiR, Pv.appR, Pv.extR, Pv.smt3, Pv.joinR, Pv.splitR, Pv.startsR, Pv.pop3, Pv.lrev3, Pv.strR, Pv.start3, List.map_cons, List.map_nil, List.cons_append, List.nil_append, List.length_cons, List.length_nil, List.replicate, Pv.atI0, Pv.atI1, Pv.atI2, Nat.reduceAdd, Nat.reduceSub, Nat.zero_add, reduceIte, Pv.strs?, Bool.not_true, Bool.not_false, Bool.false_eq_true, if_false, if_true, decide_eq_true_eq, Bool.not_eq_true', decide_eq_false_iff_not, Pv.ixN0, Pv.ixN1, Pv.ixN2, true_and, and_true, Pv.cst0, Pv.cst1, Pv.cst2, Pv.cst3, Int.reduceEq, Option.bind_none, Option.bind_some, Pv.kn_go_jump, Pv.kn_go_turn, Pv.kn_go_times, Pv.kn_jump_go, Pv.kn_jump_turn, Pv.kn_jump_times, Pv.kn_turn_go, Pv.kn_turn_jump, Pv.kn_turn_times, Pv.kn_times_go, Pv.kn_times_jump, Pv.kn_times_turn, Pv.kp_go, Pv.kp_jump, Pv.kp_turn, Pv.kp_times, Pv.kz_go, Pv.kz_jump, Pv.kz_turn, Pv.kz_times, TL, t_law_r4]
  refine ⟨_, rfl, .wd _ (shD_encs w), ?_⟩
  rw [ckW_ok hw]
  simp only [Pv.seq3, Pv.next3, Pv.never3, Pv.brk3, Pv.cnt3, Pv.drop3, Pv.ret3, Pv.retN3, Pv.ifs3, Pv.gn3, Pv.gnil3, Pv.gcons3, Pv.gtup3, Pv.set3, Pv.asg3, Pv.par3, Pv.sub3, Pv.for3, Pv.is3, Pv.ir3, Pv.ir23, Pv.v3, Pv.c3, Pv.o3, Pv.un3, Pv.b3, Pv.and3, Pv.or3, Pv.not3, Pv.andV3, Pv.orV3, Pv.notV3, Pv.if3, Pv.nil3, Pv.cons3, Pv.tup3, Pv.lst3, Pv.call3, Pv.mt3, Pv.comp3, Pv.tt3, Pv.getI, List.set_cons_zero, List.set_cons_succ, Pv.int2, Pv.int20, Pv.subR, Pv.mulR, Pv.intR, Pv.sl3, Pv.np3, Pv.pt3, Pv.slR, Pv.modR, Pv.fdivR, Pv.powR, Pv.ltR, Pv.leR, Pv.gtR, Pv.geR, Pv.negR, Pv.addR, Pv.eqR_ii, Pv.eqR_ss, Pv.eqR_bb, Pv.eqR_is, Pv.neR_ii, Pv.neR_ss, Pv.neR_bb, Pv.inR, Pv.ixR, Pv.lenR, Pv.absR, Pv.tupR, Pv.sumR, Pv.tyN, Pv.isIn, Pv.isiR, Pv.appR, Pv.extR, Pv.smt3, Pv.joinR, Pv.splitR, Pv.startsR, Pv.pop3, Pv.lrev3, Pv.strR, Pv.start3, List.map_cons, List.map_nil, List.cons_append, List.nil_append, List.length_cons, List.length_nil, List.replicate, Pv.atI0, Pv.atI1, Pv.atI2, Nat.reduceAdd, Nat.reduceSub, Nat.zero_add, reduceIte, Pv.strs?, Bool.not_true, Bool.not_false, Bool.false_eq_true, if_false, if_true, decide_eq_true_eq, Bool.not_eq_true', decide_eq_false_iff_not, Pv.ixN0, Pv.ixN1, Pv.ixN2, true_and, and_true, Pv.cst0, Pv.cst1, Pv.cst2, Pv.cst3, Int.reduceEq, Option.bind_none, Option.bind_some, Pv.kn_go_jump, Pv.kn_go_turn, Pv.kn_go_times, Pv.kn_jump_go, Pv.kn_jump_turn, Pv.kn_jump_times, Pv.kn_turn_go, Pv.kn_turn_jump, Pv.kn_turn_times, Pv.kn_times_go, Pv.kn_times_jump, Pv.kn_times_turn, Pv.kp_go, Pv.kp_jump, Pv.kp_turn, Pv.kp_times, Pv.kz_go, Pv.kz_jump, Pv.kz_turn, Pv.kz_times, told, t_law_r5]
  refine ⟨_, rfl, ?_⟩
  simp only [Pv.seq3, Pv.next3, Pv.never3, Pv.brk3, Pv.cnt3, Pv.drop3, Pv.ret3, Pv.retN3, Pv.ifs3, Pv.gn3, Pv.gnil3, Pv.gcons3, Pv.gtup3, Pv.set3, Pv.asg3, Pv.par3, Pv.sub3, Pv.for3, Pv.is3, Pv.ir3, Pv.ir23, Pv.v3, Pv.c3, Pv.o3, Pv.un3, Pv.b3, Pv.and3, Pv.or3, Pv.not3, Pv.andV3, Pv.orV3, Pv.notV3, Pv.if3, Pv.nil3, Pv.cons3, Pv.tup3, Pv.lst3, Pv.call3, Pv.mt3, Pv.comp3, Pv.tt3, Pv.getI, List.set_cons_zero, List.set_cons_succ, Pv.int2, Pv.int20, Pv.subR, Pv.mulR, Pv.intR, Pv.sl3, Pv.np3, Pv.pt3, Pv.slR, Pv.modR, Pv.fdivR, Pv.powR, Pv.ltR, Pv.leR, Pv.gtR, Pv.geR, Pv.negR, Pv.addR, Pv.eqR_ii, Pv.eqR_ss, Pv.eqR_bb, Pv.eqR_is, Pv.neR_ii, Pv.neR_ss, Pv.neR_bb, Pv.inR, Pv.ixR, Pv.lenR, Pv.absR, Pv.tupR, Pv.sumR, Pv.tyN, Pv.isIn, Pv.isiR, Pv.appR, Pv.extR, Pv.smt3, Pv.joinR, Pv.splitR, Pv.startsR, Pv.pop3, Pv.lrev3, Pv.strR, Pv.start3, List.map_cons, List.map_nil, List.cons_append, List.nil_append, List.length_cons, List.length_nil, List.replicate, Pv.atI0, Pv.atI1, Pv.atI2, Nat.reduceAdd, Nat.reduceSub, Nat.zero_add, reduceIte, Pv.strs?, Bool.not_true, Bool.not_false, Bool.false_eq_true, if_false, if_true, decide_eq_true_eq, Bool.not_eq_true', decide_eq_false_iff_not, Pv.ixN0, Pv.ixN1, Pv.ixN2, true_and, and_true, Pv.cst0, Pv.cst1, Pv.cst2, Pv.cst3, Int.reduceEq, Option.bind_none, Option.bind_some, Pv.kn_go_jump, Pv.kn_go_turn, Pv.kn_go_times, Pv.kn_jump_go, Pv.kn_jump_turn, Pv.kn_jump_times, Pv.kn_turn_go, Pv.kn_turn_jump, Pv.kn_turn_times, Pv.kn_times_go, Pv.kn_times_jump, Pv.kn_times_turn, Pv.kp_go, Pv.kp_jump, Pv.kp_turn, Pv.kp_times, Pv.kz_go, Pv.kz_jump, Pv.kz_turn, Pv.kz_times, cst0]
  refine ⟨w, rfl, by have := hw.2.1; omega, ?_⟩
  simp only [Pv.seq3, Pv.next3, Pv.never3, Pv.brk3, Pv.cnt3, Pv.drop3, Pv.ret3, Pv.retN3, Pv.ifs3, Pv.gn3, Pv.gnil3, Pv.gcons3, Pv.gtup3, Pv.set3, Pv.asg3, Pv.par3, Pv.sub3, Pv.for3, Pv.is3, Pv.ir3, Pv.ir23, Pv.v3, Pv.c3, Pv.o3, Pv.un3, Pv.b3, Pv.and3, Pv.or3, Pv.not3, Pv.andV3, Pv.orV3, Pv.notV3, Pv.if3, Pv.nil3, Pv.cons3, Pv.tup3, Pv.lst3, Pv.call3, Pv.mt3, Pv.comp3, Pv.tt3, Pv.getI, List.set_cons_zero, List.set_cons_succ, Pv.int2, Pv.int20, Pv.subR, Pv.mulR, Pv.intR, Pv.sl3, Pv.np3, Pv.pt3, Pv.slR, Pv.modR, Pv.fdivR, Pv.powR, Pv.ltR, Pv.leR, Pv.gtR, Pv.geR, Pv.negR, Pv.addR, Pv.eqR_ii, Pv.eqR_ss, Pv.eqR_bb, Pv.eqR_is, Pv.neR_ii, Pv.neR_ss, Pv.neR_bb, Pv.inR, Pv.ixR, Pv.lenR, Pv.absR, Pv.tupR, Pv.sumR, Pv.tyN, Pv.isIn, Pv.isiR, Pv.appR, Pv.extR, Pv.smt3, Pv.joinR, Pv.splitR, Pv.startsR, Pv.pop3, Pv.lrev3, Pv.strR, Pv.start3, List.map_cons, List.map_nil, List.cons_append, List.nil_append, List.length_cons, List.length_nil, List.replicate, Pv.atI0, Pv.atI1, Pv.atI2, Nat.reduceAdd, Nat.reduceSub, Nat.zero_add, reduceIte, Pv.strs?, Bool.not_true, Bool.not_false, Bool.false_eq_true, if_false, if_true, decide_eq_true_eq, Bool.not_eq_true', decide_eq_false_iff_not, Pv.ixN0, Pv.ixN1, Pv.ixN2, true_and, and_true, Pv.cst0, Pv.cst1, Pv.cst2, Pv.cst3, Int.reduceEq, Option.bind_none, Option.bind_some, Pv.kn_go_jump, Pv.kn_go_turn, Pv.kn_go_times, Pv.kn_jump_go, Pv.kn_jump_turn, Pv.kn_jump_times, Pv.kn_turn_go, Pv.kn_turn_jump, Pv.kn_turn_times, Pv.kn_times_go, Pv.kn_times_jump, Pv.kn_times_turn, Pv.kp_go, Pv.kp_jump, Pv.kp_turn, Pv.kp_times, Pv.kz_go, Pv.kz_jump, Pv.kz_turn, Pv.kz_times, cst0]
  rw [if_neg (by decide)]
  simp only [t_law_r6, Pv.seq3, Pv.next3, Pv.never3, Pv.brk3, Pv.cnt3, Pv.drop3, Pv.ret3, Pv.retN3, Pv.ifs3, Pv.gn3, Pv.gnil3, Pv.gcons3, Pv.gtup3, Pv.set3, Pv.asg3, Pv.par3, Pv.sub3, Pv.for3, Pv.is3, Pv.ir3, Pv.ir23, Pv.v3, Pv.c3, Pv.o3, Pv.un3, Pv.b3, Pv.and3, Pv.or3, Pv.not3, Pv.andV3, Pv.orV3, Pv.notV3, Pv.if3, Pv.nil3, Pv.cons3, Pv.tup3, Pv.lst3, Pv.call3, Pv.mt3, Pv.comp3, Pv.tt3, Pv.getI, List.set_cons_zero, List.set_cons_succ, Pv.int2, Pv.int20, Pv.subR, Pv.mulR, Pv.intR, Pv.sl3, Pv.np3, Pv.pt3, Pv.slR, Pv.modR, Pv.fdivR, Pv.powR, Pv.ltR, Pv.leR, Pv.gtR, Pv.geR, Pv.negR, Pv.eqR_ii, Pv.eqR_ss, Pv.eqR_bb, Pv.eqR_is, Pv.neR_ii, Pv.neR_ss, Pv.neR_bb, Pv.inR, Pv.ixR, Pv.lenR, Pv.absR, Pv.tupR, Pv.sumR, Pv.tyN, Pv.isIn, Pv.isiR, Pv.appR, Pv.extR, Pv.smt3, Pv.joinR, Pv.splitR, Pv.startsR, Pv.pop3, Pv.lrev3, Pv.strR, Pv.start3, List.map_cons, List.map_nil, List.cons_append, List.nil_append, List.length_cons, List.length_nil, List.replicate, Pv.atI0, Pv.atI1, Pv.atI2, Nat.reduceAdd, Nat.reduceSub, Nat.zero_add, reduceIte, Pv.strs?, Bool.not_true, Bool.not_false, Bool.false_eq_true, if_false, if_true, decide_eq_true_eq, Bool.not_eq_true', decide_eq_false_iff_not, Pv.ixN0, Pv.ixN1, Pv.ixN2, true_and, and_true, Pv.cst0, Pv.cst1, Pv.cst2, Pv.cst3, Int.reduceEq, Option.bind_none, Option.bind_some, Pv.kn_go_jump, Pv.kn_go_turn, Pv.kn_go_times, Pv.kn_jump_go, Pv.kn_jump_turn, Pv.kn_jump_times, Pv.kn_turn_go, Pv.kn_turn_jump, Pv.kn_turn_times, Pv.kn_times_go, Pv.kn_times_jump, Pv.kn_times_turn, Pv.kp_go, Pv.kp_jump, Pv.kp_turn, Pv.kp_times, Pv.kz_go, Pv.kz_jump, Pv.kz_turn, Pv.kz_times]
  refine ⟨ns, 1, rfl, by decide, fun a b p ha hp => ⟨by decide, fun t ht => ?_⟩⟩
  refine add_new updM_same ht ?h1 fun s2 μ2 x2 y2 => ?_
  case h1 => show 2 + 1 ≤ sizeLine; decide
  refine ⟨s2, a, b, 9, rfl, y2, ha, by decide, fun bad μ3 hbad => ?_⟩
  simp only [Pv.seq3, Pv.next3, Pv.never3, Pv.brk3, Pv.cnt3, Pv.drop3, Pv.ret3, Pv.retN3, Pv.ifs3, Pv.gn3, Pv.gnil3, Pv.gcons3, Pv.gtup3, Pv.set3, Pv.asg3, Pv.par3, Pv.sub3, Pv.for3, Pv.is3, Pv.ir3, Pv.ir23, Pv.v3, Pv.c3, Pv.o3, Pv.un3, Pv.b3, Pv.and3, Pv.or3, Pv.not3, Pv.andV3, Pv.orV3, Pv.notV3, Pv.if3, Pv.nil3, Pv.cons3, Pv.tup3, Pv.lst3, Pv.call3, Pv.mt3, Pv.comp3, Pv.tt3, Pv.getI, List.set_cons_zero, List.set_cons_succ, Pv.int2, Pv.int20, Pv.subR, Pv.mulR, Pv.intR, Pv.sl3, Pv.np3, Pv.pt3, Pv.slR, Pv.modR, Pv.fdivR, Pv.powR, Pv.ltR, Pv.leR, Pv.gtR, Pv.geR, Pv.negR, Pv.addR, Pv.eqR_ii, Pv.eqR_ss, Pv.eqR_bb, Pv.eqR_is, Pv.neR_ii, Pv.neR_ss, Pv.neR_bb, Pv.inR, Pv.ixR, Pv.lenR, Pv.absR, Pv.tupR, Pv.sumR, Pv.tyN, Pv.isIn, Pv.isiR, Pv.appR, Pv.extR, Pv.smt3, Pv.joinR, Pv.splitR, Pv.startsR, Pv.pop3, Pv.lrev3, Pv.strR, Pv.start3, List.map_cons, List.map_nil, List.cons_append, List.nil_append, List.length_cons, List.length_nil, List.replicate, Pv.atI0, Pv.atI1, Pv.atI2, Nat.reduceAdd, Nat.reduceSub, Nat.zero_add, reduceIte, Pv.strs?, Bool.not_true, Bool.not_false, Bool.false_eq_true, if_false, if_true, decide_eq_true_eq, Bool.not_eq_true', decide_eq_false_iff_not, Pv.ixN0, Pv.ixN1, Pv.ixN2, true_and, and_true, Pv.cst0, Pv.cst1, Pv.cst2, Pv.cst3, Int.reduceEq, Option.bind_none, Option.bind_some, Pv.kn_go_jump, Pv.kn_go_turn, Pv.kn_go_times, Pv.kn_jump_go, Pv.kn_jump_turn, Pv.kn_jump_times, Pv.kn_turn_go, Pv.kn_turn_jump, Pv.kn_turn_times, Pv.kn_times_go, Pv.kn_times_jump, Pv.kn_times_turn, Pv.kp_go, Pv.kp_jump, Pv.kp_turn, Pv.kp_times, Pv.kz_go, Pv.kz_jump, Pv.kz_turn, Pv.kz_times, t_law_r7, t_law_r8]
  refine ⟨by decide, ?_⟩
  refine for_inv (fun l ρ μ' => ∃ dd, ρ = [some (.fls (ns.map D.int)), some (.tup (encs w)), some edge, some (.int (cnts w)), some bad, dd] ∧ ∀ x, x ∈ l → ∃ i : Int, x = .int i) ?_ (fun _ _ _ _ => trivial) ?_ ?_
  · refine ⟨none, rfl, fun x hx => ?_⟩
    obtain ⟨i, _, rfl⟩ := List.mem_map.mp hx
    exact ⟨_, rfl⟩
  · rintro ρ μ' ⟨dd, rfl, _⟩
    simp only [Pv.seq3, Pv.next3, Pv.never3, Pv.brk3, Pv.cnt3, Pv.drop3, Pv.ret3, Pv.retN3, Pv.ifs3, Pv.gn3, Pv.gnil3, Pv.gcons3, Pv.gtup3, Pv.set3, Pv.asg3, Pv.par3, Pv.sub3, Pv.for3, Pv.is3, Pv.ir3, Pv.ir23, Pv.v3, Pv.c3, Pv.o3, Pv.un3, Pv.b3, Pv.and3, Pv.or3, Pv.not3, Pv.andV3, Pv.orV3, Pv.notV3, Pv.if3, Pv.nil3, Pv.cons3, Pv.tup3, Pv.lst3, Pv.call3, Pv.mt3, Pv.comp3, Pv.tt3, Pv.getI, List.set_cons_zero, List.set_cons_succ, Pv.int2, Pv.int20, Pv.subR, Pv.mulR, Pv.intR, Pv.sl3, Pv.np3, Pv.pt3, Pv.slR, Pv.modR, Pv.fdivR, Pv.powR, Pv.ltR, Pv.leR, Pv.gtR, Pv.geR, Pv.negR, Pv.addR, Pv.eqR_ii, Pv.eqR_ss, Pv.eqR_bb, Pv.eqR_is, Pv.neR_ii, Pv.neR_ss, Pv.neR_bb, Pv.inR, Pv.ixR, Pv.lenR, Pv.absR, Pv.tupR, Pv.sumR, Pv.tyN, Pv.isIn, Pv.isiR, Pv.appR, Pv.extR, Pv.smt3, Pv.joinR, Pv.splitR, Pv.startsR, Pv.pop3, Pv.lrev3, Pv.strR, Pv.start3, List.map_cons, List.map_nil, List.cons_append, List.nil_append, List.length_cons, List.length_nil, List.replicate, Pv.atI0, Pv.atI1, Pv.atI2, Nat.reduceAdd, Nat.reduceSub, Nat.zero_add, reduceIte, Pv.strs?, Bool.not_true, Bool.not_false, Bool.false_eq_true, if_false, if_true, decide_eq_true_eq, Bool.not_eq_true', decide_eq_false_iff_not, Pv.ixN0, Pv.ixN1, Pv.ixN2, true_and, and_true, Pv.cst0, Pv.cst1, Pv.cst2, Pv.cst3, Int.reduceEq, Option.bind_none, Option.bind_some, Pv.kn_go_jump, Pv.kn_go_turn, Pv.kn_go_times, Pv.kn_jump_go, Pv.kn_jump_turn, Pv.kn_jump_times, Pv.kn_turn_go, Pv.kn_turn_jump, Pv.kn_turn_times, Pv.kn_times_go, Pv.kn_times_jump, Pv.kn_times_turn, Pv.kp_go, Pv.kp_jump, Pv.kp_turn, Pv.kp_times, Pv.kz_go, Pv.kz_jump, Pv.kz_turn, Pv.kz_times, cst0]
    exact q μ'
  · rintro x rest ρ μ' ⟨dd, rfl, hx⟩
    obtain ⟨way, rfl⟩ := hx x (by simp)
    simp only [Pv.seq3, Pv.next3, Pv.never3, Pv.brk3, Pv.cnt3, Pv.drop3, Pv.ret3, Pv.retN3, Pv.ifs3, Pv.gn3, Pv.gnil3, Pv.gcons3, Pv.gtup3, Pv.set3, Pv.asg3, Pv.par3, Pv.sub3, Pv.for3, Pv.is3, Pv.ir3, Pv.ir23, Pv.v3, Pv.c3, Pv.o3, Pv.un3, Pv.b3, Pv.and3, Pv.or3, Pv.not3, Pv.andV3, Pv.orV3, Pv.notV3, Pv.if3, Pv.nil3, Pv.cons3, Pv.tup3, Pv.lst3, Pv.call3, Pv.mt3, Pv.comp3, Pv.tt3, Pv.getI, List.set_cons_zero, List.set_cons_succ, Pv.int2, Pv.int20, Pv.subR, Pv.mulR, Pv.intR, Pv.sl3, Pv.np3, Pv.pt3, Pv.slR, Pv.modR, Pv.fdivR, Pv.powR, Pv.ltR, Pv.leR, Pv.gtR, Pv.geR, Pv.negR, Pv.addR, Pv.eqR_ii, Pv.eqR_ss, Pv.eqR_bb, Pv.eqR_is, Pv.neR_ii, Pv.neR_ss, Pv.neR_bb, Pv.inR, Pv.ixR, Pv.lenR, Pv.absR, Pv.tupR, Pv.sumR, Pv.tyN, Pv.isIn, Pv.isiR, Pv.appR, Pv.extR, Pv.smt3, Pv.joinR, Pv.splitR, Pv.startsR, Pv.pop3, Pv.lrev3, Pv.strR, Pv.start3, List.map_cons, List.map_nil, List.cons_append, List.nil_append, List.length_cons, List.length_nil, List.replicate, Pv.atI0, Pv.atI1, Pv.atI2, Nat.reduceAdd, Nat.reduceSub, Nat.zero_add, reduceIte, Pv.strs?, Bool.not_true, Bool.not_false, Bool.false_eq_true, if_false, if_true, decide_eq_true_eq, Bool.not_eq_true', decide_eq_false_iff_not, Pv.ixN0, Pv.ixN1, Pv.ixN2, true_and, and_true, Pv.cst0, Pv.cst1, Pv.cst2, Pv.cst3, Int.reduceEq, Option.bind_none, Option.bind_some, Pv.kn_go_jump, Pv.kn_go_turn, Pv.kn_go_times, Pv.kn_jump_go, Pv.kn_jump_turn, Pv.kn_jump_times, Pv.kn_turn_go, Pv.kn_turn_jump, Pv.kn_turn_times, Pv.kn_times_go, Pv.kn_times_jump, Pv.kn_times_turn, Pv.kp_go, Pv.kp_jump, Pv.kp_turn, Pv.kp_times, Pv.kz_go, Pv.kz_jump, Pv.kz_turn, Pv.kz_times, cst0]
    refine ⟨way, bad, rfl, .inr ⟨hbad, fun r μ4 e4 y4 => ⟨r, rfl, y4, fun μ5 e5 => ?_⟩⟩⟩
    simp only [Pv.seq3, Pv.next3, Pv.never3, Pv.brk3, Pv.cnt3, Pv.drop3, Pv.ret3, Pv.retN3, Pv.ifs3, Pv.gn3, Pv.gnil3, Pv.gcons3, Pv.gtup3, Pv.set3, Pv.asg3, Pv.par3, Pv.sub3, Pv.for3, Pv.is3, Pv.ir3, Pv.ir23, Pv.v3, Pv.c3, Pv.o3, Pv.un3, Pv.b3, Pv.and3, Pv.or3, Pv.not3, Pv.andV3, Pv.orV3, Pv.notV3, Pv.if3, Pv.nil3, Pv.cons3, Pv.tup3, Pv.lst3, Pv.call3, Pv.mt3, Pv.comp3, Pv.tt3, Pv.getI, List.set_cons_zero, List.set_cons_succ, Pv.int2, Pv.int20, Pv.subR, Pv.mulR, Pv.intR, Pv.sl3, Pv.np3, Pv.pt3, Pv.slR, Pv.modR, Pv.fdivR, Pv.powR, Pv.ltR, Pv.leR, Pv.gtR, Pv.geR, Pv.negR, Pv.addR, Pv.eqR_ii, Pv.eqR_ss, Pv.eqR_bb, Pv.eqR_is, Pv.neR_ii, Pv.neR_ss, Pv.neR_bb, Pv.inR, Pv.ixR, Pv.lenR, Pv.absR, Pv.tupR, Pv.sumR, Pv.tyN, Pv.isIn, Pv.isiR, Pv.appR, Pv.extR, Pv.smt3, Pv.joinR, Pv.splitR, Pv.startsR, Pv.pop3, Pv.lrev3, Pv.strR, Pv.start3, List.map_cons, List.map_nil, List.cons_append, List.nil_append, List.length_cons, List.length_nil, List.replicate, Pv.atI0, Pv.atI1, Pv.atI2, Nat.reduceAdd, Nat.reduceSub, Nat.zero_add, reduceIte, Pv.strs?, Bool.not_true, Bool.not_false, Bool.false_eq_true, if_false, if_true, decide_eq_true_eq, Bool.not_eq_true', decide_eq_false_iff_not, Pv.ixN0, Pv.ixN1, Pv.ixN2, true_and, and_true, Pv.cst0, Pv.cst1, Pv.cst2, Pv.cst3, Int.reduceEq, Option.bind_none, Option.bind_some, Pv.kn_go_jump, Pv.kn_go_turn, Pv.kn_go_times, Pv.kn_jump_go, Pv.kn_jump_turn, Pv.kn_jump_times, Pv.kn_turn_go, Pv.kn_turn_jump, Pv.kn_turn_times, Pv.kn_times_go, Pv.kn_times_jump, Pv.kn_times_turn, Pv.kp_go, Pv.kp_jump, Pv.kp_turn, Pv.kp_times, Pv.kz_go, Pv.kz_jump, Pv.kz_turn, Pv.kz_times, cst0]
    refine ⟨way, _, rfl, .inl ⟨w, rfl, hw, fun z μ6 e6 y6 => ⟨by decide, fun t ht => ?_⟩⟩⟩
    have hzt : z ≠ t := ne_free y6 ht
    have d1 : datM (updM μ6 t (.lst [])) (.ref z) = some (.list []) := by simp only [datM, updM_ne hzt, y6, dats]
    have d2 : datM (updM μ6 t (.lst [])) (.ref t) = some (.list []) := by simp only [datM, updM_same, dats]
    rw [neR_dat rfl d1 d2 (by decide) (by decide)]
    have ev : PyData.eqv (.list []) (.list []) = true := by decide
    simp only [Pv.seq3, Pv.next3, Pv.never3, Pv.brk3, Pv.cnt3, Pv.drop3, Pv.ret3, Pv.retN3, Pv.ifs3, Pv.gn3, Pv.gnil3, Pv.gcons3, Pv.gtup3, Pv.set3, Pv.asg3, Pv.par3, Pv.sub3, Pv.for3, Pv.is3, Pv.ir3, Pv.ir23, Pv.v3, Pv.c3, Pv.o3, Pv.un3, Pv.b3, Pv.and3, Pv.or3, Pv.not3, Pv.andV3, Pv.orV3, Pv.notV3, Pv.if3, Pv.nil3, Pv.cons3, Pv.tup3, Pv.lst3, Pv.call3, Pv.mt3, Pv.comp3, Pv.tt3, Pv.getI, List.set_cons_zero, List.set_cons_succ, Pv.int2, Pv.int20, Pv.subR, Pv.mulR, Pv.intR, Pv.sl3, Pv.np3, Pv.pt3, Pv.slR, Pv.modR, Pv.fdivR, Pv.powR, Pv.ltR, Pv.leR, Pv.gtR, Pv.geR, Pv.negR, Pv.addR, Pv.eqR_ii, Pv.eqR_ss, Pv.eqR_bb, Pv.eqR_is, Pv.neR_ii, Pv.neR_ss, Pv.neR_bb, Pv.inR, Pv.ixR, Pv.lenR, Pv.absR, Pv.tupR, Pv.sumR, Pv.tyN, Pv.isIn, Pv.isiR, Pv.appR, Pv.extR, Pv.smt3, Pv.joinR, Pv.splitR, Pv.startsR, Pv.pop3, Pv.lrev3, Pv.strR, Pv.start3, List.map_cons, List.map_nil, List.cons_append, List.nil_append, List.length_cons, List.length_nil, List.replicate, Pv.atI0, Pv.atI1, Pv.atI2, Nat.reduceAdd, Nat.reduceSub, Nat.zero_add, reduceIte, Pv.strs?, Bool.not_true, Bool.not_false, Bool.false_eq_true, if_false, if_true, decide_eq_true_eq, Bool.not_eq_true', decide_eq_false_iff_not, Pv.ixN0, Pv.ixN1, Pv.ixN2, true_and, and_true, Pv.cst0, Pv.cst1, Pv.cst2, Pv.cst3, Int.reduceEq, Option.bind_none, Option.bind_some, Pv.kn_go_jump, Pv.kn_go_turn, Pv.kn_go_times, Pv.kn_jump_go, Pv.kn_jump_turn, Pv.kn_jump_times, Pv.kn_turn_go, Pv.kn_turn_jump, Pv.kn_turn_times, Pv.kn_times_go, Pv.kn_times_jump, Pv.kn_times_turn, Pv.kp_go, Pv.kp_jump, Pv.kp_turn, Pv.kp_times, Pv.kz_go, Pv.kz_jump, Pv.kz_turn, Pv.kz_times, ev]
    exact ⟨some (.int way), rfl, fun y hy => hx y (List.mem_cons_of_mem _ hy)⟩
noncomputable def wE1 : List Dd := Dd.times 3 (List.replicate 14 (.go G)) :: List.replicate 15 (.turn (-G))
theorem encs_rep (d : Dd) : ∀ n, encs (List.replicate n d) = List.replicate n (enc d)
  | 0 => by simp [encs]
  | n + 1 => by simp only [List.replicate, encs, encs_rep d n]
theorem wE1_ok : Wd wE1 := by
  refine ⟨?_, ?_, ?_⟩
  · simp only [wE1, List.replicate, oks, okd, G]; decide
  · simp only [wE1, List.replicate, deps, dep]; decide
  · simp only [wE1, List.replicate, cnts, cnt]; decide
noncomputable def wE2 : List Dd := nst [.jump (-G)] 4
theorem wE2_ok : Wd wE2 := by
  refine ⟨?_, ?_, ?_⟩
  · simp only [wE2, nst, oks, okd, G]; decide
  · simp only [wE2, nst, deps, dep]; decide
  · simp only [wE2, nst, cnts, cnt]; decide
theorem rd_law (ds : List D) (μ : Mu) (Q : VK3) (h : spLaw ds μ Q) : TL t_law (EL Q) (start3 N_law ds) μ := by
  obtain ⟨ns, rfl, hl, q⟩ := h
  have tail := law_tail Q q ns
  have c1 : CPow 10 20 := ⟨by decide, by decide, by decide⟩
  have e1 : ((10 : Int) ^ (20 : Int).toNat) = 100000000000000000000 := by decide
  simp only [TL] at tail
  simp only [Pv.seq3, Pv.next3, Pv.never3, Pv.brk3, Pv.cnt3, Pv.drop3, Pv.ret3, Pv.retN3, Pv.ifs3, Pv.gn3, Pv.gnil3, Pv.gcons3, Pv.gtup3, Pv.set3, Pv.asg3, Pv.par3, Pv.sub3, Pv.for3, Pv.is3, Pv.ir3, Pv.ir23, Pv.v3, Pv.c3, Pv.o3, Pv.un3, Pv.b3, Pv.and3, Pv.or3, Pv.not3, Pv.andV3, Pv.orV3, Pv.notV3, Pv.if3, Pv.nil3, Pv.cons3, Pv.tup3, Pv.lst3, Pv.call3, Pv.mt3, Pv.comp3, Pv.tt3, Pv.getI, List.set_cons_zero, List.set_cons_succ, Pv.int2, Pv.int20, Pv.subR, Pv.mulR, Pv.intR, Pv.sl3, Pv.np3, Pv.pt3, Pv.slR, Pv.modR, Pv.fdivR, Pv.powR, Pv.ltR, Pv.leR, Pv.gtR, Pv.geR, Pv.negR, Pv.addR, Pv.eqR_ii, Pv.eqR_ss, Pv.eqR_bb, Pv.eqR_is, Pv.neR_ii, Pv.neR_ss, Pv.neR_bb, Pv.inR, Pv.ixR, Pv.lenR, Pv.absR, Pv.tupR, Pv.sumR, Pv.tyN, Pv.isIn, Pv.isiR, Pv.appR, Pv.extR, Pv.smt3, Pv.joinR, Pv.splitR, Pv.startsR, Pv.pop3, Pv.lrev3, Pv.strR, Pv.start3, List.map_cons, List.map_nil, List.cons_append, List.nil_append, List.length_cons, List.length_nil, List.replicate, Pv.atI0, Pv.atI1, Pv.atI2, Nat.reduceAdd, Nat.reduceSub, Nat.zero_add, reduceIte, Pv.strs?, Bool.not_true, Bool.not_false, Bool.false_eq_true, if_false, if_true, decide_eq_true_eq, Bool.not_eq_true', decide_eq_false_iff_not, Pv.ixN0, Pv.ixN1, Pv.ixN2, true_and, and_true, Pv.cst0, Pv.cst1, Pv.cst2, Pv.cst3, Int.reduceEq, Option.bind_none, Option.bind_some, Pv.kn_go_jump, Pv.kn_go_turn, Pv.kn_go_times, Pv.kn_jump_go, Pv.kn_jump_turn, Pv.kn_jump_times, Pv.kn_turn_go, Pv.kn_turn_jump, Pv.kn_turn_times, Pv.kn_times_go, Pv.kn_times_jump, Pv.kn_times_turn, Pv.kp_go, Pv.kp_jump, Pv.kp_turn, Pv.kp_times, Pv.kz_go, Pv.kz_jump, Pv.kz_turn, Pv.kz_times, TL, t_law, t_law_r1, N_law]
  refine ⟨ns, 0, 4, 30, rfl, by decide, by decide, by decide, by decide, fun w μ1 x1 x2 x3 x4 x5 => ?_⟩
  have hw : Wd w := ⟨sms_ok w x4, by omega, by omega⟩
  simp only [Pv.seq3, Pv.next3, Pv.never3, Pv.brk3, Pv.cnt3, Pv.drop3, Pv.ret3, Pv.retN3, Pv.ifs3, Pv.gn3, Pv.gnil3, Pv.gcons3, Pv.gtup3, Pv.set3, Pv.asg3, Pv.par3, Pv.sub3, Pv.for3, Pv.is3, Pv.ir3, Pv.ir23, Pv.v3, Pv.c3, Pv.o3, Pv.un3, Pv.b3, Pv.and3, Pv.or3, Pv.not3, Pv.andV3, Pv.orV3, Pv.notV3, Pv.if3, Pv.nil3, Pv.cons3, Pv.tup3, Pv.lst3, Pv.call3, Pv.mt3, Pv.comp3, Pv.tt3, Pv.getI, List.set_cons_zero, List.set_cons_succ, Pv.int2, Pv.int20, Pv.subR, Pv.mulR, Pv.intR, Pv.sl3, Pv.np3, Pv.pt3, Pv.slR, Pv.modR, Pv.fdivR, Pv.powR, Pv.ltR, Pv.leR, Pv.gtR, Pv.geR, Pv.negR, Pv.addR, Pv.eqR_ii, Pv.eqR_ss, Pv.eqR_bb, Pv.eqR_is, Pv.neR_ii, Pv.neR_ss, Pv.neR_bb, Pv.inR, Pv.ixR, Pv.lenR, Pv.absR, Pv.tupR, Pv.sumR, Pv.tyN, Pv.isIn, Pv.isiR, Pv.appR, Pv.extR, Pv.smt3, Pv.joinR, Pv.splitR, Pv.startsR, Pv.pop3, Pv.lrev3, Pv.strR, Pv.start3, List.map_cons, List.map_nil, List.cons_append, List.nil_append, List.length_cons, List.length_nil, List.replicate, Pv.atI0, Pv.atI1, Pv.atI2, Nat.reduceAdd, Nat.reduceSub, Nat.zero_add, reduceIte, Pv.strs?, Bool.not_true, Bool.not_false, Bool.false_eq_true, if_false, if_true, decide_eq_true_eq, Bool.not_eq_true', decide_eq_false_iff_not, Pv.ixN0, Pv.ixN1, Pv.ixN2, true_and, and_true, Pv.cst0, Pv.cst1, Pv.cst2, Pv.cst3, Int.reduceEq, Option.bind_none, Option.bind_some, Pv.kn_go_jump, Pv.kn_go_turn, Pv.kn_go_times, Pv.kn_jump_go, Pv.kn_jump_turn, Pv.kn_jump_times, Pv.kn_turn_go, Pv.kn_turn_jump, Pv.kn_turn_times, Pv.kn_times_go, Pv.kn_times_jump, Pv.kn_times_turn, Pv.kp_go, Pv.kp_jump, Pv.kp_turn, Pv.kp_times, Pv.kz_go, Pv.kz_jump, Pv.kz_turn, Pv.kz_times, cst0]
  refine ⟨ns, 2, rfl, by decide, fun i => ⟨by decide, ?_⟩⟩
  have last : ∀ (w : List Dd), Wd w → ∀ μ, TL t_law_r3 (EL Q) [some (.fls (ns.map D.int)), some (.tup (encs w)), some (.int (i % 16)), none, none, none] μ := fun w hw μ => by
    simp only [Pv.seq3, Pv.next3, Pv.never3, Pv.brk3, Pv.cnt3, Pv.drop3, Pv.ret3, Pv.retN3, Pv.ifs3, Pv.gn3, Pv.gnil3, Pv.gcons3, Pv.gtup3, Pv.set3, Pv.asg3, Pv.par3, Pv.sub3, Pv.for3, Pv.is3, Pv.ir3, Pv.ir23, Pv.v3, Pv.c3, Pv.o3, Pv.un3, Pv.b3, Pv.and3, Pv.or3, Pv.not3, Pv.andV3, Pv.orV3, Pv.notV3, Pv.if3, Pv.nil3, Pv.cons3, Pv.tup3, Pv.lst3, Pv.call3, Pv.mt3, Pv.comp3, Pv.tt3, Pv.getI, List.set_cons_zero, List.set_cons_succ, Pv.int2, Pv.int20, Pv.subR, Pv.mulR, Pv.intR, Pv.sl3, Pv.np3, Pv.pt3, Pv.slR, Pv.modR, Pv.fdivR, Pv.powR, Pv.ltR, Pv.leR, Pv.gtR, Pv.geR, Pv.negR, Pv.addR, Pv.eqR_ii, Pv.eqR_ss, Pv.eqR_bb, Pv.eqR_is, Pv.neR_ii, Pv.neR_ss, Pv.neR_bb, Pv.inR, Pv.ixR, Pv.lenR, Pv.absR, Pv.tupR, Pv.sumR, Pv.tyN, Pv.isIn, Pv.isiR, Pv.appR, Pv.extR, Pv.smt3, Pv.joinR, Pv.splitR, Pv.startsR, Pv.pop3, Pv.lrev3, Pv.strR, Pv.start3, List.map_cons, List.map_nil, List.cons_append, List.nil_append, List.length_cons, List.length_nil, List.replicate, Pv.atI0, Pv.atI1, Pv.atI2, Nat.reduceAdd, Nat.reduceSub, Nat.zero_add, reduceIte, Pv.strs?, Bool.not_true, Bool.not_false, Bool.false_eq_true, if_false, if_true, decide_eq_true_eq, Bool.not_eq_true', decide_eq_false_iff_not, Pv.ixN0, Pv.ixN1, Pv.ixN2, true_and, and_true, Pv.cst0, Pv.cst1, Pv.cst2, Pv.cst3, Int.reduceEq, Option.bind_none, Option.bind_some, Pv.kn_go_jump, Pv.kn_go_turn, Pv.kn_go_times, Pv.kn_jump_go, Pv.kn_jump_turn, Pv.kn_jump_times, Pv.kn_turn_go, Pv.kn_turn_jump, Pv.kn_turn_times, Pv.kn_times_go, Pv.kn_times_jump, Pv.kn_times_turn, Pv.kp_go, Pv.kp_jump, Pv.kp_turn, Pv.kp_times, Pv.kz_go, Pv.kz_jump, Pv.kz_turn, Pv.kz_times, TL, t_law_r3, c1, e1]
    split
    · refine ⟨by decide, by decide, 4, [.jump (-G)], rfl, by decide, by decide, ?_⟩
      exact tail wE2 wE2_ok _ _
    · exact tail w hw _ _
  simp only [TL] at last
  simp only [Pv.seq3, Pv.next3, Pv.never3, Pv.brk3, Pv.cnt3, Pv.drop3, Pv.ret3, Pv.retN3, Pv.ifs3, Pv.gn3, Pv.gnil3, Pv.gcons3, Pv.gtup3, Pv.set3, Pv.asg3, Pv.par3, Pv.sub3, Pv.for3, Pv.is3, Pv.ir3, Pv.ir23, Pv.v3, Pv.c3, Pv.o3, Pv.un3, Pv.b3, Pv.and3, Pv.or3, Pv.not3, Pv.andV3, Pv.orV3, Pv.notV3, Pv.if3, Pv.nil3, Pv.cons3, Pv.tup3, Pv.lst3, Pv.call3, Pv.mt3, Pv.comp3, Pv.tt3, Pv.getI, List.set_cons_zero, List.set_cons_succ, Pv.int2, Pv.int20, Pv.subR, Pv.mulR, Pv.intR, Pv.sl3, Pv.np3, Pv.pt3, Pv.slR, Pv.modR, Pv.fdivR, Pv.powR, Pv.ltR, Pv.leR, Pv.gtR, Pv.geR, Pv.negR, Pv.addR, Pv.eqR_ii, Pv.eqR_ss, Pv.eqR_bb, Pv.eqR_is, Pv.neR_ii, Pv.neR_ss, Pv.neR_bb, Pv.inR, Pv.ixR, Pv.lenR, Pv.absR, Pv.tupR, Pv.sumR, Pv.tyN, Pv.isIn, Pv.isiR, Pv.appR, Pv.extR, Pv.smt3, Pv.joinR, Pv.splitR, Pv.startsR, Pv.pop3, Pv.lrev3, Pv.strR, Pv.start3, List.map_cons, List.map_nil, List.cons_append, List.nil_append, List.length_cons, List.length_nil, List.replicate, Pv.atI0, Pv.atI1, Pv.atI2, Nat.reduceAdd, Nat.reduceSub, Nat.zero_add, reduceIte, Pv.strs?, Bool.not_true, Bool.not_false, Bool.false_eq_true, if_false, if_true, decide_eq_true_eq, Bool.not_eq_true', decide_eq_false_iff_not, Pv.ixN0, Pv.ixN1, Pv.ixN2, true_and, and_true, Pv.cst0, Pv.cst1, Pv.cst2, Pv.cst3, Int.reduceEq, Option.bind_none, Option.bind_some, Pv.kn_go_jump, Pv.kn_go_turn, Pv.kn_go_times, Pv.kn_jump_go, Pv.kn_jump_turn, Pv.kn_jump_times, Pv.kn_turn_go, Pv.kn_turn_jump, Pv.kn_turn_times, Pv.kn_times_go, Pv.kn_times_jump, Pv.kn_times_turn, Pv.kp_go, Pv.kp_jump, Pv.kp_turn, Pv.kp_times, Pv.kz_go, Pv.kz_jump, Pv.kz_turn, Pv.kz_times, t_law_r2, c1, e1]
  split
  · refine ⟨by decide, by decide, ⟨⟨by decide, by decide⟩, by decide⟩, by decide, by decide, by decide, by decide, ⟨⟨by decide, by decide⟩, by decide⟩, by decide, ?_⟩
    have e : (D.tup [.str "times", .int 3, .tup (List.replicate (14 : Int).toNat [D.tup [.str "go", .int (100000000000000000000 - 1)]]).flatten] :: (List.replicate (15 : Int).toNat [D.tup [.str "turn", .int (1 - 100000000000000000000)]]).flatten) = encs wE1 := by
      simp only [wE1, encs, enc, encs_rep, fl1]; rfl
    rw [e]
    exact last wE1 wE1_ok _
  · exact last w hw _
end Pv

namespace Pv
open PySem PySem.Spec PyProof.Rows L2
noncomputable def top (i : Nat) : Stmt := PySem.Challenge.pw_penwright_k01_what_is_a_word.main.body.getD i (.Pass ⟨0, 0, 0, 0⟩)
section
variable {P : Program} {w : World} {K : Fg} {mg : Str → Option Value} {base : Heap}
noncomputable abbrev s_deeds_in : Stmt := top 17
theorem sc_deeds_in : FnScope N_deeds_in ["word"] (defScope s_deeds_in) := ⟨rfl, rfl, rfl, by decide +kernel, rfl, by decide +kernel, by decide +kernel⟩
theorem rs_deeds_in {k : Nat} {f : Addr} {cdv : Value} {A : Around} {outer : List Env} {s : Shared} {H : Hp} {E : XK} {XE : XE3} (EX : EXok K mg XE E) {spx_checked_count : XE3 → Sp3} {k_checked_count : Nat} (c_checked_count : CalX P w K mg base k_checked_count "checked_count" ["word", "depth"] spx_checked_count) (l_checked_count : k_checked_count ≤ k) (hr : Room k (A.deeper (envOfC "deeds_in" (defScope s_deeds_in) s.heap.objs.size f cdv))) :
    RSs (cxOf (CXn P w) P w K mg base N_deeds_in "deeds_in" (defScope s_deeds_in) f cdv A outer s H E) (defBody s_deeds_in) (t_deeds_in XE spx_checked_count) :=
  (rss_one (rs_ret (re_callX EX (c_checked_count.mono l_checked_count) hr (ra_cons (re_var 0) (ra_cons re_int ra_nil)))))
noncomputable abbrev s_check_word : Stmt := top 18
theorem sc_check_word : FnScope N_check_word ["word"] (defScope s_check_word) := ⟨rfl, rfl, rfl, by decide +kernel, rfl, by decide +kernel, by decide +kernel⟩
theorem rs_check_word {k : Nat} {f : Addr} {cdv : Value} {A : Around} {outer : List Env} {s : Shared} {H : Hp} {E : XK} {XE : XE3} (EX : EXok K mg XE E) {spx_checked_count : XE3 → Sp3} {k_checked_count : Nat} (c_checked_count : CalX P w K mg base k_checked_count "checked_count" ["word", "depth"] spx_checked_count) (l_checked_count : k_checked_count ≤ k) (hr : Room k (A.deeper (envOfC "check_word" (defScope s_check_word) s.heap.objs.size f cdv))) :
    RSs (cxOf (CXn P w) P w K mg base N_check_word "check_word" (defScope s_check_word) f cdv A outer s H E) (defBody s_check_word) (t_check_word XE spx_checked_count) :=
  (rss_one (rs_expr (re_callX EX (c_checked_count.mono l_checked_count) hr (ra_cons (re_var 0) (ra_cons re_int ra_nil)))))
noncomputable abbrev s_checked_count : Stmt := top 19
theorem sc_checked_count : FnScope N_checked_count ["word", "depth"] (defScope s_checked_count) := ⟨rfl, rfl, rfl, by decide +kernel, rfl, by decide +kernel, by decide +kernel⟩
theorem rs_checked_count {k : Nat} {f : Addr} {cdv : Value} {A : Around} {outer : List Env} {s : Shared} {H : Hp} {E : XK} {XE : XE3} (EX : EXok K mg XE E) {spx_checked_deed_count : XE3 → Sp3} {k_checked_deed_count : Nat} (c_checked_deed_count : CalX P w K mg base k_checked_deed_count "checked_deed_count" ["deed", "depth"] spx_checked_deed_count) (l_checked_deed_count : k_checked_deed_count ≤ k) {C_NoWord : Addr} (O_NoWord : OwnCls "NoWord" C_NoWord [.type "ValueError", .type "Exception", .type "BaseException", .type "object"] "ValueError.__new__" mg base) (z_isinstance : mg "isinstance" = none) (z_tuple : mg "tuple" = none) (g_MOST_DEEDS : Gd K mg "MOST_DEEDS" k_MOST_DEEDS) (g_MOST_DEEP : Gd K mg "MOST_DEEP" k_MOST_DEEP) (hr : Room k (A.deeper (envOfC "checked_count" (defScope s_checked_count) s.heap.objs.size f cdv))) :
    RSs (cxOf (CXn P w) P w K mg base N_checked_count "checked_count" (defScope s_checked_count) f cdv A outer s H E) (defBody s_checked_count) (t_checked_count XE spx_checked_deed_count) :=
  (rss_cons (rs_if (rt_not (rt_val (re_callB q_isi z_isinstance bz_isinstance (ra_cons (re_var 0) (ra_cons (re_ty z_tuple bz_tuple) ra_nil))))) (rss_one (rs_raise EX O_NoWord PySem.F.excBase_ValueError (by decide) PySem.F.excBase_ValueError (ra_cons re_str ra_nil))) rss_nil) (rss_cons (rs_if (rt_cmp q_gt (re_var 1) (re_g g_MOST_DEEP)) (rss_one (rs_raise EX O_NoWord PySem.F.excBase_ValueError (by decide) PySem.F.excBase_ValueError (ra_cons re_str ra_nil))) rss_nil) (rss_cons (rs_set (i := 2) sc_checked_count.nd re_int) (rss_cons (rs_for PassesOwn.leaving rfl (ri_seq (re_var 0)) (rg_name (i := 3) sc_checked_count.nd) (rss_cons (rs_set (i := 2) sc_checked_count.nd (re_op q_add (re_var 2) (re_callX EX (c_checked_deed_count.mono l_checked_deed_count) hr (ra_cons (re_var 3) (ra_cons (re_var 1) ra_nil))))) (rss_one (rs_if (rt_cmp q_gt (re_var 2) (re_g g_MOST_DEEDS)) (rss_one (rs_raise EX O_NoWord PySem.F.excBase_ValueError (by decide) PySem.F.excBase_ValueError (ra_cons re_str ra_nil))) rss_nil)))) (rss_one (rs_ret (re_var 2)))))))
noncomputable abbrev s_checked_deed_count : Stmt := top 20
theorem sc_checked_deed_count : FnScope N_checked_deed_count ["deed", "depth"] (defScope s_checked_deed_count) := ⟨rfl, rfl, rfl, by decide +kernel, rfl, by decide +kernel, by decide +kernel⟩
theorem rs_checked_deed_count {k : Nat} {f : Addr} {cdv : Value} {A : Around} {outer : List Env} {s : Shared} {H : Hp} {E : XK} {XE : XE3} (EX : EXok K mg XE E) {spx_check_number : XE3 → Sp3} {k_check_number : Nat} (c_check_number : CalX P w K mg base k_check_number "check_number" ["kind", "number"] spx_check_number) (l_check_number : k_check_number ≤ k) {spx_checked_count : XE3 → Sp3} {k_checked_count : Nat} (c_checked_count : CalX P w K mg base k_checked_count "checked_count" ["word", "depth"] spx_checked_count) (l_checked_count : k_checked_count ≤ k) {C_NoWord : Addr} (O_NoWord : OwnCls "NoWord" C_NoWord [.type "ValueError", .type "Exception", .type "BaseException", .type "object"] "ValueError.__new__" mg base) (z_isinstance : mg "isinstance" = none) (z_len : mg "len" = none) (z_tuple : mg "tuple" = none) (g_PLAIN_KINDS : Gd K mg "PLAIN_KINDS" k_PLAIN_KINDS) (hr : Room k (A.deeper (envOfC "checked_deed_count" (defScope s_checked_deed_count) s.heap.objs.size f cdv))) :
    RSs (cxOf (CXn P w) P w K mg base N_checked_deed_count "checked_deed_count" (defScope s_checked_deed_count) f cdv A outer s H E) (defBody s_checked_deed_count) (t_checked_deed_count XE spx_check_number spx_checked_count) :=
  (rss_cons (rs_if (rt_not (rt_val (re_callB q_isi z_isinstance bz_isinstance (ra_cons (re_var 0) (ra_cons (re_ty z_tuple bz_tuple) ra_nil))))) (rss_one (rs_raise EX O_NoWord PySem.F.excBase_ValueError (by decide) PySem.F.excBase_ValueError (ra_cons re_str ra_nil))) rss_nil) (rss_cons (rs_if (rw_pt (rw_and (rt_cmp (q_eq (hu64 hr)) (re_callB q_len z_len bz_len (ra_cons (re_var 0) ra_nil)) re_int) (rw_and1 (rt_cmp (q_in (hu65 hr)) (re_ix q_ix (re_var 0) re_int) (re_g g_PLAIN_KINDS))))) (rss_cons (rs_expr (re_callX EX (c_check_number.mono l_check_number) hr (ra_cons (re_ix q_ix (re_var 0) re_int) (ra_cons (re_ix q_ix (re_var 0) re_int) ra_nil)))) (rss_one (rs_ret re_int))) rss_nil) (rss_cons (rs_if (rw_pt (rw_and (rt_cmp (q_eq (hu64 hr)) (re_callB q_len z_len bz_len (ra_cons (re_var 0) ra_nil)) re_int) (rw_and1 (rt_cmp (q_eq (hu64 hr)) (re_ix q_ix (re_var 0) re_int) re_str)))) (rss_cons (rs_expr (re_callX EX (c_check_number.mono l_check_number) hr (ra_cons (re_ix q_ix (re_var 0) re_int) (ra_cons (re_ix q_ix (re_var 0) re_int) ra_nil)))) (rss_one (rs_ret (re_op q_add re_int (re_callX EX (c_checked_count.mono l_checked_count) hr (ra_cons (re_ix q_ix (re_var 0) re_int) (ra_cons (re_op q_add (re_var 1) re_int) ra_nil))))))) rss_nil) (rss_one (rs_raise EX O_NoWord PySem.F.excBase_ValueError (by decide) PySem.F.excBase_ValueError (ra_cons re_str ra_nil))))))
noncomputable abbrev s_check_number : Stmt := top 21
theorem sc_check_number : FnScope N_check_number ["kind", "number"] (defScope s_check_number) := ⟨rfl, rfl, rfl, by decide +kernel, rfl, by decide +kernel, by decide +kernel⟩
theorem rs_check_number {k : Nat} {f : Addr} {cdv : Value} {A : Around} {outer : List Env} {s : Shared} {H : Hp} {E : XK} {XE : XE3} (EX : EXok K mg XE E) {C_NoWord : Addr} (O_NoWord : OwnCls "NoWord" C_NoWord [.type "ValueError", .type "Exception", .type "BaseException", .type "object"] "ValueError.__new__" mg base) (z_abs : mg "abs" = none) (z_int : mg "int" = none) (z_isinstance : mg "isinstance" = none) (g_GREATEST_NUMBER : Gd K mg "GREATEST_NUMBER" k_GREATEST_NUMBER) (g_KINDS_FROM_NOUGHT : Gd K mg "KINDS_FROM_NOUGHT" k_KINDS_FROM_NOUGHT) (hr : Room k (A.deeper (envOfC "check_number" (defScope s_check_number) s.heap.objs.size f cdv))) :
    RSs (cxOf (CXn P w) P w K mg base N_check_number "check_number" (defScope s_check_number) f cdv A outer s H E) (defBody s_check_number) (t_check_number XE) :=
  (rss_cons (rs_if (rt_not (rt_val (re_callB q_isi z_isinstance bz_isinstance (ra_cons (re_var 1) (ra_cons (re_ty z_int bz_int) ra_nil))))) (rss_one (rs_raise EX O_NoWord PySem.F.excBase_ValueError (by decide) PySem.F.excBase_ValueError (ra_cons re_str ra_nil))) rss_nil) (rss_cons (rs_if (rt_cmp q_gt (re_callB q_abs z_abs bz_abs (ra_cons (re_var 1) ra_nil)) (re_g g_GREATEST_NUMBER)) (rss_one (rs_raise EX O_NoWord PySem.F.excBase_ValueError (by decide) PySem.F.excBase_ValueError (ra_cons re_str ra_nil))) rss_nil) (rss_one (rs_if (rw_pt (rw_and (rt_cmp q_lt (re_var 1) re_int) (rw_and1 (rt_cmp (q_in (hu65 hr)) (re_var 0) (re_g g_KINDS_FROM_NOUGHT))))) (rss_one (rs_raise EX O_NoWord PySem.F.excBase_ValueError (by decide) PySem.F.excBase_ValueError (ra_cons re_str ra_nil))) rss_nil))))
noncomputable abbrev s_pen_after : Stmt := top 22
theorem sc_pen_after : FnScope N_pen_after ["word"] (defScope s_pen_after) := ⟨rfl, rfl, rfl, by decide +kernel, rfl, by decide +kernel, by decide +kernel⟩
theorem rs_pen_after {k : Nat} {f : Addr} {cdv : Value} {A : Around} {outer : List Env} {s : Shared} {H : Hp} {E : XK} {XE : XE3} (EX : EXok K mg XE E) {spx_carried : XE3 → Sp3} {k_carried : Nat} (c_carried : CalX P w K mg base k_carried "carried" ["pen", "word"] spx_carried) (l_carried : k_carried ≤ k) (g_START : Gd K mg "START" k_START) (hr : Room k (A.deeper (envOfC "pen_after" (defScope s_pen_after) s.heap.objs.size f cdv))) :
    RSs (cxOf (CXn P w) P w K mg base N_pen_after "pen_after" (defScope s_pen_after) f cdv A outer s H E) (defBody s_pen_after) (t_pen_after XE spx_carried) :=
  (rss_one (rs_ret (re_callX EX (c_carried.mono l_carried) hr (ra_cons (re_g g_START) (ra_cons (re_var 0) ra_nil)))))
noncomputable abbrev s_carried : Stmt := top 23
theorem sc_carried : FnScope N_carried ["pen", "word"] (defScope s_carried) := ⟨rfl, rfl, rfl, by decide +kernel, rfl, by decide +kernel, by decide +kernel⟩
theorem rs_carried {k : Nat} {f : Addr} {cdv : Value} {A : Around} {outer : List Env} {s : Shared} {H : Hp} {E : XK} {XE : XE3} (EX : EXok K mg XE E) {spx_check_word : XE3 → Sp3} {k_check_word : Nat} (c_check_word : CalX P w K mg base k_check_word "check_word" ["word"] spx_check_word) (l_check_word : k_check_word ≤ k) {sp_led : Sp3} {k_led : Nat} (c_led : Cal P w K mg base k_led "led" ["pen", "part"] sp_led) (l_led : k_led ≤ k) {sp_pen_behind : Sp3} {k_pen_behind : Nat} (c_pen_behind : Cal P w K mg base k_pen_behind "pen_behind" ["word"] sp_pen_behind) (l_pen_behind : k_pen_behind ≤ k) (hr : Room k (A.deeper (envOfC "carried" (defScope s_carried) s.heap.objs.size f cdv))) :
    RSs (cxOf (CXn P w) P w K mg base N_carried "carried" (defScope s_carried) f cdv A outer s H E) (defBody s_carried) (t_carried XE spx_check_word sp_led sp_pen_behind) :=
  (rss_cons (rs_expr (re_callX EX (c_check_word.mono l_check_word) hr (ra_cons (re_var 1) ra_nil))) (rss_one (rs_ret (re_call (c_led.mono l_led) hr (ra_cons (re_var 0) (ra_cons (re_call (c_pen_behind.mono l_pen_behind) hr (ra_cons (re_var 1) ra_nil)) ra_nil))))))
noncomputable abbrev s_led : Stmt := top 24
theorem sc_led : FnScope N_led ["pen", "part"] (defScope s_led) := ⟨rfl, rfl, rfl, by decide +kernel, rfl, by decide +kernel, by decide +kernel⟩
theorem rs_led {k : Nat} {f : Addr} {cdv : Value} {A : Around} {outer : List Env} {s : Shared} {H : Hp} {E : XK} (g_AHEAD : Gd K mg "AHEAD" k_AHEAD) (hr : Room k (A.deeper (envOfC "led" (defScope s_led) s.heap.objs.size f cdv))) :
    RSs (cxOf CX0 P w K mg base N_led "led" (defScope s_led) f cdv A outer s H E).nox (defBody s_led) (t_led) :=
  (rss_cons (rs_set (i := 2) sc_led.nd (re_ix q_ix (re_g g_AHEAD) (re_ix q_ix (re_var 0) re_int))) (rss_cons (rs_set (i := 3) sc_led.nd (re_op q_sub (re_op q_add (re_ix q_ix (re_var 0) re_int) (re_op q_mul (re_ix q_ix (re_var 1) re_int) (re_ix q_ix (re_var 2) re_int))) (re_op q_mul (re_ix q_ix (re_var 1) re_int) (re_ix q_ix (re_var 2) re_int)))) (rss_cons (rs_set (i := 4) sc_led.nd (re_op q_add (re_op q_add (re_ix q_ix (re_var 0) re_int) (re_op q_mul (re_ix q_ix (re_var 1) re_int) (re_ix q_ix (re_var 2) re_int))) (re_op q_mul (re_ix q_ix (re_var 1) re_int) (re_ix q_ix (re_var 2) re_int)))) (rss_one (rs_ret (re_tup (ra_cons (re_var 3) (ra_cons (re_var 4) (ra_cons (re_op q_mod (re_op q_add (re_ix q_ix (re_var 0) re_int) (re_ix q_ix (re_var 1) re_int)) re_int) ra_nil)))))))))
noncomputable abbrev s_pen_behind : Stmt := top 25
theorem sc_pen_behind : FnScope N_pen_behind ["word"] (defScope s_pen_behind) := ⟨rfl, rfl, rfl, by decide +kernel, rfl, by decide +kernel, by decide +kernel⟩
theorem rs_pen_behind {k : Nat} {f : Addr} {cdv : Value} {A : Around} {outer : List Env} {s : Shared} {H : Hp} {E : XK} {sp_led : Sp3} {k_led : Nat} (c_led : Cal P w K mg base k_led "led" ["pen", "part"] sp_led) (l_led : k_led ≤ k) {sp_pen_behind_deed : Sp3} {k_pen_behind_deed : Nat} (c_pen_behind_deed : Cal P w K mg base k_pen_behind_deed "pen_behind_deed" ["deed"] sp_pen_behind_deed) (l_pen_behind_deed : k_pen_behind_deed ≤ k) (g_START : Gd K mg "START" k_START) (hr : Room k (A.deeper (envOfC "pen_behind" (defScope s_pen_behind) s.heap.objs.size f cdv))) :
    RSs (cxOf CX0 P w K mg base N_pen_behind "pen_behind" (defScope s_pen_behind) f cdv A outer s H E).nox (defBody s_pen_behind) (t_pen_behind sp_led sp_pen_behind_deed) :=
  (rss_cons (rs_set (i := 1) sc_pen_behind.nd (re_g g_START)) (rss_cons (rs_for PassesOwn.never rfl (ri_seq (re_var 0)) (rg_name (i := 2) sc_pen_behind.nd) (rss_one (rs_set (i := 1) sc_pen_behind.nd (re_call (c_led.mono l_led) hr (ra_cons (re_var 1) (ra_cons (re_call (c_pen_behind_deed.mono l_pen_behind_deed) hr (ra_cons (re_var 2) ra_nil)) ra_nil)))))) (rss_one (rs_ret (re_var 1)))))
noncomputable abbrev s_pen_behind_deed : Stmt := top 26
theorem sc_pen_behind_deed : FnScope N_pen_behind_deed ["deed"] (defScope s_pen_behind_deed) := ⟨rfl, rfl, rfl, by decide +kernel, rfl, by decide +kernel, by decide +kernel⟩
theorem rs_pen_behind_deed {k : Nat} {f : Addr} {cdv : Value} {A : Around} {outer : List Env} {s : Shared} {H : Hp} {E : XK} {sp_pen_behind : Sp3} {k_pen_behind : Nat} (c_pen_behind : Cal P w K mg base k_pen_behind "pen_behind" ["word"] sp_pen_behind) (l_pen_behind : k_pen_behind ≤ k) {sp_pen_repeated : Sp3} {k_pen_repeated : Nat} (c_pen_repeated : Cal P w K mg base k_pen_repeated "pen_repeated" ["part", "number"] sp_pen_repeated) (l_pen_repeated : k_pen_repeated ≤ k) (hr : Room k (A.deeper (envOfC "pen_behind_deed" (defScope s_pen_behind_deed) s.heap.objs.size f cdv))) :
    RSs (cxOf CX0 P w K mg base N_pen_behind_deed "pen_behind_deed" (defScope s_pen_behind_deed) f cdv A outer s H E).nox (defBody s_pen_behind_deed) (t_pen_behind_deed sp_pen_behind sp_pen_repeated) :=
  (rss_cons (rs_if (rt_cmp (q_eq (hu64 hr)) (re_ix q_ix (re_var 0) re_int) re_str) (rss_one (rs_ret (re_tup (ra_cons re_int (ra_cons re_int (ra_cons (re_op q_mod (re_ix q_ix (re_var 0) re_int) re_int) ra_nil)))))) rss_nil) (rss_cons (rs_if (rt_cmp (q_eq (hu64 hr)) (re_ix q_ix (re_var 0) re_int) re_str) (rss_one (rs_ret (re_call (c_pen_repeated.mono l_pen_repeated) hr (ra_cons (re_call (c_pen_behind.mono l_pen_behind) hr (ra_cons (re_ix q_ix (re_var 0) re_int) ra_nil)) (ra_cons (re_ix q_ix (re_var 0) re_int) ra_nil))))) rss_nil) (rss_one (rs_ret (re_tup (ra_cons (re_ix q_ix (re_var 0) re_int) (ra_cons re_int (ra_cons re_int ra_nil))))))))
noncomputable abbrev s_pen_repeated : Stmt := top 27
theorem sc_pen_repeated : FnScope N_pen_repeated ["part", "number"] (defScope s_pen_repeated) := ⟨rfl, rfl, rfl, by decide +kernel, rfl, by decide +kernel, by decide +kernel⟩
theorem rs_pen_repeated {k : Nat} {f : Addr} {cdv : Value} {A : Around} {outer : List Env} {s : Shared} {H : Hp} {E : XK} {sp_led : Sp3} {k_led : Nat} (c_led : Cal P w K mg base k_led "led" ["pen", "part"] sp_led) (l_led : k_led ≤ k) (z_range : mg "range" = none) (g_START : Gd K mg "START" k_START) (hr : Room k (A.deeper (envOfC "pen_repeated" (defScope s_pen_repeated) s.heap.objs.size f cdv))) :
    RSs (cxOf CX0 P w K mg base N_pen_repeated "pen_repeated" (defScope s_pen_repeated) f cdv A outer s H E).nox (defBody s_pen_repeated) (t_pen_repeated sp_led) :=
  (rss_cons (rs_if (rt_cmp (q_eq (hu64 hr)) (re_ix q_ix (re_var 0) re_int) re_int) (rss_one (rs_ret (re_tup (ra_cons (re_op q_mul (re_ix q_ix (re_var 0) re_int) (re_var 1)) (ra_cons (re_op q_mul (re_ix q_ix (re_var 0) re_int) (re_var 1)) (ra_cons re_int ra_nil)))))) rss_nil) (rss_cons (rs_set (i := 2) sc_pen_repeated.nd (re_g g_START)) (rss_cons (rs_for PassesOwn.never rfl (ri_range1 z_range (re_op q_mod (re_var 1) re_int)) (rg_name (i := 3) sc_pen_repeated.nd) (rss_one (rs_set (i := 2) sc_pen_repeated.nd (re_call (c_led.mono l_led) hr (ra_cons (re_var 2) (ra_cons (re_var 0) ra_nil)))))) (rss_one (rs_ret (re_var 2))))))
noncomputable abbrev s_strokes_drawn : Stmt := top 28
theorem sc_strokes_drawn : FnScope N_strokes_drawn ["word"] (defScope s_strokes_drawn) := ⟨rfl, rfl, rfl, by decide +kernel, rfl, by decide +kernel, by decide +kernel⟩
theorem rs_strokes_drawn {k : Nat} {f : Addr} {cdv : Value} {A : Around} {outer : List Env} {s : Shared} {H : Hp} {E : XK} {XE : XE3} (EX : EXok K mg XE E) {spx_check_word : XE3 → Sp3} {k_check_word : Nat} (c_check_word : CalX P w K mg base k_check_word "check_word" ["word"] spx_check_word) (l_check_word : k_check_word ≤ k) {sp_count_strokes : Sp3} {k_count_strokes : Nat} (c_count_strokes : Cal P w K mg base k_count_strokes "count_strokes" ["word"] sp_count_strokes) (l_count_strokes : k_count_strokes ≤ k) (hr : Room k (A.deeper (envOfC "strokes_drawn" (defScope s_strokes_drawn) s.heap.objs.size f cdv))) :
    RSs (cxOf (CXn P w) P w K mg base N_strokes_drawn "strokes_drawn" (defScope s_strokes_drawn) f cdv A outer s H E) (defBody s_strokes_drawn) (t_strokes_drawn XE spx_check_word sp_count_strokes) :=
  (rss_cons (rs_expr (re_callX EX (c_check_word.mono l_check_word) hr (ra_cons (re_var 0) ra_nil))) (rss_one (rs_ret (re_call (c_count_strokes.mono l_count_strokes) hr (ra_cons (re_var 0) ra_nil)))))
noncomputable abbrev s_count_strokes : Stmt := top 29
theorem sc_count_strokes : FnScope N_count_strokes ["word"] (defScope s_count_strokes) := ⟨rfl, rfl, rfl, by decide +kernel, rfl, by decide +kernel, by decide +kernel⟩
theorem rs_count_strokes {k : Nat} {f : Addr} {cdv : Value} {A : Around} {outer : List Env} {s : Shared} {H : Hp} {E : XK} {sp_count_strokes_of_deed : Sp3} {k_count_strokes_of_deed : Nat} (c_count_strokes_of_deed : Cal P w K mg base k_count_strokes_of_deed "count_strokes_of_deed" ["deed"] sp_count_strokes_of_deed) (l_count_strokes_of_deed : k_count_strokes_of_deed ≤ k) (z_sum : mg "sum" = none) (hr : Room k (A.deeper (envOfC "count_strokes" (defScope s_count_strokes) s.heap.objs.size f cdv))) :
    RSs (cxOf CX0 P w K mg base N_count_strokes "count_strokes" (defScope s_count_strokes) f cdv A outer s H E).nox (defBody s_count_strokes) (t_count_strokes sp_count_strokes_of_deed) :=
  (rss_one (rs_ret (re_callB q_sum z_sum bz_sum (ra_cons (re_comp (NN := ["deed"]) (by decide +kernel) (by decide +kernel) (by decide +kernel) (ri_seq (re_var 0)) (fun _ _ _ _ _ => (rg_name (i := 0) (show List.Nodup (["deed"] : List Str) by decide +kernel))) (fun _ _ _ _ _ => rts_nil) (fun _ _ _ _ _ => (re_call (c_count_strokes_of_deed.mono l_count_strokes_of_deed) hr (ra_cons (re_var 0) ra_nil)))) ra_nil))))
noncomputable abbrev s_count_strokes_of_deed : Stmt := top 30
theorem sc_count_strokes_of_deed : FnScope N_count_strokes_of_deed ["deed"] (defScope s_count_strokes_of_deed) := ⟨rfl, rfl, rfl, by decide +kernel, rfl, by decide +kernel, by decide +kernel⟩
theorem rs_count_strokes_of_deed {k : Nat} {f : Addr} {cdv : Value} {A : Around} {outer : List Env} {s : Shared} {H : Hp} {E : XK} {sp_count_strokes : Sp3} {k_count_strokes : Nat} (c_count_strokes : Cal P w K mg base k_count_strokes "count_strokes" ["word"] sp_count_strokes) (l_count_strokes : k_count_strokes ≤ k) (hr : Room k (A.deeper (envOfC "count_strokes_of_deed" (defScope s_count_strokes_of_deed) s.heap.objs.size f cdv))) :
    RSs (cxOf CX0 P w K mg base N_count_strokes_of_deed "count_strokes_of_deed" (defScope s_count_strokes_of_deed) f cdv A outer s H E).nox (defBody s_count_strokes_of_deed) (t_count_strokes_of_deed sp_count_strokes) :=
  (rss_cons (rs_if (rt_cmp (q_eq (hu64 hr)) (re_ix q_ix (re_var 0) re_int) re_str) (rss_one (rs_ret (re_ix q_ix (re_var 0) re_int))) rss_nil) (rss_cons (rs_if (rt_cmp (q_eq (hu64 hr)) (re_ix q_ix (re_var 0) re_int) re_str) (rss_one (rs_ret (re_op q_mul (re_ix q_ix (re_var 0) re_int) (re_call (c_count_strokes.mono l_count_strokes) hr (ra_cons (re_ix q_ix (re_var 0) re_int) ra_nil))))) rss_nil) (rss_one (rs_ret re_int))))
noncomputable abbrev s_deeds_done : Stmt := top 31
theorem sc_deeds_done : FnScope N_deeds_done ["word"] (defScope s_deeds_done) := ⟨rfl, rfl, rfl, by decide +kernel, rfl, by decide +kernel, by decide +kernel⟩
theorem rs_deeds_done {k : Nat} {f : Addr} {cdv : Value} {A : Around} {outer : List Env} {s : Shared} {H : Hp} {E : XK} {XE : XE3} (EX : EXok K mg XE E) {spx_check_word : XE3 → Sp3} {k_check_word : Nat} (c_check_word : CalX P w K mg base k_check_word "check_word" ["word"] spx_check_word) (l_check_word : k_check_word ≤ k) {sp_count_done : Sp3} {k_count_done : Nat} (c_count_done : Cal P w K mg base k_count_done "count_done" ["word"] sp_count_done) (l_count_done : k_count_done ≤ k) (hr : Room k (A.deeper (envOfC "deeds_done" (defScope s_deeds_done) s.heap.objs.size f cdv))) :
    RSs (cxOf (CXn P w) P w K mg base N_deeds_done "deeds_done" (defScope s_deeds_done) f cdv A outer s H E) (defBody s_deeds_done) (t_deeds_done XE spx_check_word sp_count_done) :=
  (rss_cons (rs_expr (re_callX EX (c_check_word.mono l_check_word) hr (ra_cons (re_var 0) ra_nil))) (rss_one (rs_ret (re_call (c_count_done.mono l_count_done) hr (ra_cons (re_var 0) ra_nil)))))
noncomputable abbrev s_count_done : Stmt := top 32
theorem sc_count_done : FnScope N_count_done ["word"] (defScope s_count_done) := ⟨rfl, rfl, rfl, by decide +kernel, rfl, by decide +kernel, by decide +kernel⟩
theorem rs_count_done {k : Nat} {f : Addr} {cdv : Value} {A : Around} {outer : List Env} {s : Shared} {H : Hp} {E : XK} {sp_count_done_of_deed : Sp3} {k_count_done_of_deed : Nat} (c_count_done_of_deed : Cal P w K mg base k_count_done_of_deed "count_done_of_deed" ["deed"] sp_count_done_of_deed) (l_count_done_of_deed : k_count_done_of_deed ≤ k) (z_sum : mg "sum" = none) (hr : Room k (A.deeper (envOfC "count_done" (defScope s_count_done) s.heap.objs.size f cdv))) :
    RSs (cxOf CX0 P w K mg base N_count_done "count_done" (defScope s_count_done) f cdv A outer s H E).nox (defBody s_count_done) (t_count_done sp_count_done_of_deed) :=
  (rss_one (rs_ret (re_callB q_sum z_sum bz_sum (ra_cons (re_comp (NN := ["deed"]) (by decide +kernel) (by decide +kernel) (by decide +kernel) (ri_seq (re_var 0)) (fun _ _ _ _ _ => (rg_name (i := 0) (show List.Nodup (["deed"] : List Str) by decide +kernel))) (fun _ _ _ _ _ => rts_nil) (fun _ _ _ _ _ => (re_call (c_count_done_of_deed.mono l_count_done_of_deed) hr (ra_cons (re_var 0) ra_nil)))) ra_nil))))
noncomputable abbrev s_count_done_of_deed : Stmt := top 33
theorem sc_count_done_of_deed : FnScope N_count_done_of_deed ["deed"] (defScope s_count_done_of_deed) := ⟨rfl, rfl, rfl, by decide +kernel, rfl, by decide +kernel, by decide +kernel⟩
theorem rs_count_done_of_deed {k : Nat} {f : Addr} {cdv : Value} {A : Around} {outer : List Env} {s : Shared} {H : Hp} {E : XK} {sp_count_done : Sp3} {k_count_done : Nat} (c_count_done : Cal P w K mg base k_count_done "count_done" ["word"] sp_count_done) (l_count_done : k_count_done ≤ k) (hr : Room k (A.deeper (envOfC "count_done_of_deed" (defScope s_count_done_of_deed) s.heap.objs.size f cdv))) :
    RSs (cxOf CX0 P w K mg base N_count_done_of_deed "count_done_of_deed" (defScope s_count_done_of_deed) f cdv A outer s H E).nox (defBody s_count_done_of_deed) (t_count_done_of_deed sp_count_done) :=
  (rss_cons (rs_if (rt_cmp (q_eq (hu64 hr)) (re_ix q_ix (re_var 0) re_int) re_str) (rss_one (rs_ret (re_op q_mul (re_ix q_ix (re_var 0) re_int) (re_call (c_count_done.mono l_count_done) hr (ra_cons (re_ix q_ix (re_var 0) re_int) ra_nil))))) rss_nil) (rss_one (rs_ret re_int)))
noncomputable abbrev s_is_small : Stmt := top 34
theorem sc_is_small : FnScope N_is_small ["word"] (defScope s_is_small) := ⟨rfl, rfl, rfl, by decide +kernel, rfl, by decide +kernel, by decide +kernel⟩
theorem rs_is_small {k : Nat} {f : Addr} {cdv : Value} {A : Around} {outer : List Env} {s : Shared} {H : Hp} {E : XK} {XE : XE3} (EX : EXok K mg XE E) {spx_deeds_done : XE3 → Sp3} {k_deeds_done : Nat} (c_deeds_done : CalX P w K mg base k_deeds_done "deeds_done" ["word"] spx_deeds_done) (l_deeds_done : k_deeds_done ≤ k) {spx_strokes_drawn : XE3 → Sp3} {k_strokes_drawn : Nat} (c_strokes_drawn : CalX P w K mg base k_strokes_drawn "strokes_drawn" ["word"] spx_strokes_drawn) (l_strokes_drawn : k_strokes_drawn ≤ k) (g_MOST_OF_SMALL : Gd K mg "MOST_OF_SMALL" k_MOST_OF_SMALL) (hr : Room k (A.deeper (envOfC "is_small" (defScope s_is_small) s.heap.objs.size f cdv))) :
    RSs (cxOf (CXn P w) P w K mg base N_is_small "is_small" (defScope s_is_small) f cdv A outer s H E) (defBody s_is_small) (t_is_small XE spx_deeds_done spx_strokes_drawn) :=
  (rss_one (rs_ret (re_and (re_cmp q_le (re_callX EX (c_strokes_drawn.mono l_strokes_drawn) hr (ra_cons (re_var 0) ra_nil)) (re_g g_MOST_OF_SMALL)) (re_one (re_cmp q_le (re_callX EX (c_deeds_done.mono l_deeds_done) hr (ra_cons (re_var 0) ra_nil)) (re_g g_MOST_OF_SMALL))))))
noncomputable abbrev s_shown : Stmt := top 36
theorem sc_shown : FnScope N_shown ["word"] (defScope s_shown) := ⟨rfl, rfl, rfl, by decide +kernel, rfl, by decide +kernel, by decide +kernel⟩
theorem rs_shown {k : Nat} {f : Addr} {cdv : Value} {A : Around} {outer : List Env} {s : Shared} {H : Hp} {E : XK} {XE : XE3} (EX : EXok K mg XE E) {spx_check_word : XE3 → Sp3} {k_check_word : Nat} (c_check_word : CalX P w K mg base k_check_word "check_word" ["word"] spx_check_word) (l_check_word : k_check_word ≤ k) {sp_marks_of : Sp3} {k_marks_of : Nat} (c_marks_of : Cal P w K mg base k_marks_of "marks_of" ["word"] sp_marks_of) (l_marks_of : k_marks_of ≤ k) (hr : Room k (A.deeper (envOfC "shown" (defScope s_shown) s.heap.objs.size f cdv))) :
    RSs (cxOf (CXn P w) P w K mg base N_shown "shown" (defScope s_shown) f cdv A outer s H E) (defBody s_shown) (t_shown XE spx_check_word sp_marks_of) :=
  (rss_cons (rs_expr (re_callX EX (c_check_word.mono l_check_word) hr (ra_cons (re_var 0) ra_nil))) (rss_one (rs_ret (re_join re_str (ra_cons (re_call (c_marks_of.mono l_marks_of) hr (ra_cons (re_var 0) ra_nil)) ra_nil)))))
noncomputable abbrev s_marks_of : Stmt := top 37
theorem sc_marks_of : FnScope N_marks_of ["word"] (defScope s_marks_of) := ⟨rfl, rfl, rfl, by decide +kernel, rfl, by decide +kernel, by decide +kernel⟩
theorem rs_marks_of {k : Nat} {f : Addr} {cdv : Value} {A : Around} {outer : List Env} {s : Shared} {H : Hp} {E : XK} {sp_marks_of : Sp3} {k_marks_of : Nat} (c_marks_of : Cal P w K mg base k_marks_of "marks_of" ["word"] sp_marks_of) (l_marks_of : k_marks_of ≤ k) (z_str : mg "str" = none) (hr : Room k (A.deeper (envOfC "marks_of" (defScope s_marks_of) s.heap.objs.size f cdv))) :
    RSs (cxOf CX0 P w K mg base N_marks_of "marks_of" (defScope s_marks_of) f cdv A outer s H E).nox (defBody s_marks_of) (t_marks_of sp_marks_of) :=
  (rss_cons (rs_set (i := 1) sc_marks_of.nd (re_lst ra_nil)) (rss_cons (rs_for PassesOwn.never rfl (ri_seq (re_var 0)) (rg_name (i := 2) sc_marks_of.nd) (rss_cons (rs_expr (re_extend (re_var 1) (ra_cons (re_lst (ra_cons (re_ix q_ix (re_var 2) re_int) (ra_cons (re_callTy q_str z_str bz_str (ra_cons (re_ix q_ix (re_var 2) re_int) ra_nil)) ra_nil))) ra_nil))) (rss_one (rs_if (rt_cmp (q_eq (hu64 hr)) (re_ix q_ix (re_var 2) re_int) re_str) (rss_one (rs_expr (re_extend (re_var 1) (ra_cons (re_op q_add (re_op q_add (re_lst (ra_cons re_str ra_nil)) (re_call (c_marks_of.mono l_marks_of) hr (ra_cons (re_ix q_ix (re_var 2) re_int) ra_nil))) (re_lst (ra_cons re_str ra_nil))) ra_nil)))) rss_nil)))) (rss_one (rs_ret (re_var 1)))))
noncomputable abbrev s__law_cell_at : Stmt := top 39
theorem sc__law_cell_at : FnScope N__law_cell_at ["script", "k"] (defScope s__law_cell_at) := ⟨rfl, rfl, rfl, by decide +kernel, rfl, by decide +kernel, by decide +kernel⟩
theorem rs__law_cell_at {k : Nat} {f : Addr} {cdv : Value} {A : Around} {outer : List Env} {s : Shared} {H : Hp} {E : XK} (z_len : mg "len" = none) (hr : Room k (A.deeper (envOfC "_law_cell_at" (defScope s__law_cell_at) s.heap.objs.size f cdv))) :
    RSs (cxOf CX0 P w K mg base N__law_cell_at "_law_cell_at" (defScope s__law_cell_at) f cdv A outer s H E).nox (defBody s__law_cell_at) (t__law_cell_at) :=
  (rss_cons (rs_if (rt_cmp q_lt (re_var 1) (re_callB q_len z_len bz_len (ra_cons (re_var 0) ra_nil))) (rss_one (rs_ret (re_ix q_ix (re_var 0) (re_var 1)))) rss_nil) (rss_one (rs_ret re_int)))
noncomputable abbrev s__law_whole : Stmt := top 40
theorem sc__law_whole : FnScope N__law_whole ["found"] (defScope s__law_whole) := ⟨rfl, rfl, rfl, by decide +kernel, rfl, by decide +kernel, by decide +kernel⟩
theorem rs__law_whole {k : Nat} {f : Addr} {cdv : Value} {A : Around} {outer : List Env} {s : Shared} {H : Hp} {E : XK} (z_bool : mg "bool" = none) (z_int : mg "int" = none) (z_isinstance : mg "isinstance" = none) (hr : Room k (A.deeper (envOfC "_law_whole" (defScope s__law_whole) s.heap.objs.size f cdv))) :
    RSs (cxOf CX0 P w K mg base N__law_whole "_law_whole" (defScope s__law_whole) f cdv A outer s H E).nox (defBody s__law_whole) (t__law_whole) :=
  (rss_one (rs_ret (re_and (re_callB q_isi z_isinstance bz_isinstance (ra_cons (re_var 0) (ra_cons (re_ty z_int bz_int) ra_nil))) (re_one (re_not (re_callB q_isi z_isinstance bz_isinstance (ra_cons (re_var 0) (ra_cons (re_ty z_bool bz_bool) ra_nil))))))))
noncomputable abbrev s__law_state : Stmt := top 41
theorem sc__law_state : FnScope N__law_state ["script", "k"] (defScope s__law_state) := ⟨rfl, rfl, rfl, by decide +kernel, rfl, by decide +kernel, by decide +kernel⟩
theorem rs__law_state {k : Nat} {f : Addr} {cdv : Value} {A : Around} {outer : List Env} {s : Shared} {H : Hp} {E : XK} {sp__law_cell_at : Sp3} {k__law_cell_at : Nat} (c__law_cell_at : Cal P w K mg base k__law_cell_at "_law_cell_at" ["script", "k"] sp__law_cell_at) (l__law_cell_at : k__law_cell_at ≤ k) (hr : Room k (A.deeper (envOfC "_law_state" (defScope s__law_state) s.heap.objs.size f cdv))) :
    RSs (cxOf CX0 P w K mg base N__law_state "_law_state" (defScope s__law_state) f cdv A outer s H E).nox (defBody s__law_state) (t__law_state sp__law_cell_at) :=
  (rss_cons (rs_set (i := 2) sc__law_state.nd (re_call (c__law_cell_at.mono l__law_cell_at) hr (ra_cons (re_var 0) (ra_cons (re_var 1) ra_nil)))) (rss_cons (rs_if (rt_cmp q_ge (re_var 2) (re_op q_pow re_int re_int)) (rss_one (rs_ret (re_lst (ra_cons (re_op q_sub (re_var 2) (re_op q_pow re_int re_int)) (ra_cons re_bl ra_nil))))) rss_nil) (rss_one (rs_ret (re_lst (ra_cons (re_op q_mod (re_var 2) re_int) (ra_cons re_bl ra_nil)))))))
noncomputable abbrev s__law_choice : Stmt := top 42
theorem sc__law_choice : FnScope N__law_choice ["state", "many"] (defScope s__law_choice) := ⟨rfl, rfl, rfl, by decide +kernel, rfl, by decide +kernel, by decide +kernel⟩
theorem rs__law_choice {k : Nat} {f : Addr} {cdv : Value} {A : Around} {outer : List Env} {s : Shared} {H : Hp} {E : XK} (hr : Room k (A.deeper (envOfC "_law_choice" (defScope s__law_choice) s.heap.objs.size f cdv))) :
    RSs (cxOf CX0 P w K mg base N__law_choice "_law_choice" (defScope s__law_choice) f cdv A outer s H E).nox (defBody s__law_choice) (t__law_choice) :=
  (rss_cons (rs_if (rt_val (re_ix q_ix (re_var 0) re_int)) (rss_cons (rs_set (i := 2) sc__law_choice.nd (re_op q_mod (re_ix q_ix (re_var 0) re_int) (re_var 1))) (rss_cons (rs_asg (re_op q_fdiv (re_ix q_ix (re_var 0) re_int) (re_var 1)) (rg_sub (re_var 0) re_int)) (rss_one (rs_ret (re_var 2))))) rss_nil) (rss_cons (rs_asg (re_op q_mod (re_op q_add (re_op q_mul (re_ix q_ix (re_var 0) re_int) re_int) re_int) re_int) (rg_sub (re_var 0) re_int)) (rss_cons (rs_set (i := 3) sc__law_choice.nd (re_op q_mod (re_op q_add (re_op q_add (re_op q_mul (re_ix q_ix (re_var 0) re_int) (re_ix q_ix (re_var 0) re_int)) (re_op q_mul re_int (re_ix q_ix (re_var 0) re_int))) re_int) re_int)) (rss_cons (rs_set (i := 3) sc__law_choice.nd (re_op q_mod (re_op q_add (re_op q_mul (re_var 3) (re_var 3)) (re_op q_mul re_int (re_var 3))) re_int)) (rss_one (rs_ret (re_op q_mod (re_op q_fdiv (re_var 3) re_int) (re_var 1))))))))
noncomputable abbrev s__law_word : Stmt := top 43
theorem sc__law_word : FnScope N__law_word ["state", "deep"] (defScope s__law_word) := ⟨rfl, rfl, rfl, by decide +kernel, rfl, by decide +kernel, by decide +kernel⟩
theorem rs__law_word {k : Nat} {f : Addr} {cdv : Value} {A : Around} {outer : List Env} {s : Shared} {H : Hp} {E : XK} {sp__law_choice : Sp3} {k__law_choice : Nat} (c__law_choice : Cal P w K mg base k__law_choice "_law_choice" ["state", "many"] sp__law_choice) (l__law_choice : k__law_choice ≤ k) {sp__law_word : Sp3} {k__law_word : Nat} (c__law_word : Cal P w K mg base k__law_word "_law_word" ["state", "deep"] sp__law_word) (l__law_word : k__law_word ≤ k) (z_range : mg "range" = none) (z_tuple : mg "tuple" = none) (hr : Room k (A.deeper (envOfC "_law_word" (defScope s__law_word) s.heap.objs.size f cdv))) :
    RSs (cxOf CX0 P w K mg base N__law_word "_law_word" (defScope s__law_word) f cdv A outer s H E).nox (defBody s__law_word) (t__law_word sp__law_choice sp__law_word) :=
  (rss_cons (rs_set (i := 2) sc__law_word.nd (re_lst ra_nil)) (rss_cons (rs_for PassesOwn.never rfl (ri_range1 z_range (re_call (c__law_choice.mono l__law_choice) hr (ra_cons (re_var 0) (ra_cons re_int ra_nil)))) (rg_name (i := 3) sc__law_word.nd) (rss_cons (rs_set (i := 4) sc__law_word.nd (re_call (c__law_choice.mono l__law_choice) hr (ra_cons (re_var 0) (ra_cons re_int ra_nil)))) (rss_one (rs_if (rt_cmp q_gt (re_ix q_ix (re_var 0) re_int) re_int) (rss_cons (rs_asg (re_op q_sub (re_ix q_ix (re_var 0) re_int) re_int) (rg_sub (re_var 0) re_int)) (rss_one (rs_if (rw_pt (rw_and (rt_cmp q_lt (re_var 4) re_int) (rw_and1 (rt_cmp q_gt (re_var 1) re_int)))) (rss_one (rs_expr (re_append (re_var 2) (ra_cons (re_tup (ra_cons re_str (ra_cons (re_call (c__law_choice.mono l__law_choice) hr (ra_cons (re_var 0) (ra_cons re_int ra_nil))) (ra_cons (re_call (c__law_word.mono l__law_word) hr (ra_cons (re_var 0) (ra_cons (re_op q_sub (re_var 1) re_int) ra_nil))) ra_nil)))) ra_nil)))) (rss_one (rs_if (rt_cmp q_lt (re_var 4) re_int) (rss_one (rs_expr (re_append (re_var 2) (ra_cons (re_tup (ra_cons re_str (ra_cons (re_ix q_ix (re_lst (ra_cons re_int (ra_cons (re_un q_neg re_int) (ra_cons re_int (ra_cons re_int (ra_cons (re_un q_neg re_int) (ra_cons re_int (ra_cons re_int (ra_cons (re_un q_neg re_int) ra_nil))))))))) (re_call (c__law_choice.mono l__law_choice) hr (ra_cons (re_var 0) (ra_cons re_int ra_nil)))) ra_nil))) ra_nil)))) (rss_one (rs_if (rt_cmp (q_eq (hu64 hr)) (re_var 4) re_int) (rss_one (rs_expr (re_append (re_var 2) (ra_cons (re_tup (ra_cons re_str (ra_cons (re_op q_sub (re_call (c__law_choice.mono l__law_choice) hr (ra_cons (re_var 0) (ra_cons re_int ra_nil))) re_int) ra_nil))) ra_nil)))) (rss_one (rs_expr (re_append (re_var 2) (ra_cons (re_tup (ra_cons re_str (ra_cons (re_call (c__law_choice.mono l__law_choice) hr (ra_cons (re_var 0) (ra_cons re_int ra_nil))) ra_nil))) ra_nil))))))))))) rss_nil)))) (rss_one (rs_ret (re_callTy q_tuple z_tuple bz_tuple (ra_cons (re_var 2) ra_nil))))))
noncomputable abbrev s__law_drawn_word : Stmt := top 44
theorem sc__law_drawn_word : FnScope N__law_drawn_word ["script", "k", "deep", "most"] (defScope s__law_drawn_word) := ⟨rfl, rfl, rfl, by decide +kernel, rfl, by decide +kernel, by decide +kernel⟩
theorem rs__law_drawn_word {k : Nat} {f : Addr} {cdv : Value} {A : Around} {outer : List Env} {s : Shared} {H : Hp} {E : XK} {sp__law_state : Sp3} {k__law_state : Nat} (c__law_state : Cal P w K mg base k__law_state "_law_state" ["script", "k"] sp__law_state) (l__law_state : k__law_state ≤ k) {sp__law_word : Sp3} {k__law_word : Nat} (c__law_word : Cal P w K mg base k__law_word "_law_word" ["state", "deep"] sp__law_word) (l__law_word : k__law_word ≤ k) (hr : Room k (A.deeper (envOfC "_law_drawn_word" (defScope s__law_drawn_word) s.heap.objs.size f cdv))) :
    RSs (cxOf CX0 P w K mg base N__law_drawn_word "_law_drawn_word" (defScope s__law_drawn_word) f cdv A outer s H E).nox (defBody s__law_drawn_word) (t__law_drawn_word sp__law_state sp__law_word) :=
  (rss_cons (rs_set (i := 4) sc__law_drawn_word.nd (re_op q_add (re_call (c__law_state.mono l__law_state) hr (ra_cons (re_var 0) (ra_cons (re_var 1) ra_nil))) (re_lst (ra_cons (re_var 3) ra_nil)))) (rss_one (rs_ret (re_call (c__law_word.mono l__law_word) hr (ra_cons (re_var 4) (ra_cons (re_var 2) ra_nil))))))
noncomputable abbrev s__law_nested : Stmt := top 45
theorem sc__law_nested : FnScope N__law_nested ["deep", "inner"] (defScope s__law_nested) := ⟨rfl, rfl, rfl, by decide +kernel, rfl, by decide +kernel, by decide +kernel⟩
theorem rs__law_nested {k : Nat} {f : Addr} {cdv : Value} {A : Around} {outer : List Env} {s : Shared} {H : Hp} {E : XK} (z_range : mg "range" = none) (hr : Room k (A.deeper (envOfC "_law_nested" (defScope s__law_nested) s.heap.objs.size f cdv))) :
    RSs (cxOf CX0 P w K mg base N__law_nested "_law_nested" (defScope s__law_nested) f cdv A outer s H E).nox (defBody s__law_nested) (t__law_nested) :=
  (rss_cons (rs_set (i := 2) sc__law_nested.nd (re_var 1)) (rss_cons (rs_for PassesOwn.never rfl (ri_range1 z_range (re_var 0)) (rg_name (i := 3) sc__law_nested.nd) (rss_one (rs_set (i := 2) sc__law_nested.nd (re_tup (ra_cons (re_tup (ra_cons re_str (ra_cons (re_op q_add re_int (re_op q_mod (re_var 3) re_int)) (ra_cons (re_var 2) ra_nil)))) ra_nil))))) (rss_one (rs_ret (re_var 2)))))
noncomputable abbrev s__law_bad_word : Stmt := top 46
theorem sc__law_bad_word : FnScope N__law_bad_word ["state"] (defScope s__law_bad_word) := ⟨rfl, rfl, rfl, by decide +kernel, rfl, by decide +kernel, by decide +kernel⟩
theorem rs__law_bad_word {k : Nat} {f : Addr} {cdv : Value} {A : Around} {outer : List Env} {s : Shared} {H : Hp} {E : XK} {sp__law_choice : Sp3} {k__law_choice : Nat} (c__law_choice : Cal P w K mg base k__law_choice "_law_choice" ["state", "many"] sp__law_choice) (l__law_choice : k__law_choice ≤ k) {sp__law_nested : Sp3} {k__law_nested : Nat} (c__law_nested : Cal P w K mg base k__law_nested "_law_nested" ["deep", "inner"] sp__law_nested) (l__law_nested : k__law_nested ≤ k) {sp__law_word : Sp3} {k__law_word : Nat} (c__law_word : Cal P w K mg base k__law_word "_law_word" ["state", "deep"] sp__law_word) (l__law_word : k__law_word ≤ k) (z_len : mg "len" = none) (hr : Room k (A.deeper (envOfC "_law_bad_word" (defScope s__law_bad_word) s.heap.objs.size f cdv))) :
    RSs (cxOf CX0 P w K mg base N__law_bad_word "_law_bad_word" (defScope s__law_bad_word) f cdv A outer s H E).nox (defBody s__law_bad_word) (t__law_bad_word sp__law_choice sp__law_nested sp__law_word) :=
  (rss_cons (rs_set (i := 1) sc__law_bad_word.nd (re_op q_add (re_op q_pow re_int re_int) (re_call (c__law_choice.mono l__law_choice) hr (ra_cons (re_var 0) (ra_cons (re_op q_pow re_int re_int) ra_nil))))) (rss_cons (rs_set (i := 2) sc__law_bad_word.nd (re_lst (ra_cons (re_tup (ra_cons re_str (ra_cons (re_un q_neg re_int) ra_nil))) (ra_cons (re_tup (ra_cons re_str (ra_cons (re_var 1) ra_nil))) (ra_cons (re_tup (ra_cons re_str (ra_cons (re_var 1) ra_nil))) (ra_cons (re_tup (ra_cons re_str (ra_cons (re_op q_sub re_int (re_var 1)) ra_nil))) (ra_cons (re_tup (ra_cons re_str (ra_cons (re_var 1) ra_nil))) (ra_cons (re_tup (ra_cons re_str (ra_cons (re_op q_sub re_int (re_var 1)) ra_nil))) (ra_cons (re_tup (ra_cons re_str ra_nil)) ra_nil))))))))) (rss_cons (rs_set (i := 2) sc__law_bad_word.nd (re_op q_add (re_var 2) (re_lst (ra_cons (re_tup (ra_cons re_str (ra_cons re_int (ra_cons re_int ra_nil)))) (ra_cons (re_tup (ra_cons re_str (ra_cons (re_un q_neg re_int) (ra_cons (re_tup ra_nil) ra_nil)))) (ra_cons (re_tup (ra_cons re_str (ra_cons (re_var 1) (ra_cons (re_tup ra_nil) ra_nil)))) (ra_cons (re_tup (ra_cons re_str (ra_cons re_int ra_nil))) (ra_cons (re_tup (ra_cons re_str (ra_cons re_int (ra_cons re_int ra_nil)))) (ra_cons (re_tup (ra_cons re_str (ra_cons re_int ra_nil))) ra_nil))))))))) (rss_cons (rs_set (i := 2) sc__law_bad_word.nd (re_op q_add (re_var 2) (re_lst (ra_cons (re_tup (ra_cons re_str (ra_cons re_int ra_nil))) (ra_cons (re_tup (ra_cons re_str (ra_cons re_int ra_nil))) (ra_cons (re_tup (ra_cons re_str (ra_cons re_int (ra_cons (re_tup ra_nil) (ra_cons (re_tup ra_nil) ra_nil))))) (ra_cons (re_tup (ra_cons re_str ra_nil)) (ra_cons (re_tup (ra_cons re_str (ra_cons re_int (ra_cons re_int ra_nil)))) (ra_cons (re_tup (ra_cons re_str ra_nil)) ra_nil))))))))) (rss_cons (rs_set (i := 2) sc__law_bad_word.nd (re_op q_add (re_var 2) (re_lst (ra_cons (re_tup (ra_cons re_str (ra_cons re_int (ra_cons (re_tup (ra_cons (re_tup (ra_cons re_str (ra_cons (re_un q_neg re_int) ra_nil))) ra_nil)) ra_nil)))) (ra_cons (re_tup (ra_cons re_str (ra_cons re_int (ra_cons (re_tup (ra_cons (re_tup (ra_cons re_str (ra_cons re_int ra_nil))) ra_nil)) ra_nil)))) (ra_cons (re_tup (ra_cons re_str (ra_cons (re_op q_sub re_int (re_var 1)) ra_nil))) ra_nil)))))) (rss_cons (rs_set (i := 2) sc__law_bad_word.nd (re_op q_add (re_var 2) (re_lst (ra_cons (re_tup ra_nil) (ra_cons (re_tup (ra_cons re_str (ra_cons (re_tup ra_nil) ra_nil))) (ra_cons (re_tup (ra_cons re_str (ra_cons (re_tup ra_nil) (ra_cons re_int ra_nil)))) (ra_cons (re_tup (ra_cons re_str (ra_cons (re_tup (ra_cons (re_tup (ra_cons re_str (ra_cons re_int ra_nil))) ra_nil)) ra_nil))) (ra_cons (re_tup (ra_cons re_str (ra_cons re_int (ra_cons (re_tup (ra_cons (re_tup ra_nil) ra_nil)) ra_nil)))) ra_nil)))))))) (rss_cons (rs_set (i := 3) sc__law_bad_word.nd (re_slice q_sl (re_call (c__law_word.mono l__law_word) hr (ra_cons (re_var 0) (ra_cons re_int ra_nil))) ro_none (ro_some re_int))) (rss_cons (rs_set (i := 4) sc__law_bad_word.nd (re_call (c__law_choice.mono l__law_choice) hr (ra_cons (re_var 0) (ra_cons (re_op q_add (re_callB q_len z_len bz_len (ra_cons (re_var 3) ra_nil)) re_int) ra_nil)))) (rss_cons (rs_set (i := 5) sc__law_bad_word.nd (re_call (c__law_choice.mono l__law_choice) hr (ra_cons (re_var 0) (ra_cons re_int ra_nil)))) (rss_cons (rs_if (rt_cmp (q_eq (hu64 hr)) (re_var 5) re_int) (rss_one (rs_ret (re_op q_mul (re_tup (ra_cons (re_tup (ra_cons re_str (ra_cons re_int ra_nil))) ra_nil)) (re_op q_add re_int (re_call (c__law_choice.mono l__law_choice) hr (ra_cons (re_var 0) (ra_cons re_int ra_nil))))))) rss_nil) (rss_cons (rs_if (rt_cmp (q_eq (hu64 hr)) (re_var 5) re_int) (rss_one (rs_ret (re_call (c__law_nested.mono l__law_nested) hr (ra_cons (re_op q_add re_int (re_call (c__law_choice.mono l__law_choice) hr (ra_cons (re_var 0) (ra_cons re_int ra_nil)))) (ra_cons (re_slice q_sl (re_var 3) ro_none (ro_some re_int)) ra_nil))))) rss_nil) (rss_cons (rs_if (rt_cmp (q_eq (hu64 hr)) (re_var 5) re_int) (rss_one (rs_ret (re_op q_add (re_op q_add (re_slice q_sl (re_var 3) ro_none (ro_some (re_var 4))) (re_tup (ra_cons (re_tup (ra_cons re_str (ra_cons re_int (ra_cons (re_op q_mul (re_tup (ra_cons (re_tup (ra_cons re_str (ra_cons re_int ra_nil))) ra_nil)) (re_op q_add re_int (re_call (c__law_choice.mono l__law_choice) hr (ra_cons (re_var 0) (ra_cons re_int ra_nil))))) ra_nil)))) ra_nil))) (re_slice q_sl (re_var 3) (ro_some (re_var 4)) ro_none)))) rss_nil) (rss_one (rs_ret (re_op q_add (re_op q_add (re_slice q_sl (re_var 3) ro_none (ro_some (re_var 4))) (re_tup (ra_cons (re_ix q_ix (re_var 2) (re_call (c__law_choice.mono l__law_choice) hr (ra_cons (re_var 0) (ra_cons (re_callB q_len z_len bz_len (ra_cons (re_var 2) ra_nil)) ra_nil)))) ra_nil))) (re_slice q_sl (re_var 3) (ro_some (re_var 4)) ro_none))))))))))))))))
noncomputable abbrev s__law_marks : Stmt := top 47
theorem sc__law_marks : FnScope N__law_marks ["e"] (defScope s__law_marks) := ⟨rfl, rfl, rfl, by decide +kernel, rfl, by decide +kernel, by decide +kernel⟩
theorem rs__law_marks {k : Nat} {f : Addr} {cdv : Value} {A : Around} {outer : List Env} {s : Shared} {H : Hp} {E : XK} {C_BadNote : Addr} (m_BadNote : mg "BadNote" = some (.ref C_BadNote)) (x_BadNote : ∀ c C b, subX "BadNote" c = some b → PySem.W.nsIn K mainGlobals c = some (some (.ref C)) → ExcK K C ∧ PySem.W.kitOne K (.ref C) (.ref C_BadNote) = some b) {C_NoNumber : Addr} (m_NoNumber : mg "NoNumber" = some (.ref C_NoNumber)) (x_NoNumber : ∀ c C b, subX "NoNumber" c = some b → PySem.W.nsIn K mainGlobals c = some (some (.ref C)) → ExcK K C ∧ PySem.W.kitOne K (.ref C) (.ref C_NoNumber) = some b) {C_NoPicture : Addr} (m_NoPicture : mg "NoPicture" = some (.ref C_NoPicture)) (x_NoPicture : ∀ c C b, subX "NoPicture" c = some b → PySem.W.nsIn K mainGlobals c = some (some (.ref C)) → ExcK K C ∧ PySem.W.kitOne K (.ref C) (.ref C_NoPicture) = some b) {C_NoRoom : Addr} (m_NoRoom : mg "NoRoom" = some (.ref C_NoRoom)) (x_NoRoom : ∀ c C b, subX "NoRoom" c = some b → PySem.W.nsIn K mainGlobals c = some (some (.ref C)) → ExcK K C ∧ PySem.W.kitOne K (.ref C) (.ref C_NoRoom) = some b) {C_NoStep : Addr} (m_NoStep : mg "NoStep" = some (.ref C_NoStep)) (x_NoStep : ∀ c C b, subX "NoStep" c = some b → PySem.W.nsIn K mainGlobals c = some (some (.ref C)) → ExcK K C ∧ PySem.W.kitOne K (.ref C) (.ref C_NoStep) = some b) {C_NoWord : Addr} (m_NoWord : mg "NoWord" = some (.ref C_NoWord)) (x_NoWord : ∀ c C b, subX "NoWord" c = some b → PySem.W.nsIn K mainGlobals c = some (some (.ref C)) → ExcK K C ∧ PySem.W.kitOne K (.ref C) (.ref C_NoWord) = some b) (x_ValueError : ∀ c C b, subX "ValueError" c = some b → PySem.W.nsIn K mainGlobals c = some (some (.ref C)) → ExcK K C ∧ PySem.W.kitOne K (.ref C) (.type "ValueError") = some b) (z_ValueError : mg "ValueError" = none) (z_isinstance : mg "isinstance" = none) (hr : RoomM k (A.deeper (envOfC "_law_marks" (defScope s__law_marks) s.heap.objs.size f cdv))) :
    RSs (cxM CX0 P w K mg base N__law_marks "_law_marks" (defScope s__law_marks) f cdv A outer s H E).nox (defBody s__law_marks) (t__law_marks) :=
  (rss_cons (rs_set (i := 1) sc__law_marks.nd (re_lst (ra_cons (re_isx (re_var 0) (pe_cls rfl m_NoWord) (fun _ h => h) x_NoWord z_isinstance) (ra_cons (re_isx (re_var 0) (pe_cls rfl m_NoRoom) (fun _ h => h) x_NoRoom z_isinstance) (ra_cons (re_isx (re_var 0) (pe_cls rfl m_NoStep) (fun _ h => h) x_NoStep z_isinstance) (ra_cons (re_isx (re_var 0) (pe_cls rfl m_NoPicture) (fun _ h => h) x_NoPicture z_isinstance) ra_nil)))))) (rss_one (rs_ret (re_op q_add (re_var 1) (re_lst (ra_cons (re_isx (re_var 0) (pe_cls rfl m_NoNumber) (fun _ h => h) x_NoNumber z_isinstance) (ra_cons (re_isx (re_var 0) (pe_cls rfl m_BadNote) (fun _ h => h) x_BadNote z_isinstance) (ra_cons (re_isx (re_var 0) (pe_bltn rfl z_ValueError bz_ValueError (show RelV (.ty "ValueError") (.type "ValueError") from rfl)) (fun _ h => h) x_ValueError z_isinstance) ra_nil))))))))
noncomputable abbrev s__law_refused : Stmt := top 48
theorem sc__law_refused : FnScope N__law_refused ["marks", "which"] (defScope s__law_refused) := ⟨rfl, rfl, rfl, by decide +kernel, rfl, by decide +kernel, by decide +kernel⟩
theorem rs__law_refused {k : Nat} {f : Addr} {cdv : Value} {A : Around} {outer : List Env} {s : Shared} {H : Hp} {E : XK} (z_range : mg "range" = none) (hr : Room k (A.deeper (envOfC "_law_refused" (defScope s__law_refused) s.heap.objs.size f cdv))) :
    RSs (cxOf CX0 P w K mg base N__law_refused "_law_refused" (defScope s__law_refused) f cdv A outer s H E).nox (defBody s__law_refused) (t__law_refused) :=
  (rss_one (rs_ret (re_cmp (q_eq (hu64 hr)) (re_var 0) (re_op q_add (re_compG (NN := ["k", "which"]) (js := [none, some 1]) rfl comp_sc (ri_range1 z_range re_int) (fun _ _ _ _ _ => (rg_name (i := 0) (show List.Nodup (["k", "which"] : List Str) by decide +kernel))) (fun _ _ _ _ _ => rts_nil) (fun _ _ _ _ _ => (re_cmp (q_eq (hu64 hr)) (re_var 0) (re_var 1))) (by intro _; rfl)) (re_lst (ra_cons re_bl ra_nil))))))
noncomputable abbrev s__law_count : Stmt := top 49
theorem sc__law_count : FnScope N__law_count ["deeds"] (defScope s__law_count) := ⟨rfl, rfl, rfl, by decide +kernel, rfl, by decide +kernel, by decide +kernel⟩
theorem rs__law_count {k : Nat} {f : Addr} {cdv : Value} {A : Around} {outer : List Env} {s : Shared} {H : Hp} {E : XK} {sp__law_count : Sp3} {k__law_count : Nat} (c__law_count : Cal P w K mg base k__law_count "_law_count" ["deeds"] sp__law_count) (l__law_count : k__law_count ≤ k) (hr : Room k (A.deeper (envOfC "_law_count" (defScope s__law_count) s.heap.objs.size f cdv))) :
    RSs (cxOf CX0 P w K mg base N__law_count "_law_count" (defScope s__law_count) f cdv A outer s H E).nox (defBody s__law_count) (t__law_count sp__law_count) :=
  (rss_cons (rs_set (i := 1) sc__law_count.nd re_int) (rss_cons (rs_for PassesOwn.never rfl (ri_seq (re_var 0)) (rg_name (i := 2) sc__law_count.nd) (rss_cons (rs_set (i := 1) sc__law_count.nd (re_op q_add (re_var 1) re_int)) (rss_one (rs_if (rt_cmp (q_eq (hu64 hr)) (re_ix q_ix (re_var 2) re_int) re_str) (rss_one (rs_set (i := 1) sc__law_count.nd (re_op q_add (re_var 1) (re_call (c__law_count.mono l__law_count) hr (ra_cons (re_ix q_ix (re_var 2) re_int) ra_nil))))) rss_nil)))) (rss_one (rs_ret (re_var 1)))))
noncomputable abbrev s__law_called : Stmt := top 50
theorem sc__law_called : FnScope N__law_called ["way", "deeds"] (defScope s__law_called) := ⟨rfl, rfl, rfl, by decide +kernel, rfl, by decide +kernel, by decide +kernel⟩
theorem rs__law_called {k : Nat} {f : Addr} {cdv : Value} {A : Around} {outer : List Env} {s : Shared} {H : Hp} {E : XK} {XE : XE3} (EX : EXok K mg XE E) {spx_carried : XE3 → Sp3} {k_carried : Nat} (c_carried : CalX P w K mg base k_carried "carried" ["pen", "word"] spx_carried) (l_carried : k_carried ≤ k) {spx_deeds_done : XE3 → Sp3} {k_deeds_done : Nat} (c_deeds_done : CalX P w K mg base k_deeds_done "deeds_done" ["word"] spx_deeds_done) (l_deeds_done : k_deeds_done ≤ k) {spx_deeds_in : XE3 → Sp3} {k_deeds_in : Nat} (c_deeds_in : CalX P w K mg base k_deeds_in "deeds_in" ["word"] spx_deeds_in) (l_deeds_in : k_deeds_in ≤ k) {spx_is_small : XE3 → Sp3} {k_is_small : Nat} (c_is_small : CalX P w K mg base k_is_small "is_small" ["word"] spx_is_small) (l_is_small : k_is_small ≤ k) {spx_pen_after : XE3 → Sp3} {k_pen_after : Nat} (c_pen_after : CalX P w K mg base k_pen_after "pen_after" ["word"] spx_pen_after) (l_pen_after : k_pen_after ≤ k) {spx_shown : XE3 → Sp3} {k_shown : Nat} (c_shown : CalX P w K mg base k_shown "shown" ["word"] spx_shown) (l_shown : k_shown ≤ k) {spx_strokes_drawn : XE3 → Sp3} {k_strokes_drawn : Nat} (c_strokes_drawn : CalX P w K mg base k_strokes_drawn "strokes_drawn" ["word"] spx_strokes_drawn) (l_strokes_drawn : k_strokes_drawn ≤ k) (hr : Room k (A.deeper (envOfC "_law_called" (defScope s__law_called) s.heap.objs.size f cdv))) :
    RSs (cxOf (CXn P w) P w K mg base N__law_called "_law_called" (defScope s__law_called) f cdv A outer s H E) (defBody s__law_called) (t__law_called XE spx_carried spx_deeds_done spx_deeds_in spx_is_small spx_pen_after spx_shown spx_strokes_drawn) :=
  (rss_one (rs_if (rt_cmp (q_eq (hu64 hr)) (re_var 0) re_int) (rss_one (rs_expr (re_callX EX (c_deeds_in.mono l_deeds_in) hr (ra_cons (re_var 1) ra_nil)))) (rss_one (rs_if (rt_cmp (q_eq (hu64 hr)) (re_var 0) re_int) (rss_one (rs_expr (re_callX EX (c_pen_after.mono l_pen_after) hr (ra_cons (re_var 1) ra_nil)))) (rss_one (rs_if (rt_cmp (q_eq (hu64 hr)) (re_var 0) re_int) (rss_one (rs_expr (re_callX EX (c_carried.mono l_carried) hr (ra_cons (re_tup (ra_cons re_int (ra_cons re_int (ra_cons re_int ra_nil)))) (ra_cons (re_var 1) ra_nil))))) (rss_one (rs_if (rt_cmp (q_eq (hu64 hr)) (re_var 0) re_int) (rss_one (rs_expr (re_callX EX (c_strokes_drawn.mono l_strokes_drawn) hr (ra_cons (re_var 1) ra_nil)))) (rss_one (rs_if (rt_cmp (q_eq (hu64 hr)) (re_var 0) re_int) (rss_one (rs_expr (re_callX EX (c_deeds_done.mono l_deeds_done) hr (ra_cons (re_var 1) ra_nil)))) (rss_one (rs_if (rt_cmp (q_eq (hu64 hr)) (re_var 0) re_int) (rss_one (rs_expr (re_callX EX (c_is_small.mono l_is_small) hr (ra_cons (re_var 1) ra_nil)))) (rss_one (rs_expr (re_callX EX (c_shown.mono l_shown) hr (ra_cons (re_var 1) ra_nil))))))))))))))))
noncomputable abbrev s__law_told : Stmt := top 51
theorem sc__law_told : FnScope N__law_told ["way", "deeds"] (defScope s__law_told) := ⟨rfl, rfl, rfl, by decide +kernel, rfl, by decide +kernel, by decide +kernel⟩
theorem rs__law_told {k : Nat} {f : Addr} {cdv : Value} {A : Around} {outer : List Env} {s : Shared} {H : Hp} {E : XK} {spx__law_called : XE3 → Sp3} {k__law_called : Nat} (c__law_called : CalX P w K mg base k__law_called "_law_called" ["way", "deeds"] spx__law_called) (l__law_called : k__law_called ≤ k) {sp__law_marks : Sp3} {k__law_marks : Nat} (c__law_marks : CalM P w K mg base k__law_marks "_law_marks" ["e"] sp__law_marks) (l__law_marks : k__law_marks ≤ k) {C_PenError : Addr} (m_PenError : mg "PenError" = some (.ref C_PenError)) (k2_PenError : PySem.W.kitCls K (.ref C_PenError) (.type "BaseException") = some true) (k3 : PySem.W.kitCls K (.type "type") (.type "tuple") = some false) (ok_PenError : ∀ c, okX c = true → ∃ C, PySem.W.nsIn K mainGlobals c = some (some (.ref C)) ∧ mg c = some (.ref C) ∧ PySem.W.kitCls K (.ref C) (.ref C_PenError) = some true) (hr : Room k (A.deeper (envOfC "_law_told" (defScope s__law_told) s.heap.objs.size f cdv))) :
    RSs (cxOf CX0 P w K mg base N__law_told "_law_told" (defScope s__law_told) f cdv A outer s H E).nox (defBody s__law_told) (t__law_told spx__law_called sp__law_marks) :=
  (rss_cons (rs_set (i := 2) sc__law_told.nd (re_lst ra_nil)) (rss_cons (rs_tryE (i := 3) (c__law_called.mono l__law_called) hr (ra_cons (re_var 0) (ra_cons (re_var 1) ra_nil)) (fun _ => (rss_one (rs_set (i := 2) sc__law_told.nd (re_callM (c__law_marks.mono l__law_marks) (RoomM.of hr _) (ra_cons (re_var 3) ra_nil))))) sc__law_told.nd m_PenError k2_PenError k3 ok_PenError) (rss_one (rs_ret (re_var 2)))))
noncomputable abbrev s_law : Stmt := top 52
theorem sc_law : FnScope N_law ["script"] (defScope s_law) := ⟨rfl, rfl, rfl, by decide +kernel, rfl, by decide +kernel, by decide +kernel⟩
theorem rs_law {k : Nat} {f : Addr} {cdv : Value} {A : Around} {outer : List Env} {s : Shared} {H : Hp} {E : XK} {sp__law_bad_word : Sp3} {k__law_bad_word : Nat} (c__law_bad_word : Cal P w K mg base k__law_bad_word "_law_bad_word" ["state"] sp__law_bad_word) (l__law_bad_word : k__law_bad_word ≤ k) {sp__law_cell_at : Sp3} {k__law_cell_at : Nat} (c__law_cell_at : Cal P w K mg base k__law_cell_at "_law_cell_at" ["script", "k"] sp__law_cell_at) (l__law_cell_at : k__law_cell_at ≤ k) {sp__law_count : Sp3} {k__law_count : Nat} (c__law_count : Cal P w K mg base k__law_count "_law_count" ["deeds"] sp__law_count) (l__law_count : k__law_count ≤ k) {sp__law_drawn_word : Sp3} {k__law_drawn_word : Nat} (c__law_drawn_word : Cal P w K mg base k__law_drawn_word "_law_drawn_word" ["script", "k", "deep", "most"] sp__law_drawn_word) (l__law_drawn_word : k__law_drawn_word ≤ k) {sp__law_nested : Sp3} {k__law_nested : Nat} (c__law_nested : Cal P w K mg base k__law_nested "_law_nested" ["deep", "inner"] sp__law_nested) (l__law_nested : k__law_nested ≤ k) {sp__law_refused : Sp3} {k__law_refused : Nat} (c__law_refused : Cal P w K mg base k__law_refused "_law_refused" ["marks", "which"] sp__law_refused) (l__law_refused : k__law_refused ≤ k) {sp__law_state : Sp3} {k__law_state : Nat} (c__law_state : Cal P w K mg base k__law_state "_law_state" ["script", "k"] sp__law_state) (l__law_state : k__law_state ≤ k) {sp__law_told : Sp3} {k__law_told : Nat} (c__law_told : Cal P w K mg base k__law_told "_law_told" ["way", "deeds"] sp__law_told) (l__law_told : k__law_told ≤ k) {sp__law_whole : Sp3} {k__law_whole : Nat} (c__law_whole : Cal P w K mg base k__law_whole "_law_whole" ["found"] sp__law_whole) (l__law_whole : k__law_whole ≤ k) {spx_deeds_in : XE3 → Sp3} {k_deeds_in : Nat} (c_deeds_in : CalX P w K mg base k_deeds_in "deeds_in" ["word"] spx_deeds_in) (l_deeds_in : k_deeds_in ≤ k) (z_range : mg "range" = none) (hr : Room k (A.deeper (envOfC "law" (defScope s_law) s.heap.objs.size f cdv))) :
    RSs (cxOf CX0 P w K mg base N_law "law" (defScope s_law) f cdv A outer s H E).nox (defBody s_law) (t_law sp__law_bad_word sp__law_cell_at sp__law_count sp__law_drawn_word sp__law_nested sp__law_refused sp__law_state sp__law_told sp__law_whole spx_deeds_in) :=
  (rss_cons (rs_set (i := 1) sc_law.nd (re_call (c__law_drawn_word.mono l__law_drawn_word) hr (ra_cons (re_var 0) (ra_cons re_int (ra_cons re_int (ra_cons re_int ra_nil)))))) (rss_cons (rs_set (i := 2) sc_law.nd (re_op q_mod (re_call (c__law_cell_at.mono l__law_cell_at) hr (ra_cons (re_var 0) (ra_cons re_int ra_nil))) re_int)) (rss_cons (rs_if (rt_cmp (q_eq (hu64 hr)) (re_var 2) re_int) (rss_one (rs_set (i := 1) sc_law.nd (re_op q_add (re_tup (ra_cons (re_tup (ra_cons re_str (ra_cons re_int (ra_cons (re_op q_mul (re_tup (ra_cons (re_tup (ra_cons re_str (ra_cons (re_op q_sub (re_op q_pow re_int re_int) re_int) ra_nil))) ra_nil)) re_int) ra_nil)))) ra_nil)) (re_op q_mul (re_tup (ra_cons (re_tup (ra_cons re_str (ra_cons (re_op q_sub re_int (re_op q_pow re_int re_int)) ra_nil))) ra_nil)) re_int)))) rss_nil) (rss_cons (rs_if (rt_cmp (q_eq (hu64 hr)) (re_var 2) re_int) (rss_one (rs_set (i := 1) sc_law.nd (re_call (c__law_nested.mono l__law_nested) hr (ra_cons re_int (ra_cons (re_tup (ra_cons (re_tup (ra_cons re_str (ra_cons (re_op q_sub re_int (re_op q_pow re_int re_int)) ra_nil))) ra_nil)) ra_nil))))) rss_nil) (rss_cons (rs_set (i := 3) sc_law.nd (re_callX0 (c_deeds_in.mono l_deeds_in) hr (ra_cons (re_var 1) ra_nil))) (rss_cons (rs_if (rw_pt (rw_or (rt_not (rt_val (re_call (c__law_whole.mono l__law_whole) hr (ra_cons (re_var 3) ra_nil)))) (rw_or1 (rt_cmp (q_ne (hu64 hr)) (re_var 3) (re_call (c__law_count.mono l__law_count) hr (ra_cons (re_var 1) ra_nil)))))) (rss_one (rs_ret re_bl)) rss_nil) (rss_cons (rs_set (i := 4) sc_law.nd (re_call (c__law_bad_word.mono l__law_bad_word) hr (ra_cons (re_op q_add (re_call (c__law_state.mono l__law_state) hr (ra_cons (re_var 0) (ra_cons re_int ra_nil))) (re_lst (ra_cons re_int ra_nil))) ra_nil))) (rss_cons (rs_for PassesOwn.never rfl (ri_range1 z_range re_int) (rg_name (i := 5) sc_law.nd) (rss_one (rs_if (rw_pt (rw_or (rt_not (rt_val (re_call (c__law_refused.mono l__law_refused) hr (ra_cons (re_call (c__law_told.mono l__law_told) hr (ra_cons (re_var 5) (ra_cons (re_var 4) ra_nil))) (ra_cons re_int ra_nil))))) (rw_or1 (rt_cmp (q_ne (hu64 hr)) (re_call (c__law_told.mono l__law_told) hr (ra_cons (re_var 5) (ra_cons (re_var 1) ra_nil))) (re_lst ra_nil))))) (rss_one (rs_ret re_bl)) rss_nil))) (rss_one (rs_ret re_bl))))))))))

end
end Pv

namespace Pv
open PySem PySem.Spec PyProof.Rows L2
theorem len1 {us : List Value} (h : us.length = 1) : ∃ a, us = [a] := by
  match us, h with
  | [a], _ => exact ⟨a, rfl⟩
theorem len2 {us : List Value} (h : us.length = 2) : ∃ a b, us = [a, b] := by
  match us, h with
  | [a, b], _ => exact ⟨a, b, rfl⟩
theorem len4 {us : List Value} (h : us.length = 4) : ∃ a b c d, us = [a, b, c, d] := by
  match us, h with
  | [a, b, c, d], _ => exact ⟨a, b, c, d, rfl⟩
theorem all_mk {l : PySem.W.OpenLaw} {w : World} {K : Fg} {h : Heap} {mg : Str → Option Value} {fa : Addr} (X : K.In h) (G : h.Ns mainGlobals mg) (hfa : mg "law" = some (.ref fa))
    {p_deeds_in : Addr} {od_deeds_in an_deeds_in : Option Addr} {sl_deeds_in : Array (Option Value)} {oc_deeds_in kV_deeds_in dc_deeds_in pm_deeds_in cd_deeds_in ct_deeds_in : Value}
    {p_check_word : Addr} {od_check_word an_check_word : Option Addr} {sl_check_word : Array (Option Value)} {oc_check_word kV_check_word dc_check_word pm_check_word cd_check_word ct_check_word : Value}
    {p_checked_count : Addr} {od_checked_count an_checked_count : Option Addr} {sl_checked_count : Array (Option Value)} {oc_checked_count kV_checked_count dc_checked_count pm_checked_count cd_checked_count ct_checked_count : Value}
    {p_checked_deed_count : Addr} {od_checked_deed_count an_checked_deed_count : Option Addr} {sl_checked_deed_count : Array (Option Value)} {oc_checked_deed_count kV_checked_deed_count dc_checked_deed_count pm_checked_deed_count cd_checked_deed_count ct_checked_deed_count : Value}
    {p_check_number : Addr} {od_check_number an_check_number : Option Addr} {sl_check_number : Array (Option Value)} {oc_check_number kV_check_number dc_check_number pm_check_number cd_check_number ct_check_number : Value}
    {p_pen_after : Addr} {od_pen_after an_pen_after : Option Addr} {sl_pen_after : Array (Option Value)} {oc_pen_after kV_pen_after dc_pen_after pm_pen_after cd_pen_after ct_pen_after : Value}
    {p_carried : Addr} {od_carried an_carried : Option Addr} {sl_carried : Array (Option Value)} {oc_carried kV_carried dc_carried pm_carried cd_carried ct_carried : Value}
    {p_led : Addr} {od_led an_led : Option Addr} {sl_led : Array (Option Value)} {oc_led kV_led dc_led pm_led cd_led ct_led : Value}
    {p_pen_behind : Addr} {od_pen_behind an_pen_behind : Option Addr} {sl_pen_behind : Array (Option Value)} {oc_pen_behind kV_pen_behind dc_pen_behind pm_pen_behind cd_pen_behind ct_pen_behind : Value}
    {p_pen_behind_deed : Addr} {od_pen_behind_deed an_pen_behind_deed : Option Addr} {sl_pen_behind_deed : Array (Option Value)} {oc_pen_behind_deed kV_pen_behind_deed dc_pen_behind_deed pm_pen_behind_deed cd_pen_behind_deed ct_pen_behind_deed : Value}
    {p_pen_repeated : Addr} {od_pen_repeated an_pen_repeated : Option Addr} {sl_pen_repeated : Array (Option Value)} {oc_pen_repeated kV_pen_repeated dc_pen_repeated pm_pen_repeated cd_pen_repeated ct_pen_repeated : Value}
    {p_strokes_drawn : Addr} {od_strokes_drawn an_strokes_drawn : Option Addr} {sl_strokes_drawn : Array (Option Value)} {oc_strokes_drawn kV_strokes_drawn dc_strokes_drawn pm_strokes_drawn cd_strokes_drawn ct_strokes_drawn : Value}
    {p_count_strokes : Addr} {od_count_strokes an_count_strokes : Option Addr} {sl_count_strokes : Array (Option Value)} {oc_count_strokes kV_count_strokes dc_count_strokes pm_count_strokes cd_count_strokes ct_count_strokes : Value}
    {p_count_strokes_of_deed : Addr} {od_count_strokes_of_deed an_count_strokes_of_deed : Option Addr} {sl_count_strokes_of_deed : Array (Option Value)} {oc_count_strokes_of_deed kV_count_strokes_of_deed dc_count_strokes_of_deed pm_count_strokes_of_deed cd_count_strokes_of_deed ct_count_strokes_of_deed : Value}
    {p_deeds_done : Addr} {od_deeds_done an_deeds_done : Option Addr} {sl_deeds_done : Array (Option Value)} {oc_deeds_done kV_deeds_done dc_deeds_done pm_deeds_done cd_deeds_done ct_deeds_done : Value}
    {p_count_done : Addr} {od_count_done an_count_done : Option Addr} {sl_count_done : Array (Option Value)} {oc_count_done kV_count_done dc_count_done pm_count_done cd_count_done ct_count_done : Value}
    {p_count_done_of_deed : Addr} {od_count_done_of_deed an_count_done_of_deed : Option Addr} {sl_count_done_of_deed : Array (Option Value)} {oc_count_done_of_deed kV_count_done_of_deed dc_count_done_of_deed pm_count_done_of_deed cd_count_done_of_deed ct_count_done_of_deed : Value}
    {p_is_small : Addr} {od_is_small an_is_small : Option Addr} {sl_is_small : Array (Option Value)} {oc_is_small kV_is_small dc_is_small pm_is_small cd_is_small ct_is_small : Value}
    {p_shown : Addr} {od_shown an_shown : Option Addr} {sl_shown : Array (Option Value)} {oc_shown kV_shown dc_shown pm_shown cd_shown ct_shown : Value}
    {p_marks_of : Addr} {od_marks_of an_marks_of : Option Addr} {sl_marks_of : Array (Option Value)} {oc_marks_of kV_marks_of dc_marks_of pm_marks_of cd_marks_of ct_marks_of : Value}
    {p__law_cell_at : Addr} {od__law_cell_at an__law_cell_at : Option Addr} {sl__law_cell_at : Array (Option Value)} {oc__law_cell_at kV__law_cell_at dc__law_cell_at pm__law_cell_at cd__law_cell_at ct__law_cell_at : Value}
    {p__law_whole : Addr} {od__law_whole an__law_whole : Option Addr} {sl__law_whole : Array (Option Value)} {oc__law_whole kV__law_whole dc__law_whole pm__law_whole cd__law_whole ct__law_whole : Value}
    {p__law_state : Addr} {od__law_state an__law_state : Option Addr} {sl__law_state : Array (Option Value)} {oc__law_state kV__law_state dc__law_state pm__law_state cd__law_state ct__law_state : Value}
    {p__law_choice : Addr} {od__law_choice an__law_choice : Option Addr} {sl__law_choice : Array (Option Value)} {oc__law_choice kV__law_choice dc__law_choice pm__law_choice cd__law_choice ct__law_choice : Value}
    {p__law_word : Addr} {od__law_word an__law_word : Option Addr} {sl__law_word : Array (Option Value)} {oc__law_word kV__law_word dc__law_word pm__law_word cd__law_word ct__law_word : Value}
    {p__law_drawn_word : Addr} {od__law_drawn_word an__law_drawn_word : Option Addr} {sl__law_drawn_word : Array (Option Value)} {oc__law_drawn_word kV__law_drawn_word dc__law_drawn_word pm__law_drawn_word cd__law_drawn_word ct__law_drawn_word : Value}
    {p__law_nested : Addr} {od__law_nested an__law_nested : Option Addr} {sl__law_nested : Array (Option Value)} {oc__law_nested kV__law_nested dc__law_nested pm__law_nested cd__law_nested ct__law_nested : Value}
    {p__law_bad_word : Addr} {od__law_bad_word an__law_bad_word : Option Addr} {sl__law_bad_word : Array (Option Value)} {oc__law_bad_word kV__law_bad_word dc__law_bad_word pm__law_bad_word cd__law_bad_word ct__law_bad_word : Value}
    {p__law_marks : Addr} {od__law_marks an__law_marks : Option Addr} {sl__law_marks : Array (Option Value)} {oc__law_marks kV__law_marks dc__law_marks pm__law_marks cd__law_marks ct__law_marks : Value}
    {p__law_refused : Addr} {od__law_refused an__law_refused : Option Addr} {sl__law_refused : Array (Option Value)} {oc__law_refused kV__law_refused dc__law_refused pm__law_refused cd__law_refused ct__law_refused : Value}
    {p__law_count : Addr} {od__law_count an__law_count : Option Addr} {sl__law_count : Array (Option Value)} {oc__law_count kV__law_count dc__law_count pm__law_count cd__law_count ct__law_count : Value}
    {p__law_called : Addr} {od__law_called an__law_called : Option Addr} {sl__law_called : Array (Option Value)} {oc__law_called kV__law_called dc__law_called pm__law_called cd__law_called ct__law_called : Value}
    {p__law_told : Addr} {od__law_told an__law_told : Option Addr} {sl__law_told : Array (Option Value)} {oc__law_told kV__law_told dc__law_told pm__law_told cd__law_told ct__law_told : Value}
    {p_law : Addr} {od_law an_law : Option Addr} {sl_law : Array (Option Value)} {oc_law kV_law dc_law pm_law cd_law ct_law : Value}
    {t_1 : Tok}
    {t_2 : Tok}
    {t_3 : Tok}
    {t_4 : Tok}
    {t_6 : Tok}
    {t_7 : Tok}
    {t_8 : Tok}
    {q_5 : Addr} {qo_5 : Option Addr} {qn_5 : Nat} {qs_5 : Array (Option Value)}
    {t_10 : Tok}
    {t_11 : Tok}
    {q_9 : Addr} {qo_9 : Option Addr} {qn_9 : Nat} {qs_9 : Array (Option Value)}
    {t_13 : Tok}
    {t_14 : Tok}
    {t_15 : Tok}
    {q_12 : Addr} {qo_12 : Option Addr} {qn_12 : Nat} {qs_12 : Array (Option Value)}
    {t_18 : Tok}
    {t_19 : Tok}
    {q_17 : Addr} {qo_17 : Option Addr} {qn_17 : Nat} {qs_17 : Array (Option Value)}
    {t_21 : Tok}
    {t_22 : Tok}
    {q_20 : Addr} {qo_20 : Option Addr} {qn_20 : Nat} {qs_20 : Array (Option Value)}
    {t_24 : Tok}
    {t_25 : Tok}
    {q_23 : Addr} {qo_23 : Option Addr} {qn_23 : Nat} {qs_23 : Array (Option Value)}
    {t_27 : Tok}
    {t_28 : Tok}
    {q_26 : Addr} {qo_26 : Option Addr} {qn_26 : Nat} {qs_26 : Array (Option Value)}
    {q_16 : Addr} {qo_16 : Option Addr} {qn_16 : Nat} {qs_16 : Array (Option Value)}
    {C_BadNote : Addr} {cdt_BadNote : ClassData}
    {C_NoNumber : Addr} {cdt_NoNumber : ClassData}
    {C_NoPicture : Addr} {cdt_NoPicture : ClassData}
    {C_NoRoom : Addr} {cdt_NoRoom : ClassData}
    {C_NoStep : Addr} {cdt_NoStep : ClassData}
    {C_NoWord : Addr} {cdt_NoWord : ClassData}
    {C_PenError : Addr} {cdt_PenError : ClassData}
    (a_deeds_in : PySem.W.nsIn K mainGlobals "deeds_in" = some (some (.ref p_deeds_in))) (l_deeds_in : K.lookup p_deeds_in = some ⟨oc_deeds_in, od_deeds_in, .func (PySem.W.fnOf "deeds_in" "deeds_in" (defArgs s_deeds_in) (defBody s_deeds_in) (defScope s_deeds_in) .none kV_deeds_in dc_deeds_in pm_deeds_in an_deeds_in cd_deeds_in ct_deeds_in), sl_deeds_in⟩) (c_deeds_in : PySem.W.codeIn K cd_deeds_in "deeds_in" = true) (k_deeds_in : PySem.W.keepIn K (.ref p_deeds_in) = true)
    (a_check_word : PySem.W.nsIn K mainGlobals "check_word" = some (some (.ref p_check_word))) (l_check_word : K.lookup p_check_word = some ⟨oc_check_word, od_check_word, .func (PySem.W.fnOf "check_word" "check_word" (defArgs s_check_word) (defBody s_check_word) (defScope s_check_word) .none kV_check_word dc_check_word pm_check_word an_check_word cd_check_word ct_check_word), sl_check_word⟩) (c_check_word : PySem.W.codeIn K cd_check_word "check_word" = true) (k_check_word : PySem.W.keepIn K (.ref p_check_word) = true)
    (a_checked_count : PySem.W.nsIn K mainGlobals "checked_count" = some (some (.ref p_checked_count))) (l_checked_count : K.lookup p_checked_count = some ⟨oc_checked_count, od_checked_count, .func (PySem.W.fnOf "checked_count" "checked_count" (defArgs s_checked_count) (defBody s_checked_count) (defScope s_checked_count) .none kV_checked_count dc_checked_count pm_checked_count an_checked_count cd_checked_count ct_checked_count), sl_checked_count⟩) (c_checked_count : PySem.W.codeIn K cd_checked_count "checked_count" = true) (k_checked_count : PySem.W.keepIn K (.ref p_checked_count) = true)
    (a_checked_deed_count : PySem.W.nsIn K mainGlobals "checked_deed_count" = some (some (.ref p_checked_deed_count))) (l_checked_deed_count : K.lookup p_checked_deed_count = some ⟨oc_checked_deed_count, od_checked_deed_count, .func (PySem.W.fnOf "checked_deed_count" "checked_deed_count" (defArgs s_checked_deed_count) (defBody s_checked_deed_count) (defScope s_checked_deed_count) .none kV_checked_deed_count dc_checked_deed_count pm_checked_deed_count an_checked_deed_count cd_checked_deed_count ct_checked_deed_count), sl_checked_deed_count⟩) (c_checked_deed_count : PySem.W.codeIn K cd_checked_deed_count "checked_deed_count" = true) (k_checked_deed_count : PySem.W.keepIn K (.ref p_checked_deed_count) = true)
    (a_check_number : PySem.W.nsIn K mainGlobals "check_number" = some (some (.ref p_check_number))) (l_check_number : K.lookup p_check_number = some ⟨oc_check_number, od_check_number, .func (PySem.W.fnOf "check_number" "check_number" (defArgs s_check_number) (defBody s_check_number) (defScope s_check_number) .none kV_check_number dc_check_number pm_check_number an_check_number cd_check_number ct_check_number), sl_check_number⟩) (c_check_number : PySem.W.codeIn K cd_check_number "check_number" = true) (k_check_number : PySem.W.keepIn K (.ref p_check_number) = true)
    (a_pen_after : PySem.W.nsIn K mainGlobals "pen_after" = some (some (.ref p_pen_after))) (l_pen_after : K.lookup p_pen_after = some ⟨oc_pen_after, od_pen_after, .func (PySem.W.fnOf "pen_after" "pen_after" (defArgs s_pen_after) (defBody s_pen_after) (defScope s_pen_after) .none kV_pen_after dc_pen_after pm_pen_after an_pen_after cd_pen_after ct_pen_after), sl_pen_after⟩) (c_pen_after : PySem.W.codeIn K cd_pen_after "pen_after" = true) (k_pen_after : PySem.W.keepIn K (.ref p_pen_after) = true)
    (a_carried : PySem.W.nsIn K mainGlobals "carried" = some (some (.ref p_carried))) (l_carried : K.lookup p_carried = some ⟨oc_carried, od_carried, .func (PySem.W.fnOf "carried" "carried" (defArgs s_carried) (defBody s_carried) (defScope s_carried) .none kV_carried dc_carried pm_carried an_carried cd_carried ct_carried), sl_carried⟩) (c_carried : PySem.W.codeIn K cd_carried "carried" = true) (k_carried : PySem.W.keepIn K (.ref p_carried) = true)
    (a_led : PySem.W.nsIn K mainGlobals "led" = some (some (.ref p_led))) (l_led : K.lookup p_led = some ⟨oc_led, od_led, .func (PySem.W.fnOf "led" "led" (defArgs s_led) (defBody s_led) (defScope s_led) .none kV_led dc_led pm_led an_led cd_led ct_led), sl_led⟩) (c_led : PySem.W.codeIn K cd_led "led" = true) (k_led : PySem.W.keepIn K (.ref p_led) = true)
    (a_pen_behind : PySem.W.nsIn K mainGlobals "pen_behind" = some (some (.ref p_pen_behind))) (l_pen_behind : K.lookup p_pen_behind = some ⟨oc_pen_behind, od_pen_behind, .func (PySem.W.fnOf "pen_behind" "pen_behind" (defArgs s_pen_behind) (defBody s_pen_behind) (defScope s_pen_behind) .none kV_pen_behind dc_pen_behind pm_pen_behind an_pen_behind cd_pen_behind ct_pen_behind), sl_pen_behind⟩) (c_pen_behind : PySem.W.codeIn K cd_pen_behind "pen_behind" = true) (k_pen_behind : PySem.W.keepIn K (.ref p_pen_behind) = true)
    (a_pen_behind_deed : PySem.W.nsIn K mainGlobals "pen_behind_deed" = some (some (.ref p_pen_behind_deed))) (l_pen_behind_deed : K.lookup p_pen_behind_deed = some ⟨oc_pen_behind_deed, od_pen_behind_deed, .func (PySem.W.fnOf "pen_behind_deed" "pen_behind_deed" (defArgs s_pen_behind_deed) (defBody s_pen_behind_deed) (defScope s_pen_behind_deed) .none kV_pen_behind_deed dc_pen_behind_deed pm_pen_behind_deed an_pen_behind_deed cd_pen_behind_deed ct_pen_behind_deed), sl_pen_behind_deed⟩) (c_pen_behind_deed : PySem.W.codeIn K cd_pen_behind_deed "pen_behind_deed" = true) (k_pen_behind_deed : PySem.W.keepIn K (.ref p_pen_behind_deed) = true)
    (a_pen_repeated : PySem.W.nsIn K mainGlobals "pen_repeated" = some (some (.ref p_pen_repeated))) (l_pen_repeated : K.lookup p_pen_repeated = some ⟨oc_pen_repeated, od_pen_repeated, .func (PySem.W.fnOf "pen_repeated" "pen_repeated" (defArgs s_pen_repeated) (defBody s_pen_repeated) (defScope s_pen_repeated) .none kV_pen_repeated dc_pen_repeated pm_pen_repeated an_pen_repeated cd_pen_repeated ct_pen_repeated), sl_pen_repeated⟩) (c_pen_repeated : PySem.W.codeIn K cd_pen_repeated "pen_repeated" = true) (k_pen_repeated : PySem.W.keepIn K (.ref p_pen_repeated) = true)
    (a_strokes_drawn : PySem.W.nsIn K mainGlobals "strokes_drawn" = some (some (.ref p_strokes_drawn))) (l_strokes_drawn : K.lookup p_strokes_drawn = some ⟨oc_strokes_drawn, od_strokes_drawn, .func (PySem.W.fnOf "strokes_drawn" "strokes_drawn" (defArgs s_strokes_drawn) (defBody s_strokes_drawn) (defScope s_strokes_drawn) .none kV_strokes_drawn dc_strokes_drawn pm_strokes_drawn an_strokes_drawn cd_strokes_drawn ct_strokes_drawn), sl_strokes_drawn⟩) (c_strokes_drawn : PySem.W.codeIn K cd_strokes_drawn "strokes_drawn" = true) (k_strokes_drawn : PySem.W.keepIn K (.ref p_strokes_drawn) = true)
    (a_count_strokes : PySem.W.nsIn K mainGlobals "count_strokes" = some (some (.ref p_count_strokes))) (l_count_strokes : K.lookup p_count_strokes = some ⟨oc_count_strokes, od_count_strokes, .func (PySem.W.fnOf "count_strokes" "count_strokes" (defArgs s_count_strokes) (defBody s_count_strokes) (defScope s_count_strokes) .none kV_count_strokes dc_count_strokes pm_count_strokes an_count_strokes cd_count_strokes ct_count_strokes), sl_count_strokes⟩) (c_count_strokes : PySem.W.codeIn K cd_count_strokes "count_strokes" = true) (k_count_strokes : PySem.W.keepIn K (.ref p_count_strokes) = true)
    (a_count_strokes_of_deed : PySem.W.nsIn K mainGlobals "count_strokes_of_deed" = some (some (.ref p_count_strokes_of_deed))) (l_count_strokes_of_deed : K.lookup p_count_strokes_of_deed = some ⟨oc_count_strokes_of_deed, od_count_strokes_of_deed, .func (PySem.W.fnOf "count_strokes_of_deed" "count_strokes_of_deed" (defArgs s_count_strokes_of_deed) (defBody s_count_strokes_of_deed) (defScope s_count_strokes_of_deed) .none kV_count_strokes_of_deed dc_count_strokes_of_deed pm_count_strokes_of_deed an_count_strokes_of_deed cd_count_strokes_of_deed ct_count_strokes_of_deed), sl_count_strokes_of_deed⟩) (c_count_strokes_of_deed : PySem.W.codeIn K cd_count_strokes_of_deed "count_strokes_of_deed" = true) (k_count_strokes_of_deed : PySem.W.keepIn K (.ref p_count_strokes_of_deed) = true)
    (a_deeds_done : PySem.W.nsIn K mainGlobals "deeds_done" = some (some (.ref p_deeds_done))) (l_deeds_done : K.lookup p_deeds_done = some ⟨oc_deeds_done, od_deeds_done, .func (PySem.W.fnOf "deeds_done" "deeds_done" (defArgs s_deeds_done) (defBody s_deeds_done) (defScope s_deeds_done) .none kV_deeds_done dc_deeds_done pm_deeds_done an_deeds_done cd_deeds_done ct_deeds_done), sl_deeds_done⟩) (c_deeds_done : PySem.W.codeIn K cd_deeds_done "deeds_done" = true) (k_deeds_done : PySem.W.keepIn K (.ref p_deeds_done) = true)
    (a_count_done : PySem.W.nsIn K mainGlobals "count_done" = some (some (.ref p_count_done))) (l_count_done : K.lookup p_count_done = some ⟨oc_count_done, od_count_done, .func (PySem.W.fnOf "count_done" "count_done" (defArgs s_count_done) (defBody s_count_done) (defScope s_count_done) .none kV_count_done dc_count_done pm_count_done an_count_done cd_count_done ct_count_done), sl_count_done⟩) (c_count_done : PySem.W.codeIn K cd_count_done "count_done" = true) (k_count_done : PySem.W.keepIn K (.ref p_count_done) = true)
    (a_count_done_of_deed : PySem.W.nsIn K mainGlobals "count_done_of_deed" = some (some (.ref p_count_done_of_deed))) (l_count_done_of_deed : K.lookup p_count_done_of_deed = some ⟨oc_count_done_of_deed, od_count_done_of_deed, .func (PySem.W.fnOf "count_done_of_deed" "count_done_of_deed" (defArgs s_count_done_of_deed) (defBody s_count_done_of_deed) (defScope s_count_done_of_deed) .none kV_count_done_of_deed dc_count_done_of_deed pm_count_done_of_deed an_count_done_of_deed cd_count_done_of_deed ct_count_done_of_deed), sl_count_done_of_deed⟩) (c_count_done_of_deed : PySem.W.codeIn K cd_count_done_of_deed "count_done_of_deed" = true) (k_count_done_of_deed : PySem.W.keepIn K (.ref p_count_done_of_deed) = true)
    (a_is_small : PySem.W.nsIn K mainGlobals "is_small" = some (some (.ref p_is_small))) (l_is_small : K.lookup p_is_small = some ⟨oc_is_small, od_is_small, .func (PySem.W.fnOf "is_small" "is_small" (defArgs s_is_small) (defBody s_is_small) (defScope s_is_small) .none kV_is_small dc_is_small pm_is_small an_is_small cd_is_small ct_is_small), sl_is_small⟩) (c_is_small : PySem.W.codeIn K cd_is_small "is_small" = true) (k_is_small : PySem.W.keepIn K (.ref p_is_small) = true)
    (a_shown : PySem.W.nsIn K mainGlobals "shown" = some (some (.ref p_shown))) (l_shown : K.lookup p_shown = some ⟨oc_shown, od_shown, .func (PySem.W.fnOf "shown" "shown" (defArgs s_shown) (defBody s_shown) (defScope s_shown) .none kV_shown dc_shown pm_shown an_shown cd_shown ct_shown), sl_shown⟩) (c_shown : PySem.W.codeIn K cd_shown "shown" = true) (k_shown : PySem.W.keepIn K (.ref p_shown) = true)
    (a_marks_of : PySem.W.nsIn K mainGlobals "marks_of" = some (some (.ref p_marks_of))) (l_marks_of : K.lookup p_marks_of = some ⟨oc_marks_of, od_marks_of, .func (PySem.W.fnOf "marks_of" "marks_of" (defArgs s_marks_of) (defBody s_marks_of) (defScope s_marks_of) .none kV_marks_of dc_marks_of pm_marks_of an_marks_of cd_marks_of ct_marks_of), sl_marks_of⟩) (c_marks_of : PySem.W.codeIn K cd_marks_of "marks_of" = true) (k_marks_of : PySem.W.keepIn K (.ref p_marks_of) = true)
    (a__law_cell_at : PySem.W.nsIn K mainGlobals "_law_cell_at" = some (some (.ref p__law_cell_at))) (l__law_cell_at : K.lookup p__law_cell_at = some ⟨oc__law_cell_at, od__law_cell_at, .func (PySem.W.fnOf "_law_cell_at" "_law_cell_at" (defArgs s__law_cell_at) (defBody s__law_cell_at) (defScope s__law_cell_at) .none kV__law_cell_at dc__law_cell_at pm__law_cell_at an__law_cell_at cd__law_cell_at ct__law_cell_at), sl__law_cell_at⟩) (c__law_cell_at : PySem.W.codeIn K cd__law_cell_at "_law_cell_at" = true) (k__law_cell_at : PySem.W.keepIn K (.ref p__law_cell_at) = true)
    (a__law_whole : PySem.W.nsIn K mainGlobals "_law_whole" = some (some (.ref p__law_whole))) (l__law_whole : K.lookup p__law_whole = some ⟨oc__law_whole, od__law_whole, .func (PySem.W.fnOf "_law_whole" "_law_whole" (defArgs s__law_whole) (defBody s__law_whole) (defScope s__law_whole) .none kV__law_whole dc__law_whole pm__law_whole an__law_whole cd__law_whole ct__law_whole), sl__law_whole⟩) (c__law_whole : PySem.W.codeIn K cd__law_whole "_law_whole" = true) (k__law_whole : PySem.W.keepIn K (.ref p__law_whole) = true)
    (a__law_state : PySem.W.nsIn K mainGlobals "_law_state" = some (some (.ref p__law_state))) (l__law_state : K.lookup p__law_state = some ⟨oc__law_state, od__law_state, .func (PySem.W.fnOf "_law_state" "_law_state" (defArgs s__law_state) (defBody s__law_state) (defScope s__law_state) .none kV__law_state dc__law_state pm__law_state an__law_state cd__law_state ct__law_state), sl__law_state⟩) (c__law_state : PySem.W.codeIn K cd__law_state "_law_state" = true) (k__law_state : PySem.W.keepIn K (.ref p__law_state) = true)
    (a__law_choice : PySem.W.nsIn K mainGlobals "_law_choice" = some (some (.ref p__law_choice))) (l__law_choice : K.lookup p__law_choice = some ⟨oc__law_choice, od__law_choice, .func (PySem.W.fnOf "_law_choice" "_law_choice" (defArgs s__law_choice) (defBody s__law_choice) (defScope s__law_choice) .none kV__law_choice dc__law_choice pm__law_choice an__law_choice cd__law_choice ct__law_choice), sl__law_choice⟩) (c__law_choice : PySem.W.codeIn K cd__law_choice "_law_choice" = true) (k__law_choice : PySem.W.keepIn K (.ref p__law_choice) = true)
    (a__law_word : PySem.W.nsIn K mainGlobals "_law_word" = some (some (.ref p__law_word))) (l__law_word : K.lookup p__law_word = some ⟨oc__law_word, od__law_word, .func (PySem.W.fnOf "_law_word" "_law_word" (defArgs s__law_word) (defBody s__law_word) (defScope s__law_word) .none kV__law_word dc__law_word pm__law_word an__law_word cd__law_word ct__law_word), sl__law_word⟩) (c__law_word : PySem.W.codeIn K cd__law_word "_law_word" = true) (k__law_word : PySem.W.keepIn K (.ref p__law_word) = true)
    (a__law_drawn_word : PySem.W.nsIn K mainGlobals "_law_drawn_word" = some (some (.ref p__law_drawn_word))) (l__law_drawn_word : K.lookup p__law_drawn_word = some ⟨oc__law_drawn_word, od__law_drawn_word, .func (PySem.W.fnOf "_law_drawn_word" "_law_drawn_word" (defArgs s__law_drawn_word) (defBody s__law_drawn_word) (defScope s__law_drawn_word) .none kV__law_drawn_word dc__law_drawn_word pm__law_drawn_word an__law_drawn_word cd__law_drawn_word ct__law_drawn_word), sl__law_drawn_word⟩) (c__law_drawn_word : PySem.W.codeIn K cd__law_drawn_word "_law_drawn_word" = true) (k__law_drawn_word : PySem.W.keepIn K (.ref p__law_drawn_word) = true)
    (a__law_nested : PySem.W.nsIn K mainGlobals "_law_nested" = some (some (.ref p__law_nested))) (l__law_nested : K.lookup p__law_nested = some ⟨oc__law_nested, od__law_nested, .func (PySem.W.fnOf "_law_nested" "_law_nested" (defArgs s__law_nested) (defBody s__law_nested) (defScope s__law_nested) .none kV__law_nested dc__law_nested pm__law_nested an__law_nested cd__law_nested ct__law_nested), sl__law_nested⟩) (c__law_nested : PySem.W.codeIn K cd__law_nested "_law_nested" = true) (k__law_nested : PySem.W.keepIn K (.ref p__law_nested) = true)
    (a__law_bad_word : PySem.W.nsIn K mainGlobals "_law_bad_word" = some (some (.ref p__law_bad_word))) (l__law_bad_word : K.lookup p__law_bad_word = some ⟨oc__law_bad_word, od__law_bad_word, .func (PySem.W.fnOf "_law_bad_word" "_law_bad_word" (defArgs s__law_bad_word) (defBody s__law_bad_word) (defScope s__law_bad_word) .none kV__law_bad_word dc__law_bad_word pm__law_bad_word an__law_bad_word cd__law_bad_word ct__law_bad_word), sl__law_bad_word⟩) (c__law_bad_word : PySem.W.codeIn K cd__law_bad_word "_law_bad_word" = true) (k__law_bad_word : PySem.W.keepIn K (.ref p__law_bad_word) = true)
    (a__law_marks : PySem.W.nsIn K mainGlobals "_law_marks" = some (some (.ref p__law_marks))) (l__law_marks : K.lookup p__law_marks = some ⟨oc__law_marks, od__law_marks, .func (PySem.W.fnOf "_law_marks" "_law_marks" (defArgs s__law_marks) (defBody s__law_marks) (defScope s__law_marks) .none kV__law_marks dc__law_marks pm__law_marks an__law_marks cd__law_marks ct__law_marks), sl__law_marks⟩) (c__law_marks : PySem.W.codeIn K cd__law_marks "_law_marks" = true) (k__law_marks : PySem.W.keepIn K (.ref p__law_marks) = true)
    (a__law_refused : PySem.W.nsIn K mainGlobals "_law_refused" = some (some (.ref p__law_refused))) (l__law_refused : K.lookup p__law_refused = some ⟨oc__law_refused, od__law_refused, .func (PySem.W.fnOf "_law_refused" "_law_refused" (defArgs s__law_refused) (defBody s__law_refused) (defScope s__law_refused) .none kV__law_refused dc__law_refused pm__law_refused an__law_refused cd__law_refused ct__law_refused), sl__law_refused⟩) (c__law_refused : PySem.W.codeIn K cd__law_refused "_law_refused" = true) (k__law_refused : PySem.W.keepIn K (.ref p__law_refused) = true)
    (a__law_count : PySem.W.nsIn K mainGlobals "_law_count" = some (some (.ref p__law_count))) (l__law_count : K.lookup p__law_count = some ⟨oc__law_count, od__law_count, .func (PySem.W.fnOf "_law_count" "_law_count" (defArgs s__law_count) (defBody s__law_count) (defScope s__law_count) .none kV__law_count dc__law_count pm__law_count an__law_count cd__law_count ct__law_count), sl__law_count⟩) (c__law_count : PySem.W.codeIn K cd__law_count "_law_count" = true) (k__law_count : PySem.W.keepIn K (.ref p__law_count) = true)
    (a__law_called : PySem.W.nsIn K mainGlobals "_law_called" = some (some (.ref p__law_called))) (l__law_called : K.lookup p__law_called = some ⟨oc__law_called, od__law_called, .func (PySem.W.fnOf "_law_called" "_law_called" (defArgs s__law_called) (defBody s__law_called) (defScope s__law_called) .none kV__law_called dc__law_called pm__law_called an__law_called cd__law_called ct__law_called), sl__law_called⟩) (c__law_called : PySem.W.codeIn K cd__law_called "_law_called" = true) (k__law_called : PySem.W.keepIn K (.ref p__law_called) = true)
    (a__law_told : PySem.W.nsIn K mainGlobals "_law_told" = some (some (.ref p__law_told))) (l__law_told : K.lookup p__law_told = some ⟨oc__law_told, od__law_told, .func (PySem.W.fnOf "_law_told" "_law_told" (defArgs s__law_told) (defBody s__law_told) (defScope s__law_told) .none kV__law_told dc__law_told pm__law_told an__law_told cd__law_told ct__law_told), sl__law_told⟩) (c__law_told : PySem.W.codeIn K cd__law_told "_law_told" = true) (k__law_told : PySem.W.keepIn K (.ref p__law_told) = true)
    (a_law : PySem.W.nsIn K mainGlobals "law" = some (some (.ref p_law))) (l_law : K.lookup p_law = some ⟨oc_law, od_law, .func (PySem.W.fnOf "law" "law" (defArgs s_law) (defBody s_law) (defScope s_law) .none kV_law dc_law pm_law an_law cd_law ct_law), sl_law⟩) (c_law : PySem.W.codeIn K cd_law "law" = true) (k_law : PySem.W.keepIn K (.ref p_law) = true)
    (e_MOST_DEEDS : PySem.W.nsIn K mainGlobals "MOST_DEEDS" = some (some (.int (30) t_1)))
    (e_MOST_DEEP : PySem.W.nsIn K mainGlobals "MOST_DEEP" = some (some (.int (4) t_2)))
    (e_GREATEST_NUMBER : PySem.W.nsIn K mainGlobals "GREATEST_NUMBER" = some (some (.int (99999999999999999999) t_3)))
    (e_MOST_OF_SMALL : PySem.W.nsIn K mainGlobals "MOST_OF_SMALL" = some (some (.int (400) t_4)))
    (e_PLAIN_KINDS : PySem.W.nsIn K mainGlobals "PLAIN_KINDS" = some (some (.ref q_5)))
    (ql_5 : K.lookup q_5 = some ⟨.type "tuple", qo_5, .seq #[.str "go" t_6, .str "jump" t_7, .str "turn" t_8] qn_5, qs_5⟩)
    (e_KINDS_FROM_NOUGHT : PySem.W.nsIn K mainGlobals "KINDS_FROM_NOUGHT" = some (some (.ref q_9)))
    (ql_9 : K.lookup q_9 = some ⟨.type "tuple", qo_9, .seq #[.str "go" t_10, .str "times" t_11] qn_9, qs_9⟩)
    (e_START : PySem.W.nsIn K mainGlobals "START" = some (some (.ref q_12)))
    (ql_12 : K.lookup q_12 = some ⟨.type "tuple", qo_12, .seq #[.int (0) t_13, .int (0) t_14, .int (0) t_15] qn_12, qs_12⟩)
    (e_AHEAD : PySem.W.nsIn K mainGlobals "AHEAD" = some (some (.ref q_16)))
    (ql_16 : K.lookup q_16 = some ⟨.type "tuple", qo_16, .seq #[.ref q_17, .ref q_20, .ref q_23, .ref q_26] qn_16, qs_16⟩)
    (ql_26 : K.lookup q_26 = some ⟨.type "tuple", qo_26, .seq #[.int (0) t_27, .int (-1) t_28] qn_26, qs_26⟩)
    (ql_23 : K.lookup q_23 = some ⟨.type "tuple", qo_23, .seq #[.int (-1) t_24, .int (0) t_25] qn_23, qs_23⟩)
    (ql_20 : K.lookup q_20 = some ⟨.type "tuple", qo_20, .seq #[.int (0) t_21, .int (1) t_22] qn_20, qs_20⟩)
    (ql_17 : K.lookup q_17 = some ⟨.type "tuple", qo_17, .seq #[.int (1) t_18, .int (0) t_19] qn_17, qs_17⟩)
    (ac_BadNote : PySem.W.nsIn K mainGlobals "BadNote" = some (some (.ref C_BadNote)))
    (cl_BadNote : PySem.W.clsIn K C_BadNote = some cdt_BadNote)
    (tc_BadNote : PySem.W.typeIn K (.ref C_BadNote) = some (.type "type"))
    (ac_NoNumber : PySem.W.nsIn K mainGlobals "NoNumber" = some (some (.ref C_NoNumber)))
    (cl_NoNumber : PySem.W.clsIn K C_NoNumber = some cdt_NoNumber)
    (tc_NoNumber : PySem.W.typeIn K (.ref C_NoNumber) = some (.type "type"))
    (ac_NoPicture : PySem.W.nsIn K mainGlobals "NoPicture" = some (some (.ref C_NoPicture)))
    (cl_NoPicture : PySem.W.clsIn K C_NoPicture = some cdt_NoPicture)
    (tc_NoPicture : PySem.W.typeIn K (.ref C_NoPicture) = some (.type "type"))
    (ac_NoRoom : PySem.W.nsIn K mainGlobals "NoRoom" = some (some (.ref C_NoRoom)))
    (cl_NoRoom : PySem.W.clsIn K C_NoRoom = some cdt_NoRoom)
    (tc_NoRoom : PySem.W.typeIn K (.ref C_NoRoom) = some (.type "type"))
    (ac_NoStep : PySem.W.nsIn K mainGlobals "NoStep" = some (some (.ref C_NoStep)))
    (cl_NoStep : PySem.W.clsIn K C_NoStep = some cdt_NoStep)
    (tc_NoStep : PySem.W.typeIn K (.ref C_NoStep) = some (.type "type"))
    (ac_NoWord : PySem.W.nsIn K mainGlobals "NoWord" = some (some (.ref C_NoWord)))
    (cl_NoWord : PySem.W.clsIn K C_NoWord = some cdt_NoWord)
    (tc_NoWord : PySem.W.typeIn K (.ref C_NoWord) = some (.type "type"))
    (ac_PenError : PySem.W.nsIn K mainGlobals "PenError" = some (some (.ref C_PenError)))
    (cl_PenError : PySem.W.clsIn K C_PenError = some cdt_PenError)
    (tc_PenError : PySem.W.typeIn K (.ref C_PenError) = some (.type "type"))
    (q_NoWord : PySem.W.excIn K C_NoWord [.type "ValueError", .type "Exception", .type "BaseException", .type "object"] "ValueError.__new__" = true)
    (ek0_NoWord : PySem.W.findIn K (.ref C_NoWord) "__getattribute__" = some (some (.builtin "BaseException.__getattribute__")))
    (ek1_NoWord : PySem.W.findIn K (.ref C_NoWord) "__getattr__" = some none)
    (ek2_NoWord : PySem.W.mroIn K C_NoWord (.type "BaseException") = some true)
    (ek4_NoWord : PySem.W.findIn K (.ref C_NoWord) "__class__" = some (some (.builtin "object.__class__")))
    (ek5_NoWord : PySem.W.specialIn K (.builtin "object.__class__") "__get__" = some (some (.builtin "getset_descriptor.__get__")))
    (ek6_NoWord : PySem.W.takesIn K (.builtin "object.__class__") = some true)
    (ek7_NoWord : PySem.W.mroIn K C_NoWord (.type "object") = some true)
    (sb_NoWord_BadNote : PySem.W.subIn K (.ref C_NoWord) (.ref C_BadNote) = some false)
    (ne_NoWord_BadNote : (Value.ref C_NoWord == Value.ref C_BadNote) = false)
    (sb_NoWord_NoNumber : PySem.W.subIn K (.ref C_NoWord) (.ref C_NoNumber) = some false)
    (ne_NoWord_NoNumber : (Value.ref C_NoWord == Value.ref C_NoNumber) = false)
    (sb_NoWord_NoPicture : PySem.W.subIn K (.ref C_NoWord) (.ref C_NoPicture) = some false)
    (ne_NoWord_NoPicture : (Value.ref C_NoWord == Value.ref C_NoPicture) = false)
    (sb_NoWord_NoRoom : PySem.W.subIn K (.ref C_NoWord) (.ref C_NoRoom) = some false)
    (ne_NoWord_NoRoom : (Value.ref C_NoWord == Value.ref C_NoRoom) = false)
    (sb_NoWord_NoStep : PySem.W.subIn K (.ref C_NoWord) (.ref C_NoStep) = some false)
    (ne_NoWord_NoStep : (Value.ref C_NoWord == Value.ref C_NoStep) = false)
    (sb_NoWord_ValueError : PySem.W.subIn K (.ref C_NoWord) (.type "ValueError") = some true)
    (k3s : PySem.W.subIn K (.type "type") (.type "tuple") = some false)
    (k2s_PenError : PySem.W.subIn K (.ref C_PenError) (.type "BaseException") = some true)
    (sb_NoWord_PenError : PySem.W.subIn K (.ref C_NoWord) (.ref C_PenError) = some true)
    (zz_ValueError : PySem.W.nsIn K mainGlobals "ValueError" = some none)
    (zz_abs : PySem.W.nsIn K mainGlobals "abs" = some none)
    (zz_bool : PySem.W.nsIn K mainGlobals "bool" = some none)
    (zz_int : PySem.W.nsIn K mainGlobals "int" = some none)
    (zz_isinstance : PySem.W.nsIn K mainGlobals "isinstance" = some none)
    (zz_len : PySem.W.nsIn K mainGlobals "len" = some none)
    (zz_range : PySem.W.nsIn K mainGlobals "range" = some none)
    (zz_str : PySem.W.nsIn K mainGlobals "str" = some none)
    (zz_sum : PySem.W.nsIn K mainGlobals "sum" = some none)
    (zz_tuple : PySem.W.nsIn K mainGlobals "tuple" = some none) :
    ∃ fd : FuncData, (∀ (s : Shared) (v : Value), BindsTo s fd ⟨[v], []⟩ [("script", v)]) ∧ ∀ base : Heap, K.In base → base.Ns mainGlobals mg → FnOk l.prog w K mg base CX0 18 fa fd ["script"] (lift K spLaw) := by
  have e := hfa.symm.trans (PySem.W.mg_of X G a_law)
  cases e
  have g_MOST_DEEDS : Gd K mg "MOST_DEEDS" k_MOST_DEEDS := gd_int X G e_MOST_DEEDS
  have g_MOST_DEEP : Gd K mg "MOST_DEEP" k_MOST_DEEP := gd_int X G e_MOST_DEEP
  have g_GREATEST_NUMBER : Gd K mg "GREATEST_NUMBER" k_GREATEST_NUMBER := gd_int X G e_GREATEST_NUMBER
  have g_MOST_OF_SMALL : Gd K mg "MOST_OF_SMALL" k_MOST_OF_SMALL := gd_int X G e_MOST_OF_SMALL
  have g_PLAIN_KINDS : Gd K mg "PLAIN_KINDS" k_PLAIN_KINDS := gd_tup X G e_PLAIN_KINDS (TupK.mk ql_5 (show 3 ≤ sizeLine by decide) (.str (.str (.str .nil))))
  have g_KINDS_FROM_NOUGHT : Gd K mg "KINDS_FROM_NOUGHT" k_KINDS_FROM_NOUGHT := gd_tup X G e_KINDS_FROM_NOUGHT (TupK.mk ql_9 (show 2 ≤ sizeLine by decide) (.str (.str .nil)))
  have g_START : Gd K mg "START" k_START := gd_tup X G e_START (TupK.mk ql_12 (show 3 ≤ sizeLine by decide) (.int (.int (.int .nil))))
  have g_AHEAD : Gd K mg "AHEAD" k_AHEAD := gd_tup X G e_AHEAD (TupK.mk ql_16 (show 4 ≤ sizeLine by decide) (.tup (TupK.mk ql_17 (show 2 ≤ sizeLine by decide) (.int (.int .nil))) (.tup (TupK.mk ql_20 (show 2 ≤ sizeLine by decide) (.int (.int .nil))) (.tup (TupK.mk ql_23 (show 2 ≤ sizeLine by decide) (.int (.int .nil))) (.tup (TupK.mk ql_26 (show 2 ≤ sizeLine by decide) (.int (.int .nil))) .nil)))))
  have m_BadNote := PySem.W.mg_of X G ac_BadNote
  have m_NoNumber := PySem.W.mg_of X G ac_NoNumber
  have m_NoPicture := PySem.W.mg_of X G ac_NoPicture
  have m_NoRoom := PySem.W.mg_of X G ac_NoRoom
  have m_NoStep := PySem.W.mg_of X G ac_NoStep
  have m_NoWord := PySem.W.mg_of X G ac_NoWord
  have m_PenError := PySem.W.mg_of X G ac_PenError
  have EK_NoWord : ExcK K C_NoWord := ⟨ek0_NoWord, ek1_NoWord, ek2_NoWord, (by rw [cl_NoWord]; rfl), ek4_NoWord, ek5_NoWord, ek6_NoWord, ek7_NoWord⟩
  have kk_NoWord_BadNote : PySem.W.kitOne K (.ref C_NoWord) (.ref C_BadNote) = some false := kitO_of ne_NoWord_BadNote (kitC_ref cl_BadNote tc_BadNote sb_NoWord_BadNote)
  have x_BadNote : ∀ c C b, subX "BadNote" c = some b → PySem.W.nsIn K mainGlobals c = some (some (.ref C)) → ExcK K C ∧ PySem.W.kitOne K (.ref C) (.ref C_BadNote) = some b := by
    intro c C b hs hn
    have hin := subX_in hs
    simp only [xnames, List.mem_cons, List.not_mem_nil, or_false] at hin
    rcases hin with rfl
    · rw [ac_NoWord] at hn
      cases hn
      rw [show subX "BadNote" "NoWord" = some false by decide] at hs
      cases hs
      exact ⟨EK_NoWord, kk_NoWord_BadNote⟩
  have kk_NoWord_NoNumber : PySem.W.kitOne K (.ref C_NoWord) (.ref C_NoNumber) = some false := kitO_of ne_NoWord_NoNumber (kitC_ref cl_NoNumber tc_NoNumber sb_NoWord_NoNumber)
  have x_NoNumber : ∀ c C b, subX "NoNumber" c = some b → PySem.W.nsIn K mainGlobals c = some (some (.ref C)) → ExcK K C ∧ PySem.W.kitOne K (.ref C) (.ref C_NoNumber) = some b := by
    intro c C b hs hn
    have hin := subX_in hs
    simp only [xnames, List.mem_cons, List.not_mem_nil, or_false] at hin
    rcases hin with rfl
    · rw [ac_NoWord] at hn
      cases hn
      rw [show subX "NoNumber" "NoWord" = some false by decide] at hs
      cases hs
      exact ⟨EK_NoWord, kk_NoWord_NoNumber⟩
  have kk_NoWord_NoPicture : PySem.W.kitOne K (.ref C_NoWord) (.ref C_NoPicture) = some false := kitO_of ne_NoWord_NoPicture (kitC_ref cl_NoPicture tc_NoPicture sb_NoWord_NoPicture)
  have x_NoPicture : ∀ c C b, subX "NoPicture" c = some b → PySem.W.nsIn K mainGlobals c = some (some (.ref C)) → ExcK K C ∧ PySem.W.kitOne K (.ref C) (.ref C_NoPicture) = some b := by
    intro c C b hs hn
    have hin := subX_in hs
    simp only [xnames, List.mem_cons, List.not_mem_nil, or_false] at hin
    rcases hin with rfl
    · rw [ac_NoWord] at hn
      cases hn
      rw [show subX "NoPicture" "NoWord" = some false by decide] at hs
      cases hs
      exact ⟨EK_NoWord, kk_NoWord_NoPicture⟩
  have kk_NoWord_NoRoom : PySem.W.kitOne K (.ref C_NoWord) (.ref C_NoRoom) = some false := kitO_of ne_NoWord_NoRoom (kitC_ref cl_NoRoom tc_NoRoom sb_NoWord_NoRoom)
  have x_NoRoom : ∀ c C b, subX "NoRoom" c = some b → PySem.W.nsIn K mainGlobals c = some (some (.ref C)) → ExcK K C ∧ PySem.W.kitOne K (.ref C) (.ref C_NoRoom) = some b := by
    intro c C b hs hn
    have hin := subX_in hs
    simp only [xnames, List.mem_cons, List.not_mem_nil, or_false] at hin
    rcases hin with rfl
    · rw [ac_NoWord] at hn
      cases hn
      rw [show subX "NoRoom" "NoWord" = some false by decide] at hs
      cases hs
      exact ⟨EK_NoWord, kk_NoWord_NoRoom⟩
  have kk_NoWord_NoStep : PySem.W.kitOne K (.ref C_NoWord) (.ref C_NoStep) = some false := kitO_of ne_NoWord_NoStep (kitC_ref cl_NoStep tc_NoStep sb_NoWord_NoStep)
  have x_NoStep : ∀ c C b, subX "NoStep" c = some b → PySem.W.nsIn K mainGlobals c = some (some (.ref C)) → ExcK K C ∧ PySem.W.kitOne K (.ref C) (.ref C_NoStep) = some b := by
    intro c C b hs hn
    have hin := subX_in hs
    simp only [xnames, List.mem_cons, List.not_mem_nil, or_false] at hin
    rcases hin with rfl
    · rw [ac_NoWord] at hn
      cases hn
      rw [show subX "NoStep" "NoWord" = some false by decide] at hs
      cases hs
      exact ⟨EK_NoWord, kk_NoWord_NoStep⟩
  have kk_NoWord_NoWord : PySem.W.kitOne K (.ref C_NoWord) (.ref C_NoWord) = some true := kitO_same
  have x_NoWord : ∀ c C b, subX "NoWord" c = some b → PySem.W.nsIn K mainGlobals c = some (some (.ref C)) → ExcK K C ∧ PySem.W.kitOne K (.ref C) (.ref C_NoWord) = some b := by
    intro c C b hs hn
    have hin := subX_in hs
    simp only [xnames, List.mem_cons, List.not_mem_nil, or_false] at hin
    rcases hin with rfl
    · rw [ac_NoWord] at hn
      cases hn
      rw [show subX "NoWord" "NoWord" = some true by decide] at hs
      cases hs
      exact ⟨EK_NoWord, kk_NoWord_NoWord⟩
  have kk_NoWord_ValueError : PySem.W.kitOne K (.ref C_NoWord) (.type "ValueError") = some true := kitO_of rfl (kitC_ty (by decide +kernel) sb_NoWord_ValueError)
  have x_ValueError : ∀ c C b, subX "ValueError" c = some b → PySem.W.nsIn K mainGlobals c = some (some (.ref C)) → ExcK K C ∧ PySem.W.kitOne K (.ref C) (.type "ValueError") = some b := by
    intro c C b hs hn
    have hin := subX_in hs
    simp only [xnames, List.mem_cons, List.not_mem_nil, or_false] at hin
    rcases hin with rfl
    · rw [ac_NoWord] at hn
      cases hn
      rw [show subX "ValueError" "NoWord" = some true by decide] at hs
      cases hs
      exact ⟨EK_NoWord, kk_NoWord_ValueError⟩
  have k3 : PySem.W.kitCls K (.type "type") (.type "tuple") = some false := kitC_ty (by decide +kernel) k3s
  have k2_PenError := kitC_ty (T := "BaseException") (by decide +kernel) k2s_PenError
  have kc_NoWord_PenError := kitC_ref cl_PenError tc_PenError sb_NoWord_PenError
  have ok_PenError : ∀ c, okX c = true → ∃ C, PySem.W.nsIn K mainGlobals c = some (some (.ref C)) ∧ mg c = some (.ref C) ∧ PySem.W.kitCls K (.ref C) (.ref C_PenError) = some true := by
    intro c h
    have hin : c ∈ xnames := by simpa [okX] using h
    simp only [xnames, List.mem_cons, List.not_mem_nil, or_false] at hin
    rcases hin with rfl
    · exact ⟨C_NoWord, ac_NoWord, m_NoWord, kc_NoWord_PenError⟩
  have z_ValueError := PySem.W.mg_none_of X G zz_ValueError
  have z_abs := PySem.W.mg_none_of X G zz_abs
  have z_bool := PySem.W.mg_none_of X G zz_bool
  have z_int := PySem.W.mg_none_of X G zz_int
  have z_isinstance := PySem.W.mg_none_of X G zz_isinstance
  have z_len := PySem.W.mg_none_of X G zz_len
  have z_range := PySem.W.mg_none_of X G zz_range
  have z_str := PySem.W.mg_none_of X G zz_str
  have z_sum := PySem.W.mg_none_of X G zz_sum
  have z_tuple := PySem.W.mg_none_of X G zz_tuple
  have F_deeds_in := fun_mk (st := s_deeds_in) l_deeds_in c_deeds_in k_deeds_in
  have b_deeds_in := F_deeds_in.binds (ps := ["word"]) fun _ _ _ _ _ _ us hl => by obtain ⟨_, rfl⟩ := len1 hl; rfl
  have m_deeds_in := PySem.W.mg_of X G a_deeds_in
  have F_check_word := fun_mk (st := s_check_word) l_check_word c_check_word k_check_word
  have b_check_word := F_check_word.binds (ps := ["word"]) fun _ _ _ _ _ _ us hl => by obtain ⟨_, rfl⟩ := len1 hl; rfl
  have m_check_word := PySem.W.mg_of X G a_check_word
  have F_checked_count := fun_mk (st := s_checked_count) l_checked_count c_checked_count k_checked_count
  have b_checked_count := F_checked_count.binds (ps := ["word", "depth"]) fun _ _ _ _ _ _ us hl => by obtain ⟨_, _, rfl⟩ := len2 hl; rfl
  have m_checked_count := PySem.W.mg_of X G a_checked_count
  have F_checked_deed_count := fun_mk (st := s_checked_deed_count) l_checked_deed_count c_checked_deed_count k_checked_deed_count
  have b_checked_deed_count := F_checked_deed_count.binds (ps := ["deed", "depth"]) fun _ _ _ _ _ _ us hl => by obtain ⟨_, _, rfl⟩ := len2 hl; rfl
  have m_checked_deed_count := PySem.W.mg_of X G a_checked_deed_count
  have F_check_number := fun_mk (st := s_check_number) l_check_number c_check_number k_check_number
  have b_check_number := F_check_number.binds (ps := ["kind", "number"]) fun _ _ _ _ _ _ us hl => by obtain ⟨_, _, rfl⟩ := len2 hl; rfl
  have m_check_number := PySem.W.mg_of X G a_check_number
  have F_pen_after := fun_mk (st := s_pen_after) l_pen_after c_pen_after k_pen_after
  have b_pen_after := F_pen_after.binds (ps := ["word"]) fun _ _ _ _ _ _ us hl => by obtain ⟨_, rfl⟩ := len1 hl; rfl
  have m_pen_after := PySem.W.mg_of X G a_pen_after
  have F_carried := fun_mk (st := s_carried) l_carried c_carried k_carried
  have b_carried := F_carried.binds (ps := ["pen", "word"]) fun _ _ _ _ _ _ us hl => by obtain ⟨_, _, rfl⟩ := len2 hl; rfl
  have m_carried := PySem.W.mg_of X G a_carried
  have F_led := fun_mk (st := s_led) l_led c_led k_led
  have b_led := F_led.binds (ps := ["pen", "part"]) fun _ _ _ _ _ _ us hl => by obtain ⟨_, _, rfl⟩ := len2 hl; rfl
  have m_led := PySem.W.mg_of X G a_led
  have F_pen_behind := fun_mk (st := s_pen_behind) l_pen_behind c_pen_behind k_pen_behind
  have b_pen_behind := F_pen_behind.binds (ps := ["word"]) fun _ _ _ _ _ _ us hl => by obtain ⟨_, rfl⟩ := len1 hl; rfl
  have m_pen_behind := PySem.W.mg_of X G a_pen_behind
  have F_pen_behind_deed := fun_mk (st := s_pen_behind_deed) l_pen_behind_deed c_pen_behind_deed k_pen_behind_deed
  have b_pen_behind_deed := F_pen_behind_deed.binds (ps := ["deed"]) fun _ _ _ _ _ _ us hl => by obtain ⟨_, rfl⟩ := len1 hl; rfl
  have m_pen_behind_deed := PySem.W.mg_of X G a_pen_behind_deed
  have F_pen_repeated := fun_mk (st := s_pen_repeated) l_pen_repeated c_pen_repeated k_pen_repeated
  have b_pen_repeated := F_pen_repeated.binds (ps := ["part", "number"]) fun _ _ _ _ _ _ us hl => by obtain ⟨_, _, rfl⟩ := len2 hl; rfl
  have m_pen_repeated := PySem.W.mg_of X G a_pen_repeated
  have F_strokes_drawn := fun_mk (st := s_strokes_drawn) l_strokes_drawn c_strokes_drawn k_strokes_drawn
  have b_strokes_drawn := F_strokes_drawn.binds (ps := ["word"]) fun _ _ _ _ _ _ us hl => by obtain ⟨_, rfl⟩ := len1 hl; rfl
  have m_strokes_drawn := PySem.W.mg_of X G a_strokes_drawn
  have F_count_strokes := fun_mk (st := s_count_strokes) l_count_strokes c_count_strokes k_count_strokes
  have b_count_strokes := F_count_strokes.binds (ps := ["word"]) fun _ _ _ _ _ _ us hl => by obtain ⟨_, rfl⟩ := len1 hl; rfl
  have m_count_strokes := PySem.W.mg_of X G a_count_strokes
  have F_count_strokes_of_deed := fun_mk (st := s_count_strokes_of_deed) l_count_strokes_of_deed c_count_strokes_of_deed k_count_strokes_of_deed
  have b_count_strokes_of_deed := F_count_strokes_of_deed.binds (ps := ["deed"]) fun _ _ _ _ _ _ us hl => by obtain ⟨_, rfl⟩ := len1 hl; rfl
  have m_count_strokes_of_deed := PySem.W.mg_of X G a_count_strokes_of_deed
  have F_deeds_done := fun_mk (st := s_deeds_done) l_deeds_done c_deeds_done k_deeds_done
  have b_deeds_done := F_deeds_done.binds (ps := ["word"]) fun _ _ _ _ _ _ us hl => by obtain ⟨_, rfl⟩ := len1 hl; rfl
  have m_deeds_done := PySem.W.mg_of X G a_deeds_done
  have F_count_done := fun_mk (st := s_count_done) l_count_done c_count_done k_count_done
  have b_count_done := F_count_done.binds (ps := ["word"]) fun _ _ _ _ _ _ us hl => by obtain ⟨_, rfl⟩ := len1 hl; rfl
  have m_count_done := PySem.W.mg_of X G a_count_done
  have F_count_done_of_deed := fun_mk (st := s_count_done_of_deed) l_count_done_of_deed c_count_done_of_deed k_count_done_of_deed
  have b_count_done_of_deed := F_count_done_of_deed.binds (ps := ["deed"]) fun _ _ _ _ _ _ us hl => by obtain ⟨_, rfl⟩ := len1 hl; rfl
  have m_count_done_of_deed := PySem.W.mg_of X G a_count_done_of_deed
  have F_is_small := fun_mk (st := s_is_small) l_is_small c_is_small k_is_small
  have b_is_small := F_is_small.binds (ps := ["word"]) fun _ _ _ _ _ _ us hl => by obtain ⟨_, rfl⟩ := len1 hl; rfl
  have m_is_small := PySem.W.mg_of X G a_is_small
  have F_shown := fun_mk (st := s_shown) l_shown c_shown k_shown
  have b_shown := F_shown.binds (ps := ["word"]) fun _ _ _ _ _ _ us hl => by obtain ⟨_, rfl⟩ := len1 hl; rfl
  have m_shown := PySem.W.mg_of X G a_shown
  have F_marks_of := fun_mk (st := s_marks_of) l_marks_of c_marks_of k_marks_of
  have b_marks_of := F_marks_of.binds (ps := ["word"]) fun _ _ _ _ _ _ us hl => by obtain ⟨_, rfl⟩ := len1 hl; rfl
  have m_marks_of := PySem.W.mg_of X G a_marks_of
  have F__law_cell_at := fun_mk (st := s__law_cell_at) l__law_cell_at c__law_cell_at k__law_cell_at
  have b__law_cell_at := F__law_cell_at.binds (ps := ["script", "k"]) fun _ _ _ _ _ _ us hl => by obtain ⟨_, _, rfl⟩ := len2 hl; rfl
  have m__law_cell_at := PySem.W.mg_of X G a__law_cell_at
  have F__law_whole := fun_mk (st := s__law_whole) l__law_whole c__law_whole k__law_whole
  have b__law_whole := F__law_whole.binds (ps := ["found"]) fun _ _ _ _ _ _ us hl => by obtain ⟨_, rfl⟩ := len1 hl; rfl
  have m__law_whole := PySem.W.mg_of X G a__law_whole
  have F__law_state := fun_mk (st := s__law_state) l__law_state c__law_state k__law_state
  have b__law_state := F__law_state.binds (ps := ["script", "k"]) fun _ _ _ _ _ _ us hl => by obtain ⟨_, _, rfl⟩ := len2 hl; rfl
  have m__law_state := PySem.W.mg_of X G a__law_state
  have F__law_choice := fun_mk (st := s__law_choice) l__law_choice c__law_choice k__law_choice
  have b__law_choice := F__law_choice.binds (ps := ["state", "many"]) fun _ _ _ _ _ _ us hl => by obtain ⟨_, _, rfl⟩ := len2 hl; rfl
  have m__law_choice := PySem.W.mg_of X G a__law_choice
  have F__law_word := fun_mk (st := s__law_word) l__law_word c__law_word k__law_word
  have b__law_word := F__law_word.binds (ps := ["state", "deep"]) fun _ _ _ _ _ _ us hl => by obtain ⟨_, _, rfl⟩ := len2 hl; rfl
  have m__law_word := PySem.W.mg_of X G a__law_word
  have F__law_drawn_word := fun_mk (st := s__law_drawn_word) l__law_drawn_word c__law_drawn_word k__law_drawn_word
  have b__law_drawn_word := F__law_drawn_word.binds (ps := ["script", "k", "deep", "most"]) fun _ _ _ _ _ _ us hl => by obtain ⟨_, _, _, _, rfl⟩ := len4 hl; rfl
  have m__law_drawn_word := PySem.W.mg_of X G a__law_drawn_word
  have F__law_nested := fun_mk (st := s__law_nested) l__law_nested c__law_nested k__law_nested
  have b__law_nested := F__law_nested.binds (ps := ["deep", "inner"]) fun _ _ _ _ _ _ us hl => by obtain ⟨_, _, rfl⟩ := len2 hl; rfl
  have m__law_nested := PySem.W.mg_of X G a__law_nested
  have F__law_bad_word := fun_mk (st := s__law_bad_word) l__law_bad_word c__law_bad_word k__law_bad_word
  have b__law_bad_word := F__law_bad_word.binds (ps := ["state"]) fun _ _ _ _ _ _ us hl => by obtain ⟨_, rfl⟩ := len1 hl; rfl
  have m__law_bad_word := PySem.W.mg_of X G a__law_bad_word
  have F__law_marks := fun_mk (st := s__law_marks) l__law_marks c__law_marks k__law_marks
  have b__law_marks := F__law_marks.binds (ps := ["e"]) fun _ _ _ _ _ _ us hl => by obtain ⟨_, rfl⟩ := len1 hl; rfl
  have m__law_marks := PySem.W.mg_of X G a__law_marks
  have F__law_refused := fun_mk (st := s__law_refused) l__law_refused c__law_refused k__law_refused
  have b__law_refused := F__law_refused.binds (ps := ["marks", "which"]) fun _ _ _ _ _ _ us hl => by obtain ⟨_, _, rfl⟩ := len2 hl; rfl
  have m__law_refused := PySem.W.mg_of X G a__law_refused
  have F__law_count := fun_mk (st := s__law_count) l__law_count c__law_count k__law_count
  have b__law_count := F__law_count.binds (ps := ["deeds"]) fun _ _ _ _ _ _ us hl => by obtain ⟨_, rfl⟩ := len1 hl; rfl
  have m__law_count := PySem.W.mg_of X G a__law_count
  have F__law_called := fun_mk (st := s__law_called) l__law_called c__law_called k__law_called
  have b__law_called := F__law_called.binds (ps := ["way", "deeds"]) fun _ _ _ _ _ _ us hl => by obtain ⟨_, _, rfl⟩ := len2 hl; rfl
  have m__law_called := PySem.W.mg_of X G a__law_called
  have F__law_told := fun_mk (st := s__law_told) l__law_told c__law_told k__law_told
  have b__law_told := F__law_told.binds (ps := ["way", "deeds"]) fun _ _ _ _ _ _ us hl => by obtain ⟨_, _, rfl⟩ := len2 hl; rfl
  have m__law_told := PySem.W.mg_of X G a__law_told
  have F_law := fun_mk (st := s_law) l_law c_law k_law
  have b_law := F_law.binds (ps := ["script"]) fun _ _ _ _ _ _ us hl => by obtain ⟨_, rfl⟩ := len1 hl; rfl
  have m_law := PySem.W.mg_of X G a_law
  refine ⟨PySem.W.fnOf "law" "law" (defArgs s_law) (defBody s_law) (defScope s_law) .none kV_law dc_law pm_law an_law cd_law ct_law, fun s v => .of_eq rfl, fun base KB GB => ?_⟩
  have O_NoWord := own_mk KB GB ac_NoWord q_NoWord
  have h_check_number : CalX l.prog w K mg base (1) "check_number" ["kind", "number"] spxNum := calX_of F_check_number m_check_number b_check_number sc_check_number (by intro XE ds μ Q h; first | (obtain ⟨rfl, _⟩ := h; rfl) | (obtain ⟨_, rfl, _⟩ := h; rfl) | (obtain ⟨_, _, rfl, _⟩ := h; rfl) | (obtain ⟨_, _, _, rfl, _⟩ := h; rfl) | (obtain ⟨_, _, _, _, rfl, _⟩ := h; rfl) | (obtain ⟨_, _, _, _, _, rfl, _⟩ := h; rfl) | (obtain ⟨_, _, _, _, _, _, rfl, _⟩ := h; rfl)) (k := 0) (fun cdv A outer s H E XE hr EX => rs_check_number EX O_NoWord z_abs z_int z_isinstance g_GREATEST_NUMBER g_KINDS_FROM_NOUGHT hr) rd_check_number
  have step_checked_count : ∀ j, CalX l.prog w K mg base (2 * j + 1) "checked_deed_count" ["deed", "depth"] (spxDeed j) → CalX l.prog w K mg base (2 * j + 1 + 1) "checked_count" ["word", "depth"] (spxCount j) := fun j ih => calX_of F_checked_count m_checked_count b_checked_count sc_checked_count (by intro XE ds μ Q h; first | (obtain ⟨rfl, _⟩ := h; rfl) | (obtain ⟨_, rfl, _⟩ := h; rfl) | (obtain ⟨_, _, rfl, _⟩ := h; rfl) | (obtain ⟨_, _, _, rfl, _⟩ := h; rfl) | (obtain ⟨_, _, _, _, rfl, _⟩ := h; rfl) | (obtain ⟨_, _, _, _, _, rfl, _⟩ := h; rfl) | (obtain ⟨_, _, _, _, _, _, rfl, _⟩ := h; rfl)) (k := 2 * j + 1) (fun cdv A outer s H E XE hr EX => rs_checked_count EX ih (Nat.le_refl _) O_NoWord z_isinstance z_tuple g_MOST_DEEDS g_MOST_DEEP hr) (rd_checked_count j)
  have fam_checked_count : ∀ j, CalX l.prog w K mg base (2 * j + 1) "checked_deed_count" ["deed", "depth"] (spxDeed j) := fun j => by
    induction j with
    | zero => exact (calX_zero F_checked_deed_count m_checked_deed_count b_checked_deed_count (by intro XE ds μ Q h; first | (obtain ⟨_, _, h⟩ := h; omega) | (obtain ⟨_, _, _, h⟩ := h; omega) | (obtain ⟨_, _, _, _, h⟩ := h; omega))).mono (by omega)
    | succ j ih => exact (calX_of F_checked_deed_count m_checked_deed_count b_checked_deed_count sc_checked_deed_count (by intro XE ds μ Q h; first | (obtain ⟨rfl, _⟩ := h; rfl) | (obtain ⟨_, rfl, _⟩ := h; rfl) | (obtain ⟨_, _, rfl, _⟩ := h; rfl) | (obtain ⟨_, _, _, rfl, _⟩ := h; rfl) | (obtain ⟨_, _, _, _, rfl, _⟩ := h; rfl) | (obtain ⟨_, _, _, _, _, rfl, _⟩ := h; rfl) | (obtain ⟨_, _, _, _, _, _, rfl, _⟩ := h; rfl)) (k := 2 * j + 1 + 1) (fun cdv A outer s H E XE hr EX => rs_checked_deed_count EX h_check_number (by omega) (step_checked_count j ih) (Nat.le_refl _) O_NoWord z_isinstance z_len z_tuple g_PLAIN_KINDS hr) (rd_checked_deed_count j)).mono (by omega)
  have h_checked_deed_count := fam_checked_count 5
  have h_checked_count := step_checked_count 5 h_checked_deed_count
  have h_check_word : CalX l.prog w K mg base (13) "check_word" ["word"] spxChk := calX_of F_check_word m_check_word b_check_word sc_check_word (by intro XE ds μ Q h; first | (obtain ⟨rfl, _⟩ := h; rfl) | (obtain ⟨_, rfl, _⟩ := h; rfl) | (obtain ⟨_, _, rfl, _⟩ := h; rfl) | (obtain ⟨_, _, _, rfl, _⟩ := h; rfl) | (obtain ⟨_, _, _, _, rfl, _⟩ := h; rfl) | (obtain ⟨_, _, _, _, _, rfl, _⟩ := h; rfl) | (obtain ⟨_, _, _, _, _, _, rfl, _⟩ := h; rfl)) (k := 12) (fun cdv A outer s H E XE hr EX => rs_check_word EX h_checked_count (by decide) hr) rd_check_word
  have h_deeds_in : CalX l.prog w K mg base (13) "deeds_in" ["word"] spxIn := calX_of F_deeds_in m_deeds_in b_deeds_in sc_deeds_in (by intro XE ds μ Q h; first | (obtain ⟨rfl, _⟩ := h; rfl) | (obtain ⟨_, rfl, _⟩ := h; rfl) | (obtain ⟨_, _, rfl, _⟩ := h; rfl) | (obtain ⟨_, _, _, rfl, _⟩ := h; rfl) | (obtain ⟨_, _, _, _, rfl, _⟩ := h; rfl) | (obtain ⟨_, _, _, _, _, rfl, _⟩ := h; rfl) | (obtain ⟨_, _, _, _, _, _, rfl, _⟩ := h; rfl)) (k := 12) (fun cdv A outer s H E XE hr EX => rs_deeds_in EX h_checked_count (by decide) hr) rd_deeds_in
  have h_led : Cal l.prog w K mg base (1) "led" ["pen", "part"] spLed := cal_of F_led m_led b_led sc_led (by intro ds μ Q h; first | (obtain ⟨rfl, _⟩ := h; rfl) | (obtain ⟨_, rfl, _⟩ := h; rfl) | (obtain ⟨_, _, rfl, _⟩ := h; rfl) | (obtain ⟨_, _, _, rfl, _⟩ := h; rfl) | (obtain ⟨_, _, _, _, rfl, _⟩ := h; rfl) | (obtain ⟨_, _, _, _, _, rfl, _⟩ := h; rfl) | (obtain ⟨_, _, _, _, _, _, rfl, _⟩ := h; rfl)) (k := 0) (fun cdv A outer s H E hr => rs_led g_AHEAD hr) rd_led
  have h_pen_repeated : Cal l.prog w K mg base (2) "pen_repeated" ["part", "number"] spRep := cal_of F_pen_repeated m_pen_repeated b_pen_repeated sc_pen_repeated (by intro ds μ Q h; first | (obtain ⟨rfl, _⟩ := h; rfl) | (obtain ⟨_, rfl, _⟩ := h; rfl) | (obtain ⟨_, _, rfl, _⟩ := h; rfl) | (obtain ⟨_, _, _, rfl, _⟩ := h; rfl) | (obtain ⟨_, _, _, _, rfl, _⟩ := h; rfl) | (obtain ⟨_, _, _, _, _, rfl, _⟩ := h; rfl) | (obtain ⟨_, _, _, _, _, _, rfl, _⟩ := h; rfl)) (k := 1) (fun cdv A outer s H E hr => rs_pen_repeated h_led (by decide) z_range g_START hr) rd_pen_repeated
  have step_pen_behind : ∀ j, Cal l.prog w K mg base (2 * j + 2) "pen_behind_deed" ["deed"] (spPd j) → Cal l.prog w K mg base (2 * j + 2 + 1) "pen_behind" ["word"] (spPb j) := fun j ih => cal_of F_pen_behind m_pen_behind b_pen_behind sc_pen_behind (by intro ds μ Q h; first | (obtain ⟨rfl, _⟩ := h; rfl) | (obtain ⟨_, rfl, _⟩ := h; rfl) | (obtain ⟨_, _, rfl, _⟩ := h; rfl) | (obtain ⟨_, _, _, rfl, _⟩ := h; rfl) | (obtain ⟨_, _, _, _, rfl, _⟩ := h; rfl) | (obtain ⟨_, _, _, _, _, rfl, _⟩ := h; rfl) | (obtain ⟨_, _, _, _, _, _, rfl, _⟩ := h; rfl)) (k := 2 * j + 2) (fun cdv A outer s H E hr => rs_pen_behind h_led (by omega) ih (Nat.le_refl _) g_START hr) (rd_pen_behind j)
  have fam_pen_behind : ∀ j, Cal l.prog w K mg base (2 * j + 2) "pen_behind_deed" ["deed"] (spPd j) := fun j => by
    induction j with
    | zero => exact (cal_zero F_pen_behind_deed m_pen_behind_deed b_pen_behind_deed (by intro ds μ Q h; first | (obtain ⟨_, _, h⟩ := h; omega) | (obtain ⟨_, _, _, h⟩ := h; omega) | (obtain ⟨_, _, _, _, h⟩ := h; omega))).mono (by omega)
    | succ j ih => exact (cal_of F_pen_behind_deed m_pen_behind_deed b_pen_behind_deed sc_pen_behind_deed (by intro ds μ Q h; first | (obtain ⟨rfl, _⟩ := h; rfl) | (obtain ⟨_, rfl, _⟩ := h; rfl) | (obtain ⟨_, _, rfl, _⟩ := h; rfl) | (obtain ⟨_, _, _, rfl, _⟩ := h; rfl) | (obtain ⟨_, _, _, _, rfl, _⟩ := h; rfl) | (obtain ⟨_, _, _, _, _, rfl, _⟩ := h; rfl) | (obtain ⟨_, _, _, _, _, _, rfl, _⟩ := h; rfl)) (k := 2 * j + 2 + 1) (fun cdv A outer s H E hr => rs_pen_behind_deed (step_pen_behind j ih) (Nat.le_refl _) h_pen_repeated (by omega) hr) (rd_pen_behind_deed j)).mono (by omega)
  have h_pen_behind_deed := fam_pen_behind 5
  have h_pen_behind := step_pen_behind 5 h_pen_behind_deed
  have h_carried : CalX l.prog w K mg base (14) "carried" ["pen", "word"] spxCarried := calX_of F_carried m_carried b_carried sc_carried (by intro XE ds μ Q h; first | (obtain ⟨rfl, _⟩ := h; rfl) | (obtain ⟨_, rfl, _⟩ := h; rfl) | (obtain ⟨_, _, rfl, _⟩ := h; rfl) | (obtain ⟨_, _, _, rfl, _⟩ := h; rfl) | (obtain ⟨_, _, _, _, rfl, _⟩ := h; rfl) | (obtain ⟨_, _, _, _, _, rfl, _⟩ := h; rfl) | (obtain ⟨_, _, _, _, _, _, rfl, _⟩ := h; rfl)) (k := 13) (fun cdv A outer s H E XE hr EX => rs_carried EX h_check_word (by decide) h_led (by decide) h_pen_behind (by decide) hr) rd_carried
  have h_pen_after : CalX l.prog w K mg base (15) "pen_after" ["word"] spxPenAfter := calX_of F_pen_after m_pen_after b_pen_after sc_pen_after (by intro XE ds μ Q h; first | (obtain ⟨rfl, _⟩ := h; rfl) | (obtain ⟨_, rfl, _⟩ := h; rfl) | (obtain ⟨_, _, rfl, _⟩ := h; rfl) | (obtain ⟨_, _, _, rfl, _⟩ := h; rfl) | (obtain ⟨_, _, _, _, rfl, _⟩ := h; rfl) | (obtain ⟨_, _, _, _, _, rfl, _⟩ := h; rfl) | (obtain ⟨_, _, _, _, _, _, rfl, _⟩ := h; rfl)) (k := 14) (fun cdv A outer s H E XE hr EX => rs_pen_after EX h_carried (by decide) g_START hr) rd_pen_after
  have step_count_strokes : ∀ j, Cal l.prog w K mg base (2 * j + 0) "count_strokes_of_deed" ["deed"] (spSkd j) → Cal l.prog w K mg base (2 * j + 0 + 1) "count_strokes" ["word"] (spSk j) := fun j ih => cal_of F_count_strokes m_count_strokes b_count_strokes sc_count_strokes (by intro ds μ Q h; first | (obtain ⟨rfl, _⟩ := h; rfl) | (obtain ⟨_, rfl, _⟩ := h; rfl) | (obtain ⟨_, _, rfl, _⟩ := h; rfl) | (obtain ⟨_, _, _, rfl, _⟩ := h; rfl) | (obtain ⟨_, _, _, _, rfl, _⟩ := h; rfl) | (obtain ⟨_, _, _, _, _, rfl, _⟩ := h; rfl) | (obtain ⟨_, _, _, _, _, _, rfl, _⟩ := h; rfl)) (k := 2 * j + 0) (fun cdv A outer s H E hr => rs_count_strokes ih (Nat.le_refl _) z_sum hr) (rd_count_strokes j)
  have fam_count_strokes : ∀ j, Cal l.prog w K mg base (2 * j + 0) "count_strokes_of_deed" ["deed"] (spSkd j) := fun j => by
    induction j with
    | zero => exact (cal_zero F_count_strokes_of_deed m_count_strokes_of_deed b_count_strokes_of_deed (by intro ds μ Q h; first | (obtain ⟨_, _, h⟩ := h; omega) | (obtain ⟨_, _, _, h⟩ := h; omega) | (obtain ⟨_, _, _, _, h⟩ := h; omega))).mono (by omega)
    | succ j ih => exact (cal_of F_count_strokes_of_deed m_count_strokes_of_deed b_count_strokes_of_deed sc_count_strokes_of_deed (by intro ds μ Q h; first | (obtain ⟨rfl, _⟩ := h; rfl) | (obtain ⟨_, rfl, _⟩ := h; rfl) | (obtain ⟨_, _, rfl, _⟩ := h; rfl) | (obtain ⟨_, _, _, rfl, _⟩ := h; rfl) | (obtain ⟨_, _, _, _, rfl, _⟩ := h; rfl) | (obtain ⟨_, _, _, _, _, rfl, _⟩ := h; rfl) | (obtain ⟨_, _, _, _, _, _, rfl, _⟩ := h; rfl)) (k := 2 * j + 0 + 1) (fun cdv A outer s H E hr => rs_count_strokes_of_deed (step_count_strokes j ih) (Nat.le_refl _) hr) (rd_count_strokes_of_deed j)).mono (by omega)
  have h_count_strokes_of_deed := fam_count_strokes 5
  have h_count_strokes := step_count_strokes 5 h_count_strokes_of_deed
  have h_strokes_drawn : CalX l.prog w K mg base (14) "strokes_drawn" ["word"] spxSks := calX_of F_strokes_drawn m_strokes_drawn b_strokes_drawn sc_strokes_drawn (by intro XE ds μ Q h; first | (obtain ⟨rfl, _⟩ := h; rfl) | (obtain ⟨_, rfl, _⟩ := h; rfl) | (obtain ⟨_, _, rfl, _⟩ := h; rfl) | (obtain ⟨_, _, _, rfl, _⟩ := h; rfl) | (obtain ⟨_, _, _, _, rfl, _⟩ := h; rfl) | (obtain ⟨_, _, _, _, _, rfl, _⟩ := h; rfl) | (obtain ⟨_, _, _, _, _, _, rfl, _⟩ := h; rfl)) (k := 13) (fun cdv A outer s H E XE hr EX => rs_strokes_drawn EX h_check_word (by decide) h_count_strokes (by decide) hr) rd_strokes_drawn
  have step_count_done : ∀ j, Cal l.prog w K mg base (2 * j + 0) "count_done_of_deed" ["deed"] (spDnd j) → Cal l.prog w K mg base (2 * j + 0 + 1) "count_done" ["word"] (spDn j) := fun j ih => cal_of F_count_done m_count_done b_count_done sc_count_done (by intro ds μ Q h; first | (obtain ⟨rfl, _⟩ := h; rfl) | (obtain ⟨_, rfl, _⟩ := h; rfl) | (obtain ⟨_, _, rfl, _⟩ := h; rfl) | (obtain ⟨_, _, _, rfl, _⟩ := h; rfl) | (obtain ⟨_, _, _, _, rfl, _⟩ := h; rfl) | (obtain ⟨_, _, _, _, _, rfl, _⟩ := h; rfl) | (obtain ⟨_, _, _, _, _, _, rfl, _⟩ := h; rfl)) (k := 2 * j + 0) (fun cdv A outer s H E hr => rs_count_done ih (Nat.le_refl _) z_sum hr) (rd_count_done j)
  have fam_count_done : ∀ j, Cal l.prog w K mg base (2 * j + 0) "count_done_of_deed" ["deed"] (spDnd j) := fun j => by
    induction j with
    | zero => exact (cal_zero F_count_done_of_deed m_count_done_of_deed b_count_done_of_deed (by intro ds μ Q h; first | (obtain ⟨_, _, h⟩ := h; omega) | (obtain ⟨_, _, _, h⟩ := h; omega) | (obtain ⟨_, _, _, _, h⟩ := h; omega))).mono (by omega)
    | succ j ih => exact (cal_of F_count_done_of_deed m_count_done_of_deed b_count_done_of_deed sc_count_done_of_deed (by intro ds μ Q h; first | (obtain ⟨rfl, _⟩ := h; rfl) | (obtain ⟨_, rfl, _⟩ := h; rfl) | (obtain ⟨_, _, rfl, _⟩ := h; rfl) | (obtain ⟨_, _, _, rfl, _⟩ := h; rfl) | (obtain ⟨_, _, _, _, rfl, _⟩ := h; rfl) | (obtain ⟨_, _, _, _, _, rfl, _⟩ := h; rfl) | (obtain ⟨_, _, _, _, _, _, rfl, _⟩ := h; rfl)) (k := 2 * j + 0 + 1) (fun cdv A outer s H E hr => rs_count_done_of_deed (step_count_done j ih) (Nat.le_refl _) hr) (rd_count_done_of_deed j)).mono (by omega)
  have h_count_done_of_deed := fam_count_done 5
  have h_count_done := step_count_done 5 h_count_done_of_deed
  have h_deeds_done : CalX l.prog w K mg base (14) "deeds_done" ["word"] spxDns := calX_of F_deeds_done m_deeds_done b_deeds_done sc_deeds_done (by intro XE ds μ Q h; first | (obtain ⟨rfl, _⟩ := h; rfl) | (obtain ⟨_, rfl, _⟩ := h; rfl) | (obtain ⟨_, _, rfl, _⟩ := h; rfl) | (obtain ⟨_, _, _, rfl, _⟩ := h; rfl) | (obtain ⟨_, _, _, _, rfl, _⟩ := h; rfl) | (obtain ⟨_, _, _, _, _, rfl, _⟩ := h; rfl) | (obtain ⟨_, _, _, _, _, _, rfl, _⟩ := h; rfl)) (k := 13) (fun cdv A outer s H E XE hr EX => rs_deeds_done EX h_check_word (by decide) h_count_done (by decide) hr) rd_deeds_done
  have h_is_small : CalX l.prog w K mg base (15) "is_small" ["word"] spxSmall := calX_of F_is_small m_is_small b_is_small sc_is_small (by intro XE ds μ Q h; first | (obtain ⟨rfl, _⟩ := h; rfl) | (obtain ⟨_, rfl, _⟩ := h; rfl) | (obtain ⟨_, _, rfl, _⟩ := h; rfl) | (obtain ⟨_, _, _, rfl, _⟩ := h; rfl) | (obtain ⟨_, _, _, _, rfl, _⟩ := h; rfl) | (obtain ⟨_, _, _, _, _, rfl, _⟩ := h; rfl) | (obtain ⟨_, _, _, _, _, _, rfl, _⟩ := h; rfl)) (k := 14) (fun cdv A outer s H E XE hr EX => rs_is_small EX h_deeds_done (by decide) h_strokes_drawn (by decide) g_MOST_OF_SMALL hr) rd_is_small
  have fam_marks_of : ∀ j, Cal l.prog w K mg base (j + 0) "marks_of" ["word"] (spMarks j) := fun j => by
    induction j with
    | zero => exact (cal_zero F_marks_of m_marks_of b_marks_of (by intro ds μ Q h; first | (obtain ⟨_, _, h⟩ := h; omega) | (obtain ⟨_, _, _, h⟩ := h; omega) | (obtain ⟨_, _, _, _, h⟩ := h; omega) | (obtain ⟨_, _, _, _, _, _, _, _, h⟩ := h; omega))).mono (by omega)
    | succ j ih => exact (cal_of F_marks_of m_marks_of b_marks_of sc_marks_of (by intro ds μ Q h; first | (obtain ⟨rfl, _⟩ := h; rfl) | (obtain ⟨_, rfl, _⟩ := h; rfl) | (obtain ⟨_, _, rfl, _⟩ := h; rfl) | (obtain ⟨_, _, _, rfl, _⟩ := h; rfl) | (obtain ⟨_, _, _, _, rfl, _⟩ := h; rfl) | (obtain ⟨_, _, _, _, _, rfl, _⟩ := h; rfl) | (obtain ⟨_, _, _, _, _, _, rfl, _⟩ := h; rfl)) (k := j + 0) (fun cdv A outer s H E hr => rs_marks_of ih (Nat.le_refl _) z_str hr) (rd_marks_of j)).mono (by omega)
  have h_marks_of := fam_marks_of 5
  have h_shown : CalX l.prog w K mg base (14) "shown" ["word"] spxShown := calX_of F_shown m_shown b_shown sc_shown (by intro XE ds μ Q h; first | (obtain ⟨rfl, _⟩ := h; rfl) | (obtain ⟨_, rfl, _⟩ := h; rfl) | (obtain ⟨_, _, rfl, _⟩ := h; rfl) | (obtain ⟨_, _, _, rfl, _⟩ := h; rfl) | (obtain ⟨_, _, _, _, rfl, _⟩ := h; rfl) | (obtain ⟨_, _, _, _, _, rfl, _⟩ := h; rfl) | (obtain ⟨_, _, _, _, _, _, rfl, _⟩ := h; rfl)) (k := 13) (fun cdv A outer s H E XE hr EX => rs_shown EX h_check_word (by decide) h_marks_of (by decide) hr) rd_shown
  have h__law_cell_at : Cal l.prog w K mg base (1) "_law_cell_at" ["script", "k"] spCell := cal_of F__law_cell_at m__law_cell_at b__law_cell_at sc__law_cell_at (by intro ds μ Q h; first | (obtain ⟨rfl, _⟩ := h; rfl) | (obtain ⟨_, rfl, _⟩ := h; rfl) | (obtain ⟨_, _, rfl, _⟩ := h; rfl) | (obtain ⟨_, _, _, rfl, _⟩ := h; rfl) | (obtain ⟨_, _, _, _, rfl, _⟩ := h; rfl) | (obtain ⟨_, _, _, _, _, rfl, _⟩ := h; rfl) | (obtain ⟨_, _, _, _, _, _, rfl, _⟩ := h; rfl)) (k := 0) (fun cdv A outer s H E hr => rs__law_cell_at z_len hr) rd__law_cell_at
  have h__law_state : Cal l.prog w K mg base (2) "_law_state" ["script", "k"] spState := cal_of F__law_state m__law_state b__law_state sc__law_state (by intro ds μ Q h; first | (obtain ⟨rfl, _⟩ := h; rfl) | (obtain ⟨_, rfl, _⟩ := h; rfl) | (obtain ⟨_, _, rfl, _⟩ := h; rfl) | (obtain ⟨_, _, _, rfl, _⟩ := h; rfl) | (obtain ⟨_, _, _, _, rfl, _⟩ := h; rfl) | (obtain ⟨_, _, _, _, _, rfl, _⟩ := h; rfl) | (obtain ⟨_, _, _, _, _, _, rfl, _⟩ := h; rfl)) (k := 1) (fun cdv A outer s H E hr => rs__law_state h__law_cell_at (by decide) hr) rd__law_state
  have h__law_choice : Cal l.prog w K mg base (1) "_law_choice" ["state", "many"] spChoice := cal_of F__law_choice m__law_choice b__law_choice sc__law_choice (by intro ds μ Q h; first | (obtain ⟨rfl, _⟩ := h; rfl) | (obtain ⟨_, rfl, _⟩ := h; rfl) | (obtain ⟨_, _, rfl, _⟩ := h; rfl) | (obtain ⟨_, _, _, rfl, _⟩ := h; rfl) | (obtain ⟨_, _, _, _, rfl, _⟩ := h; rfl) | (obtain ⟨_, _, _, _, _, rfl, _⟩ := h; rfl) | (obtain ⟨_, _, _, _, _, _, rfl, _⟩ := h; rfl)) (k := 0) (fun cdv A outer s H E hr => rs__law_choice hr) rd__law_choice
  have fam__law_word : ∀ j, Cal l.prog w K mg base (j + 1) "_law_word" ["state", "deep"] (spWord j) := fun j => by
    induction j with
    | zero => exact (cal_zero F__law_word m__law_word b__law_word (by intro ds μ Q h; first | (obtain ⟨_, _, h⟩ := h; omega) | (obtain ⟨_, _, _, h⟩ := h; omega) | (obtain ⟨_, _, _, _, h⟩ := h; omega) | (obtain ⟨_, _, _, _, _, _, _, _, h⟩ := h; omega))).mono (by omega)
    | succ j ih => exact (cal_of F__law_word m__law_word b__law_word sc__law_word (by intro ds μ Q h; first | (obtain ⟨rfl, _⟩ := h; rfl) | (obtain ⟨_, rfl, _⟩ := h; rfl) | (obtain ⟨_, _, rfl, _⟩ := h; rfl) | (obtain ⟨_, _, _, rfl, _⟩ := h; rfl) | (obtain ⟨_, _, _, _, rfl, _⟩ := h; rfl) | (obtain ⟨_, _, _, _, _, rfl, _⟩ := h; rfl) | (obtain ⟨_, _, _, _, _, _, rfl, _⟩ := h; rfl)) (k := j + 1) (fun cdv A outer s H E hr => rs__law_word h__law_choice (by omega) ih (Nat.le_refl _) z_range z_tuple hr) (rd__law_word j)).mono (by omega)
  have h__law_word := fam__law_word 5
  have h__law_drawn_word : Cal l.prog w K mg base (7) "_law_drawn_word" ["script", "k", "deep", "most"] (spDrawn 5) := cal_of F__law_drawn_word m__law_drawn_word b__law_drawn_word sc__law_drawn_word (by intro ds μ Q h; first | (obtain ⟨rfl, _⟩ := h; rfl) | (obtain ⟨_, rfl, _⟩ := h; rfl) | (obtain ⟨_, _, rfl, _⟩ := h; rfl) | (obtain ⟨_, _, _, rfl, _⟩ := h; rfl) | (obtain ⟨_, _, _, _, rfl, _⟩ := h; rfl) | (obtain ⟨_, _, _, _, _, rfl, _⟩ := h; rfl) | (obtain ⟨_, _, _, _, _, _, rfl, _⟩ := h; rfl)) (k := 6) (fun cdv A outer s H E hr => rs__law_drawn_word h__law_state (by decide) h__law_word (by decide) hr) (rd__law_drawn_word 5)
  have h__law_whole : Cal l.prog w K mg base (1) "_law_whole" ["found"] spWhole := cal_of F__law_whole m__law_whole b__law_whole sc__law_whole (by intro ds μ Q h; first | (obtain ⟨rfl, _⟩ := h; rfl) | (obtain ⟨_, rfl, _⟩ := h; rfl) | (obtain ⟨_, _, rfl, _⟩ := h; rfl) | (obtain ⟨_, _, _, rfl, _⟩ := h; rfl) | (obtain ⟨_, _, _, _, rfl, _⟩ := h; rfl) | (obtain ⟨_, _, _, _, _, rfl, _⟩ := h; rfl) | (obtain ⟨_, _, _, _, _, _, rfl, _⟩ := h; rfl)) (k := 0) (fun cdv A outer s H E hr => rs__law_whole z_bool z_int z_isinstance hr) rd__law_whole
  have h__law_nested : Cal l.prog w K mg base (1) "_law_nested" ["deep", "inner"] spNst := cal_of F__law_nested m__law_nested b__law_nested sc__law_nested (by intro ds μ Q h; first | (obtain ⟨rfl, _⟩ := h; rfl) | (obtain ⟨_, rfl, _⟩ := h; rfl) | (obtain ⟨_, _, rfl, _⟩ := h; rfl) | (obtain ⟨_, _, _, rfl, _⟩ := h; rfl) | (obtain ⟨_, _, _, _, rfl, _⟩ := h; rfl) | (obtain ⟨_, _, _, _, _, rfl, _⟩ := h; rfl) | (obtain ⟨_, _, _, _, _, _, rfl, _⟩ := h; rfl)) (k := 0) (fun cdv A outer s H E hr => rs__law_nested z_range hr) rd__law_nested
  have h__law_bad_word : Cal l.prog w K mg base (7) "_law_bad_word" ["state"] spBad := cal_of F__law_bad_word m__law_bad_word b__law_bad_word sc__law_bad_word (by intro ds μ Q h; first | (obtain ⟨rfl, _⟩ := h; rfl) | (obtain ⟨_, rfl, _⟩ := h; rfl) | (obtain ⟨_, _, rfl, _⟩ := h; rfl) | (obtain ⟨_, _, _, rfl, _⟩ := h; rfl) | (obtain ⟨_, _, _, _, rfl, _⟩ := h; rfl) | (obtain ⟨_, _, _, _, _, rfl, _⟩ := h; rfl) | (obtain ⟨_, _, _, _, _, _, rfl, _⟩ := h; rfl)) (k := 6) (fun cdv A outer s H E hr => rs__law_bad_word h__law_choice (by decide) h__law_nested (by decide) h__law_word (by decide) z_len hr) rd__law_bad_word
  have h__law_marks : CalM l.prog w K mg base (1) "_law_marks" ["e"] spMk := calM_of F__law_marks m__law_marks b__law_marks sc__law_marks (by intro ds μ Q h; first | (obtain ⟨rfl, _⟩ := h; rfl) | (obtain ⟨_, rfl, _⟩ := h; rfl) | (obtain ⟨_, _, rfl, _⟩ := h; rfl) | (obtain ⟨_, _, _, rfl, _⟩ := h; rfl) | (obtain ⟨_, _, _, _, rfl, _⟩ := h; rfl) | (obtain ⟨_, _, _, _, _, rfl, _⟩ := h; rfl) | (obtain ⟨_, _, _, _, _, _, rfl, _⟩ := h; rfl)) (k := 0) (fun cdv A outer s H E hr => rs__law_marks m_BadNote x_BadNote m_NoNumber x_NoNumber m_NoPicture x_NoPicture m_NoRoom x_NoRoom m_NoStep x_NoStep m_NoWord x_NoWord x_ValueError z_ValueError z_isinstance hr) rd__law_marks
  have h__law_refused : Cal l.prog w K mg base (1) "_law_refused" ["marks", "which"] spRef := cal_of F__law_refused m__law_refused b__law_refused sc__law_refused (by intro ds μ Q h; first | (obtain ⟨rfl, _⟩ := h; rfl) | (obtain ⟨_, rfl, _⟩ := h; rfl) | (obtain ⟨_, _, rfl, _⟩ := h; rfl) | (obtain ⟨_, _, _, rfl, _⟩ := h; rfl) | (obtain ⟨_, _, _, _, rfl, _⟩ := h; rfl) | (obtain ⟨_, _, _, _, _, rfl, _⟩ := h; rfl) | (obtain ⟨_, _, _, _, _, _, rfl, _⟩ := h; rfl)) (k := 0) (fun cdv A outer s H E hr => rs__law_refused z_range hr) rd__law_refused
  have fam__law_count : ∀ j, Cal l.prog w K mg base (j + 0) "_law_count" ["deeds"] (spCnt j) := fun j => by
    induction j with
    | zero => exact (cal_zero F__law_count m__law_count b__law_count (by intro ds μ Q h; first | (obtain ⟨_, _, h⟩ := h; omega) | (obtain ⟨_, _, _, h⟩ := h; omega) | (obtain ⟨_, _, _, _, h⟩ := h; omega) | (obtain ⟨_, _, _, _, _, _, _, _, h⟩ := h; omega))).mono (by omega)
    | succ j ih => exact (cal_of F__law_count m__law_count b__law_count sc__law_count (by intro ds μ Q h; first | (obtain ⟨rfl, _⟩ := h; rfl) | (obtain ⟨_, rfl, _⟩ := h; rfl) | (obtain ⟨_, _, rfl, _⟩ := h; rfl) | (obtain ⟨_, _, _, rfl, _⟩ := h; rfl) | (obtain ⟨_, _, _, _, rfl, _⟩ := h; rfl) | (obtain ⟨_, _, _, _, _, rfl, _⟩ := h; rfl) | (obtain ⟨_, _, _, _, _, _, rfl, _⟩ := h; rfl)) (k := j + 0) (fun cdv A outer s H E hr => rs__law_count ih (Nat.le_refl _) hr) (rd__law_count j)).mono (by omega)
  have h__law_count := fam__law_count 6
  have h__law_called : CalX l.prog w K mg base (16) "_law_called" ["way", "deeds"] spxCalled := calX_of F__law_called m__law_called b__law_called sc__law_called (by intro XE ds μ Q h; first | (obtain ⟨rfl, _⟩ := h; rfl) | (obtain ⟨_, rfl, _⟩ := h; rfl) | (obtain ⟨_, _, rfl, _⟩ := h; rfl) | (obtain ⟨_, _, _, rfl, _⟩ := h; rfl) | (obtain ⟨_, _, _, _, rfl, _⟩ := h; rfl) | (obtain ⟨_, _, _, _, _, rfl, _⟩ := h; rfl) | (obtain ⟨_, _, _, _, _, _, rfl, _⟩ := h; rfl)) (k := 15) (fun cdv A outer s H E XE hr EX => rs__law_called EX h_carried (by decide) h_deeds_done (by decide) h_deeds_in (by decide) h_is_small (by decide) h_pen_after (by decide) h_shown (by decide) h_strokes_drawn (by decide) hr) rd__law_called
  have h__law_told : Cal l.prog w K mg base (17) "_law_told" ["way", "deeds"] spTold := cal_of F__law_told m__law_told b__law_told sc__law_told (by intro ds μ Q h; first | (obtain ⟨rfl, _⟩ := h; rfl) | (obtain ⟨_, rfl, _⟩ := h; rfl) | (obtain ⟨_, _, rfl, _⟩ := h; rfl) | (obtain ⟨_, _, _, rfl, _⟩ := h; rfl) | (obtain ⟨_, _, _, _, rfl, _⟩ := h; rfl) | (obtain ⟨_, _, _, _, _, rfl, _⟩ := h; rfl) | (obtain ⟨_, _, _, _, _, _, rfl, _⟩ := h; rfl)) (k := 16) (fun cdv A outer s H E hr => rs__law_told h__law_called (by decide) h__law_marks (by decide) m_PenError k2_PenError k3 ok_PenError hr) rd__law_told
  exact fnok_of F_law sc_law (by intro ds μ Q h; first | (obtain ⟨rfl, _⟩ := h; rfl) | (obtain ⟨_, rfl, _⟩ := h; rfl) | (obtain ⟨_, _, rfl, _⟩ := h; rfl) | (obtain ⟨_, _, _, rfl, _⟩ := h; rfl) | (obtain ⟨_, _, _, _, rfl, _⟩ := h; rfl) | (obtain ⟨_, _, _, _, _, rfl, _⟩ := h; rfl) | (obtain ⟨_, _, _, _, _, _, rfl, _⟩ := h; rfl)) (k := 17) (fun cdv A outer s H E hr => rs_law h__law_bad_word (by decide) h__law_cell_at (by decide) h__law_count (by decide) h__law_drawn_word (by decide) h__law_nested (by decide) h__law_refused (by decide) h__law_state (by decide) h__law_told (by decide) h__law_whole (by decide) h_deeds_in (by decide) z_range hr) rd_law
theorem walk {l : PySem.W.OpenLaw} {q : Program} {loose : List Str} {XP : (Str → Option Value) → Heap → Prop} {YP : World → Heap → Prop} {d : DefRec} {K : Params → Fg} (hn : l.most = some 63) (hdf : d.params.defaults = [])
    (hY : ∀ (w : World) (h : Heap), YP w h → (K w.params).In h)
    (F : ∀ (w : World) (mg : Str → Option Value) (fa : Addr) (h : Heap), (K w.params).In h → h.Ns mainGlobals mg → mg d.name = some (.ref fa) →
      ∃ fd : FuncData, (∀ (s : Shared) (u : Value), BindsTo s fd ⟨[u], []⟩ [("script", u)]) ∧ ∀ base : Heap, (K w.params).In base → base.Ns mainGlobals mg → FnOk l.prog w (K w.params) mg base CX0 18 fa fd ["script"] (lift (K w.params) spLaw)) :
    PySem.W.WalkO q loose XP YP l.row.toRowW d [] (fun f vs => PySem.call f vs) :=
  L2.walk_of (n := 63) (k := 18) (x := "script") (CX := fun _ => CX0) (sp := fun w => lift (K w.params) spLaw) hn (by decide) hdf ⟨rfl, by decide, by decide⟩ hY F (fun _ _ a ns hl hO hS => law_lift hO hS ⟨ns, rfl, hl, fun _ => rfl⟩) fun _ _ _ _ _ z => z
end Pv
open PySem PySem.W PyProof.Rows
set_option maxRecDepth 100000 in
set_option maxHeartbeats 0 in
theorem PySem.Challenge.cw_penwright_k01_what_is_a_word_holds : PySem.Challenge.rw_penwright_k01_what_is_a_word.Holds := by
  w_on; o_law; k_head; (case hw => w_witness2)
  k_fill
  refine Pv.walk (l := PySem.Challenge.rw_penwright_k01_what_is_a_word) rfl rfl (fun w h Y => PySem.W.kIn_of Y) ?F
  case F =>
    intro w mg fa h KX G hmg
    refine' Pv.all_mk KX G hmg ?a_deeds_in ?l_deeds_in ?c_deeds_in ?k_deeds_in ?a_check_word ?l_check_word ?c_check_word ?k_check_word ?a_checked_count ?l_checked_count ?c_checked_count ?k_checked_count ?a_checked_deed_count ?l_checked_deed_count ?c_checked_deed_count ?k_checked_deed_count ?a_check_number ?l_check_number ?c_check_number ?k_check_number ?a_pen_after ?l_pen_after ?c_pen_after ?k_pen_after ?a_carried ?l_carried ?c_carried ?k_carried ?a_led ?l_led ?c_led ?k_led ?a_pen_behind ?l_pen_behind ?c_pen_behind ?k_pen_behind ?a_pen_behind_deed ?l_pen_behind_deed ?c_pen_behind_deed ?k_pen_behind_deed ?a_pen_repeated ?l_pen_repeated ?c_pen_repeated ?k_pen_repeated ?a_strokes_drawn ?l_strokes_drawn ?c_strokes_drawn ?k_strokes_drawn ?a_count_strokes ?l_count_strokes ?c_count_strokes ?k_count_strokes ?a_count_strokes_of_deed ?l_count_strokes_of_deed ?c_count_strokes_of_deed ?k_count_strokes_of_deed ?a_deeds_done ?l_deeds_done ?c_deeds_done ?k_deeds_done ?a_count_done ?l_count_done ?c_count_done ?k_count_done ?a_count_done_of_deed ?l_count_done_of_deed ?c_count_done_of_deed ?k_count_done_of_deed ?a_is_small ?l_is_small ?c_is_small ?k_is_small ?a_shown ?l_shown ?c_shown ?k_shown ?a_marks_of ?l_marks_of ?c_marks_of ?k_marks_of ?a__law_cell_at ?l__law_cell_at ?c__law_cell_at ?k__law_cell_at ?a__law_whole ?l__law_whole ?c__law_whole ?k__law_whole ?a__law_state ?l__law_state ?c__law_state ?k__law_state ?a__law_choice ?l__law_choice ?c__law_choice ?k__law_choice ?a__law_word ?l__law_word ?c__law_word ?k__law_word ?a__law_drawn_word ?l__law_drawn_word ?c__law_drawn_word ?k__law_drawn_word ?a__law_nested ?l__law_nested ?c__law_nested ?k__law_nested ?a__law_bad_word ?l__law_bad_word ?c__law_bad_word ?k__law_bad_word ?a__law_marks ?l__law_marks ?c__law_marks ?k__law_marks ?a__law_refused ?l__law_refused ?c__law_refused ?k__law_refused ?a__law_count ?l__law_count ?c__law_count ?k__law_count ?a__law_called ?l__law_called ?c__law_called ?k__law_called ?a__law_told ?l__law_told ?c__law_told ?k__law_told ?a_law ?l_law ?c_law ?k_law ?e_MOST_DEEDS ?e_MOST_DEEP ?e_GREATEST_NUMBER ?e_MOST_OF_SMALL ?e_PLAIN_KINDS ?ql_5 ?e_KINDS_FROM_NOUGHT ?ql_9 ?e_START ?ql_12 ?e_AHEAD ?ql_16 ?ql_26 ?ql_23 ?ql_20 ?ql_17 ?ac_BadNote ?cl_BadNote ?tc_BadNote ?ac_NoNumber ?cl_NoNumber ?tc_NoNumber ?ac_NoPicture ?cl_NoPicture ?tc_NoPicture ?ac_NoRoom ?cl_NoRoom ?tc_NoRoom ?ac_NoStep ?cl_NoStep ?tc_NoStep ?ac_NoWord ?cl_NoWord ?tc_NoWord ?ac_PenError ?cl_PenError ?tc_PenError ?q_NoWord ?ek0_NoWord ?ek1_NoWord ?ek2_NoWord ?ek4_NoWord ?ek5_NoWord ?ek6_NoWord ?ek7_NoWord ?sb_NoWord_BadNote ?ne_NoWord_BadNote ?sb_NoWord_NoNumber ?ne_NoWord_NoNumber ?sb_NoWord_NoPicture ?ne_NoWord_NoPicture ?sb_NoWord_NoRoom ?ne_NoWord_NoRoom ?sb_NoWord_NoStep ?ne_NoWord_NoStep ?sb_NoWord_ValueError ?k3s ?k2s_PenError ?sb_NoWord_PenError ?zz_ValueError ?zz_abs ?zz_bool ?zz_int ?zz_isinstance ?zz_len ?zz_range ?zz_str ?zz_sum ?zz_tuple
    (case a_deeds_in => k_is); (case l_deeds_in => k_is); (case c_deeds_in => k_is); (case k_deeds_in => k_is); (case a_check_word => k_is); (case l_check_word => k_is); (case c_check_word => k_is); (case k_check_word => k_is); (case a_checked_count => k_is); (case l_checked_count => k_is); (case c_checked_count => k_is); (case k_checked_count => k_is); (case a_checked_deed_count => k_is); (case l_checked_deed_count => k_is); (case c_checked_deed_count => k_is); (case k_checked_deed_count => k_is); (case a_check_number => k_is); (case l_check_number => k_is); (case c_check_number => k_is); (case k_check_number => k_is); (case a_pen_after => k_is); (case l_pen_after => k_is); (case c_pen_after => k_is); (case k_pen_after => k_is); (case a_carried => k_is); (case l_carried => k_is); (case c_carried => k_is); (case k_carried => k_is); (case a_led => k_is); (case l_led => k_is); (case c_led => k_is); (case k_led => k_is); (case a_pen_behind => k_is); (case l_pen_behind => k_is); (case c_pen_behind => k_is); (case k_pen_behind => k_is); (case a_pen_behind_deed => k_is); (case l_pen_behind_deed => k_is); (case c_pen_behind_deed => k_is); (case k_pen_behind_deed => k_is); (case a_pen_repeated => k_is); (case l_pen_repeated => k_is); (case c_pen_repeated => k_is); (case k_pen_repeated => k_is); (case a_strokes_drawn => k_is); (case l_strokes_drawn => k_is); (case c_strokes_drawn => k_is); (case k_strokes_drawn => k_is); (case a_count_strokes => k_is); (case l_count_strokes => k_is); (case c_count_strokes => k_is); (case k_count_strokes => k_is); (case a_count_strokes_of_deed => k_is); (case l_count_strokes_of_deed => k_is); (case c_count_strokes_of_deed => k_is); (case k_count_strokes_of_deed => k_is); (case a_deeds_done => k_is); (case l_deeds_done => k_is); (case c_deeds_done => k_is); (case k_deeds_done => k_is); (case a_count_done => k_is); (case l_count_done => k_is); (case c_count_done => k_is); (case k_count_done => k_is); (case a_count_done_of_deed => k_is); (case l_count_done_of_deed => k_is); (case c_count_done_of_deed => k_is); (case k_count_done_of_deed => k_is); (case a_is_small => k_is); (case l_is_small => k_is); (case c_is_small => k_is); (case k_is_small => k_is); (case a_shown => k_is); (case l_shown => k_is); (case c_shown => k_is); (case k_shown => k_is); (case a_marks_of => k_is); (case l_marks_of => k_is); (case c_marks_of => k_is); (case k_marks_of => k_is); (case a__law_cell_at => k_is); (case l__law_cell_at => k_is); (case c__law_cell_at => k_is); (case k__law_cell_at => k_is); (case a__law_whole => k_is); (case l__law_whole => k_is); (case c__law_whole => k_is); (case k__law_whole => k_is); (case a__law_state => k_is); (case l__law_state => k_is); (case c__law_state => k_is); (case k__law_state => k_is); (case a__law_choice => k_is); (case l__law_choice => k_is); (case c__law_choice => k_is); (case k__law_choice => k_is); (case a__law_word => k_is); (case l__law_word => k_is); (case c__law_word => k_is); (case k__law_word => k_is); (case a__law_drawn_word => k_is); (case l__law_drawn_word => k_is); (case c__law_drawn_word => k_is); (case k__law_drawn_word => k_is); (case a__law_nested => k_is); (case l__law_nested => k_is); (case c__law_nested => k_is); (case k__law_nested => k_is); (case a__law_bad_word => k_is); (case l__law_bad_word => k_is); (case c__law_bad_word => k_is); (case k__law_bad_word => k_is); (case a__law_marks => k_is); (case l__law_marks => k_is); (case c__law_marks => k_is); (case k__law_marks => k_is); (case a__law_refused => k_is); (case l__law_refused => k_is); (case c__law_refused => k_is); (case k__law_refused => k_is); (case a__law_count => k_is); (case l__law_count => k_is); (case c__law_count => k_is); (case k__law_count => k_is); (case a__law_called => k_is); (case l__law_called => k_is); (case c__law_called => k_is); (case k__law_called => k_is); (case a__law_told => k_is); (case l__law_told => k_is); (case c__law_told => k_is); (case k__law_told => k_is); (case a_law => k_is); (case l_law => k_is); (case c_law => k_is); (case k_law => k_is); (case e_MOST_DEEDS => k_is); (case e_MOST_DEEP => k_is); (case e_GREATEST_NUMBER => k_is); (case e_MOST_OF_SMALL => k_is); (case e_PLAIN_KINDS => k_is); (case ql_5 => k_is); (case e_KINDS_FROM_NOUGHT => k_is); (case ql_9 => k_is); (case e_START => k_is); (case ql_12 => k_is); (case e_AHEAD => k_is); (case ql_16 => k_is); (case ql_26 => k_is); (case ql_23 => k_is); (case ql_20 => k_is); (case ql_17 => k_is); (case ac_BadNote => k_is); (case cl_BadNote => k_is); (case tc_BadNote => k_is); (case ac_NoNumber => k_is); (case cl_NoNumber => k_is); (case tc_NoNumber => k_is); (case ac_NoPicture => k_is); (case cl_NoPicture => k_is); (case tc_NoPicture => k_is); (case ac_NoRoom => k_is); (case cl_NoRoom => k_is); (case tc_NoRoom => k_is); (case ac_NoStep => k_is); (case cl_NoStep => k_is); (case tc_NoStep => k_is); (case ac_NoWord => k_is); (case cl_NoWord => k_is); (case tc_NoWord => k_is); (case ac_PenError => k_is); (case cl_PenError => k_is); (case tc_PenError => k_is); (case q_NoWord => k_exc); (case ek0_NoWord => k_is); (case ek1_NoWord => k_is); (case ek2_NoWord => k_is); (case ek4_NoWord => k_is); (case ek5_NoWord => k_is); (case ek6_NoWord => k_is); (case ek7_NoWord => k_is); (case sb_NoWord_BadNote => k_is); (case ne_NoWord_BadNote => rfl); (case sb_NoWord_NoNumber => k_is); (case ne_NoWord_NoNumber => rfl); (case sb_NoWord_NoPicture => k_is); (case ne_NoWord_NoPicture => rfl); (case sb_NoWord_NoRoom => k_is); (case ne_NoWord_NoRoom => rfl); (case sb_NoWord_NoStep => k_is); (case ne_NoWord_NoStep => rfl); (case sb_NoWord_ValueError => k_is); (case k3s => k_is); (case k2s_PenError => k_is); (case sb_NoWord_PenError => k_is); (case zz_ValueError => k_is); (case zz_abs => k_is); (case zz_bool => k_is); (case zz_int => k_is); (case zz_isinstance => k_is); (case zz_len => k_is); (case zz_range => k_is); (case zz_str => k_is); (case zz_sum => k_is); (case zz_tuple => k_is)
