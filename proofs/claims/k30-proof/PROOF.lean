import PyProof.Rows.All
import Wide.All
import OpenK.AllK
import Wide.FinOn
import Lean
import PyProof.EqAt
import PyProof.EqKinds
import PyProof.TupleCall
import PyProof.P3Statements
import KE.KIntText
import KE.KSortTup
import KE.KDictSum
import PySem.Challenge.RW_penwright_k30_whole_none_can_be_fewer
set_option Elab.async false
set_option linter.all false
set_option maxRecDepth 100000
set_option maxHeartbeats 4000000
/-! THE HAND LAYER, for ints, bools, texts, own classes, LISTS and tuples (index, slices, in, append, pop ..), calls, loops. Paste it whole ahead of your own text; what your proof does not reach may be deleted. -/
namespace L2
open PySem PySem.Spec PyProof.Rows

/-- a key: an int or a str -/
noncomputable abbrev Key := Sum Int Str
noncomputable def keyIs : Key → Value → Bool
  | .inl k, v => Value.isInt k v
  | .inr x, v => Value.isStrOf x v
noncomputable def keyH (w : World) : Key → Int
  | .inl k => hashInt k
  | .inr x => hashStr w x
theorem keyIs_shape : ∀ {k : Key} {v : Value}, keyIs k v = true → (∃ i t, k = Sum.inl i ∧ v = Value.int i t) ∨ (∃ x t, k = Sum.inr x ∧ v = Value.str x t)
  | .inl i, v, h => by
    obtain ⟨t, e⟩ := Value.isInt_shape (k := i) (v := v) h
    exact .inl ⟨i, t, rfl, e⟩
  | .inr x, v, h => by
    obtain ⟨t, e⟩ := Value.isStrOf_shape (x := x) (v := v) h
    exact .inr ⟨x, t, rfl, e⟩
theorem keyIs_int (i : Int) (t : Tok) : keyIs (.inl i) (.int i t) = true := by simp [keyIs, Value.isInt]
theorem keyIs_str (x : Str) (t : Tok) : keyIs (.inr x) (.str x t) = true := by simp [keyIs, Value.isStrOf]
theorem key_ll (a b : Int) : decide ((Sum.inl a : Key) = Sum.inl b) = (a == b) := by
  by_cases e : a = b
  · subst e; simp
  · have h : ¬ (Sum.inl a : Key) = Sum.inl b := fun q => e (Sum.inl.inj q)
    rw [decide_eq_false h]
    exact (beq_eq_false_iff_ne.mpr e).symm
theorem key_rr (a b : Str) : decide ((Sum.inr a : Key) = Sum.inr b) = decide (a = b) := by
  by_cases e : a = b
  · subst e; simp
  · have h : ¬ (Sum.inr a : Key) = Sum.inr b := fun q => e (Sum.inr.inj q)
    rw [decide_eq_false h, decide_eq_false e]
theorem key_lr (a : Int) (b : Str) : decide ((Sum.inl a : Key) = Sum.inr b) = false := decide_eq_false (fun q => nomatch q)
theorem key_rl (a : Str) (b : Int) : decide ((Sum.inr a : Key) = Sum.inl b) = false := decide_eq_false (fun q => nomatch q)

noncomputable def mixKind (prog : Program) (w : World) : PySem.KeyKind prog w Key where
  is := keyIs
  hash := keyH w
  inj := fun v a b ha hb => by
    rcases keyIs_shape ha with ⟨i, t, rfl, rfl⟩ | ⟨x, t, rfl, rfl⟩
    · rcases keyIs_shape hb with ⟨j, u, rfl, e⟩ | ⟨y, u, rfl, e⟩
      · injection e with e1 _; rw [e1]
      · exact nomatch e
    · rcases keyIs_shape hb with ⟨j, u, rfl, e⟩ | ⟨y, u, rfl, e⟩
      · exact nomatch e
      · injection e with e1 _; rw [e1]
  byValue := fun k v h => by
    rcases keyIs_shape h with ⟨i, t, rfl, rfl⟩ | ⟨x, t, rfl, rfl⟩ <;> rfl
  pyHash := fun hv h => by
    rcases keyIs_shape hv with ⟨i, t, rfl, rfl⟩ | ⟨x, t, rfl, rfl⟩
    · exact wpAny_pyHash_int h
    · exact wpAny_pyHash_str h
  eqBool := fun hu hv h => by
    rcases keyIs_shape hu with ⟨i, t, rfl, rfl⟩ | ⟨x, t, rfl, rfl⟩
    · rcases keyIs_shape hv with ⟨j, u, rfl, rfl⟩ | ⟨y, u, rfl, rfl⟩
      · rw [key_ll] at h; exact wpAny_eqBool_int h
      · rw [key_lr] at h; exact SeqAt.EqAt.int_str i t y u _ _ _ _ h
    · rcases keyIs_shape hv with ⟨j, u, rfl, rfl⟩ | ⟨y, u, rfl, rfl⟩
      · rw [key_rl] at h; exact SeqAt.EqAt.str_int x t j u _ _ _ _ h
      · rw [key_rr] at h; exact wpAny_eqBool_str h
  «strs» := fun k x t v h => by
    rcases keyIs_shape h with ⟨i, u, rfl, e⟩ | ⟨y, u, rfl, e⟩
    · exact nomatch e
    · injection e with e1 _
      subst e1
      cases v <;> rfl

theorem mixKind_int (prog : Program) (w : World) (i : Int) (t : Tok) : (mixKind prog w).is (.inl i) (.int i t) = true := keyIs_int i t
theorem mixKind_str (prog : Program) (w : World) (x : Str) (t : Tok) : (mixKind prog w).is (.inr x) (.str x t) = true := keyIs_str x t
end L2

namespace L2
open PySem PySem.Spec PyProof.Rows

/-- a value, without the heap -/
inductive V where
  | non | bl (b : Bool) | int (i : Int) | str (x : Str) | byt (b : Array UInt8) | flt (b : UInt64) | ref (a : Addr) | ty (n : String)
  deriving DecidableEq

noncomputable def RelV : V → Value → Prop
  | .non, u => u = Value.none
  | .bl b, u => u = Value.bool b
  | .int i, u => ∃ t, u = Value.int i t
  | .str x, u => ∃ t, u = Value.str x t
  | .byt b, u => ∃ t, u = Value.bytes b t
  | .flt b, u => ∃ t, u = Value.float b t
  | .ref a, u => u = Value.ref a
  | .ty n, u => u = Value.type n

noncomputable abbrev Vals : List V → List Value → Prop := Paired RelV
theorem Vals.length {xs : List V} {us : List Value} (r : Vals xs us) : xs.length = us.length := Paired.length r
theorem Vals.get : ∀ {xs : List V} {us : List Value} {i : Nat} {x : V}, Vals xs us → xs[i]? = some x → ∃ u, us[i]? = some u ∧ RelV x u
  | _, _, _, _, .nil, e => by simp at e
  | _, _, 0, _, .cons r _, e => by simp at e; subst e; exact ⟨_, rfl, r⟩
  | _, _, i + 1, x, .cons _ t, e => by
    obtain ⟨u, h1, h2⟩ := Vals.get (i := i) (x := x) t (by simpa using e)
    exact ⟨u, by simpa using h1, h2⟩
theorem Vals.set {x : V} {u : Value} (r : RelV x u) : ∀ {xs : List V} {us : List Value} (i : Nat), Vals xs us → Vals (xs.set i x) (us.set i u)
  | _, _, _, .nil => .nil
  | _, _, 0, .cons _ t => .cons r t
  | _, _, i + 1, .cons q t => .cons q (Vals.set r i t)
theorem Vals.append : ∀ {xs ys : List V} {us ws : List Value}, Vals xs us → Vals ys ws → Vals (xs ++ ys) (us ++ ws)
  | _, _, _, _, .nil, s => s
  | _, _, _, _, .cons r t, s => .cons r (Vals.append t s)
theorem Vals.take : ∀ {xs : List V} {us : List Value} (n : Nat), Vals xs us → Vals (xs.take n) (us.take n)
  | _, _, 0, _ => .nil
  | _, _, _ + 1, .nil => .nil
  | _, _, n + 1, .cons r t => .cons r (Vals.take n t)
theorem Vals.drop : ∀ {xs : List V} {us : List Value} (n : Nat), Vals xs us → Vals (xs.drop n) (us.drop n)
  | _, _, 0, r => r
  | _, _, _ + 1, .nil => .nil
  | _, _, n + 1, .cons _ t => Vals.drop n t
noncomputable def RelO : Option V → Option Value → Prop
  | some v, some u => RelV v u
  | none, none => True
  | _, _ => False
noncomputable def KV {κ : Type} : List (κ × V) → List (κ × Value) → Prop := Paired fun (p : κ × V) (q : κ × Value) => p.1 = q.1 ∧ RelV p.2 q.2

/-- a key of a dict (00_mix): an int or a text -/
noncomputable def kV : Key → V
  | .inl i => .int i
  | .inr x => .str x

/-- what stands at a tracked address -/
inductive HO where
  /-- a list -/
  | lst (xs : List V)
  /-- a tuple (never changes) -/
  | tup (xs : List V)
  /-- a dict whose keys are ints and texts; one whose keys are tuples of ints and texts (the empty one is both) -/
  | dK (kvs : List (Key × V)) | dT (kvs : List (List Key × V))
  /-- a set of ints: its members, its size -/
  | set (S : Int → Bool) (n : Nat)
  /-- an instance of the class at C, its dict at dx, its attributes -/
  | ins (C dx : Addr) (fs : List (Str × V))
  /-- the dict of the instance at x -/
  | own (x : Addr)
  /-- the dict of an exception -/
  | xd (fs : List (Str × V))
  /-- a bound method, f of x -/
  | met (f x : Addr)
  /-- a range object lo, lo + 1, .. below hi -/
  | rng (lo hi : Int)
  /-- a thing that is known to the object (the script; a dict while a loop walks it): read, never written while it is so -/
  | frz (o : Obj) (u : HO)
  /-- a code object's table -/
  | tbl (ps : Array Value)
  /-- any other thing, by what is true of its one object (a def of one's own: SetO a S n := HO.ext fun h => ..) -/
  | ext (φ : Heap → Prop)

noncomputable abbrev Hp := Addr → Option HO
noncomputable def upd (H : Hp) (a : Addr) (o : HO) : Hp := fun b => if b = a then some o else H b
theorem upd_same {H : Hp} {a : Addr} {o : HO} : upd H a o a = some o := by unfold upd; rw [if_pos rfl]
theorem upd_ne {H : Hp} {a b : Addr} {o : HO} (h : b ≠ a) : upd H a o b = H b := by unfold upd; rw [if_neg h]
/-- two objects of different content stand apart -/
theorem ne_of {H : Hp} {a b : Addr} {o u : HO} (h : H a = some o) (h' : H b = some u) (d : o ≠ u) : a ≠ b := by
  intro e; subst e; rw [h] at h'; exact d (Option.some.inj h')
theorem ne_of_none {H : Hp} {a b : Addr} {o : HO} (h : H a = some o) (h' : H b = none) : a ≠ b := by
  intro e; subst e; rw [h] at h'; cases h'

section
variable (P : Program) (w : World)
noncomputable def ObjOk (H : Hp) (h : Heap) (a : Addr) : HO → Prop
  | .lst xs => xs.length ≤ sizeLine ∧ ∃ (its : List Value) (n : Nat), Vals xs its ∧ h.get? a = some { cls := .type "list", data := .seq its.toArray n }
  | .tup xs => xs.length ≤ sizeLine ∧ ∃ its : List Value, Vals xs its ∧ IsTup h a its.toArray
  | .dK kvs => kvs.length ≤ sizeLine ∧ (a == sysModules) = false ∧ ∃ vs, KV kvs vs ∧ h.DictOf (mixKind P w) a vs
  | .dT kvs => kvs.length ≤ sizeLine ∧ (a == sysModules) = false ∧ ∃ xs : List (List Key × Addr × Value),
      Paired (fun (p : List Key × V) (q : List Key × Addr × Value) => p.1 = q.1 ∧ H q.2.1 = some (.tup (p.1.map kV)) ∧ RelV p.2 q.2.2) kvs xs ∧
      ∃ o es ep, h.get? a = some o ∧ o.ExactDict ∧ o.data = .dict es ep ∧ es.toList = xs.map (entryOfKey (tupleKind (mixKind P w))) ∧ (xs.map (·.1)).Nodup ∧ ep = kvs.length
  | .set S n => h.SetOf (intKind P w) a S n
  | .ins C dx fs => H dx = some (.own a) ∧ fs.length ≤ 1000 ∧ dx ≠ a ∧ h.get? a = some (PySem.W.instObj C dx) ∧
      ∃ mA, h.Ns1 dx mA ∧ (∀ f, RelO (fs.lookup f) (mA f)) ∧ PySem.Within mA (fs.map (·.1))
  | .own _ => ∃ o, h.get? a = some o
  | .xd fs => ∃ mA, h.Ns1 a mA ∧ ∀ f, RelO (fs.lookup f) (mA f)
  | .rng lo hi => ∃ t u v, h.get? a = some { cls := .type "range", data := .fields #[.int lo t, .int hi u, .int 1 v] }
  | .frz o u => h.get? a = some o ∧ ObjOk H h a u
  | .tbl ps => h.get? a = some { cls := .none, data := .fields ps }
  | .met f x => h.get? a = some (PySem.W.methodObj (.ref f) (.ref x))
  | .ext φ => φ h ∧ (∃ o, h.get? a = some o) ∧ ∀ h1 h2 : Heap, φ h1 → (∀ o, h1.get? a = some o → h2.get? a = some o) → φ h2
/-- the abstract heap is held -/
noncomputable def HOk (H : Hp) (h : Heap) : Prop := ∀ a o, H a = some o → ObjOk P w H h a o
end

section
variable {P : Program} {w : World} {H H' : Hp} {h h' : Heap} {a : Addr} {o : HO}
theorem ObjOk.lt (x : ObjOk P w H h a o) : a < h.objs.size := by
  cases o with
  | lst xs => obtain ⟨_, _, _, _, e⟩ := x; exact Heap.lt_size e
  | tup xs => obtain ⟨_, _, _, p⟩ := x; exact p.lt
  | dK kvs => obtain ⟨_, _, _, _, o, _, _, e, _⟩ := x; exact Heap.lt_size e
  | dT kvs => obtain ⟨_, _, _, _, o, _, _, e, _⟩ := x; exact Heap.lt_size e
  | set S n => obtain ⟨o, _, _, _, e, _⟩ := x; exact Heap.lt_size e
  | ins C dx fs => obtain ⟨_, _, _, e, _⟩ := x; exact Heap.lt_size e
  | own y => obtain ⟨_, e⟩ := x; exact Heap.lt_size e
  | xd fs => obtain ⟨_, ⟨_, _, _, e, _⟩, _⟩ := x; exact Heap.lt_size e
  | rng lo hi => obtain ⟨_, _, _, e⟩ := x; exact Heap.lt_size e
  | frz ob u => obtain ⟨e, _⟩ := x; exact Heap.lt_size e
  | tbl ps => exact Heap.lt_size (show h.get? a = some _ from x)
  | met f y => exact Heap.lt_size (show h.get? a = some _ from x)
  | ext φ => obtain ⟨_, ⟨_, e⟩, _⟩ := x; exact Heap.lt_size e
theorem Paired.mapP {α β : Type} {F G : α → β → Prop} : ∀ {l₁ : List α} {l₂ : List β}, Paired F l₁ l₂ → (∀ a b, F a b → G a b) → Paired G l₁ l₂
  | _, _, .nil, _ => .nil
  | _, _, .cons r t, f => .cons (f _ _ r) (Paired.mapP t f)
/-- what an object's description leans on: its own object, its own dict, the tuples -/
theorem ObjOk.stay (x : ObjOk P w H h a o) (k : ∀ b u, (b = a ∨ H b = some (.own a)) → h.get? b = some u → h'.get? b = some u)
    (ho : ∀ b, H b = some (.own a) → H' b = some (.own a)) (ht : ∀ b xs, H b = some (.tup xs) → H' b = some (.tup xs)) : ObjOk P w H' h' a o := by
  induction o with
  | lst xs => obtain ⟨z, its, n, r, e⟩ := x; exact ⟨z, its, n, r, k _ _ (.inl rfl) e⟩
  | tup xs => obtain ⟨z, its, r, ob, e, c⟩ := x; exact ⟨z, its, r, ob, k _ _ (.inl rfl) e, c⟩
  | dK kvs => obtain ⟨z, y, vs, r, ob, es, ep, e, c⟩ := x; exact ⟨z, y, vs, r, ob, es, ep, k _ _ (.inl rfl) e, c⟩
  | dT kvs =>
    obtain ⟨z, y, xs, r, ob, es, ep, e, c⟩ := x
    exact ⟨z, y, xs, Paired.mapP r fun p q z => ⟨z.1, ht _ _ z.2.1, z.2.2⟩, ob, es, ep, k _ _ (.inl rfl) e, c⟩
  | set S n => obtain ⟨ob, es, ep, t, e, c⟩ := x; exact ⟨ob, es, ep, t, k _ _ (.inl rfl) e, c⟩
  | ins C dx fs =>
    obtain ⟨d, z, ne, e, mA, ⟨od, es, ep, e2, c⟩, r⟩ := x
    exact ⟨ho _ d, z, ne, k _ _ (.inl rfl) e, mA, ⟨od, es, ep, k _ _ (.inr d) e2, c⟩, r⟩
  | own y => obtain ⟨ob, e⟩ := x; exact ⟨ob, k _ _ (.inl rfl) e⟩
  | xd fs => obtain ⟨mA, ⟨od, es, ep, e, c⟩, r⟩ := x; exact ⟨mA, ⟨od, es, ep, k _ _ (.inl rfl) e, c⟩, r⟩
  | rng lo hi => obtain ⟨t, u, v, e⟩ := x; exact ⟨t, u, v, k _ _ (.inl rfl) e⟩
  | frz ob u ih => obtain ⟨e, q⟩ := x; exact ⟨k _ _ (.inl rfl) e, ih q⟩
  | tbl ps =>
    have e : h.get? a = some { cls := .none, data := .fields ps } := x
    show h'.get? a = some { cls := .none, data := .fields ps }
    exact k a _ (.inl rfl) e
  | met f y =>
    have e : h.get? a = some (PySem.W.methodObj (.ref f) (.ref y)) := x
    show h'.get? a = some (PySem.W.methodObj (.ref f) (.ref y))
    exact k a _ (.inl rfl) e
  | ext φ => obtain ⟨p, ⟨o, e⟩, st⟩ := x; exact ⟨st _ _ p fun o q => k _ _ (.inl rfl) q, ⟨o, k _ _ (.inl rfl) e⟩, st⟩
theorem HOk.lt (x : HOk P w H h) (e : H a = some o) : a < h.objs.size := (x a o e).lt
theorem HOk.fresh (x : HOk P w H h) (e : h.objs.size ≤ a) : H a = none := by
  cases q : H a with
  | none => rfl
  | some u => exact absurd (Nat.lt_of_lt_of_le (x.lt q) e) (Nat.lt_irrefl _)
/-- every object of the heap is kept -/
theorem HOk.kept (x : HOk P w H h) (k : ∀ b u, h.get? b = some u → h'.get? b = some u) : HOk P w H h' := fun a o e =>
  (x a o e).stay (fun b u _ q => k b u q) (fun _ q => q) fun _ _ q => q
/-- a new object is laid and tracked -/
theorem HOk.laid (x : HOk P w H h) (k : ∀ b u, h.get? b = some u → h'.get? b = some u) (hp : h.objs.size ≤ a) (new : ObjOk P w (upd H a o) h' a o) : HOk P w (upd H a o) h' := fun b u e => by
  have hn := x.fresh hp
  by_cases hb : b = a
  · subst hb; rw [upd_same] at e; cases e; exact new
  · rw [upd_ne hb] at e
    exact (x b u e).stay (fun c v _ q => k c v q) (fun c q => by rw [upd_ne (ne_of_none q hn)]; exact q) fun c xs q => by rw [upd_ne (ne_of_none q hn)]; exact q
end

/-- what may be read as u: it is u, or a known u -/
noncomputable def Rd (H : Hp) (a : Addr) (u : HO) : Prop := H a = some u ∨ ∃ o, H a = some (.frz o u)
theorem Rd.of {H : Hp} {a : Addr} {u : HO} (h : H a = some u) : Rd H a u := .inl h
theorem Rd.ok {P : Program} {w : World} {H : Hp} {h : Heap} {a : Addr} {u : HO} (r : Rd H a u) (x : HOk P w H h) : ObjOk P w H h a u := by
  rcases r with r | ⟨o, r⟩
  · exact x a u r
  · obtain ⟨_, q⟩ := x a _ r
    exact q
/-- what may be written -/
noncomputable def Mut : Option HO → Prop
  | some (.lst _) => True
  | some (.dK _) => True
  | some (.dT _) => True
  | some (.set _ _) => True
  | some (.ins _ _ _) => True
  | some (.ext _) => True
  | _ => False
section
variable {P : Program} {w : World} {H : Hp} {h h' : Heap} {x e : Addr} {o' : HO}
/-- the object at e is changed: x itself, or the dict of the instance x -/
theorem HOk.write (ok : HOk P w H h) (mu : Mut (H x)) (he : e = x ∨ H e = some (.own x)) (k : ∀ b u, b ≠ e → h.get? b = some u → h'.get? b = some u) (heo : ∃ u, h'.get? e = some u)
    (new : ObjOk P w (upd H x o') h' x o') : HOk P w (upd H x o') h' := fun b u q => by
  have nown : ∀ c y, H c = some (.own y) → c ≠ x := fun c y r z => by subst z; rw [r] at mu; exact mu
  have ntup : ∀ c xs, H c = some (.tup xs) → c ≠ x := fun c xs r z => by subst z; rw [r] at mu; exact mu
  by_cases hb : b = x
  · subst hb; rw [upd_same] at q; cases q; exact new
  · rw [upd_ne hb] at q
    by_cases hbe : b = e
    · have q' : H b = some (.own x) := by
        rcases he with z | z
        · exact absurd (hbe.trans z) hb
        · rw [hbe]; exact z
      rw [q] at q'; cases q'
      obtain ⟨v, hv⟩ := heo
      exact ⟨v, by rw [hbe]; exact hv⟩
    · refine (ok b u q).stay (fun c v hc r => k c v ?_ r) (fun c r => by rw [upd_ne (nown c b r)]; exact r) fun c xs r => by rw [upd_ne (ntup c xs r)]; exact r
      rcases hc with rfl | hc
      · exact hbe
      · rintro rfl
        rcases he with z | z
        · exact nown c b hc z
        · rw [hc] at z; cases z; exact hb rfl
end

/-! ### kept unless tracked; of the frames at fs (the callers') the slots may change (an exception that passes writes there); of the records at ex (iterators) nothing is said -/
structure Un (fs ex : List Addr) (H H' : Hp) (h h' : Heap) : Prop where
  keep : ∀ b o, h.get? b = some o → H b = none → b ∉ fs → b ∉ ex → h'.get? b = some o
  slot : ∀ b o, h.get? b = some o → H b = none → b ∈ fs → b ∉ ex → ∃ sl, h'.get? b = some { o with slots := sl }
  free : ∀ b o, h.get? b = some o → H b = none → b ∉ ex → H' b = none
  there : ∀ b o, h.get? b = some o → b ∉ ex → ∃ o', h'.get? b = some o'
  tups : ∀ b xs, H b = some (.tup xs) → H' b = some (.tup xs)
  frzs : ∀ b o u, H b = some (.frz o u) → H' b = some (.frz o u)
  tbls : ∀ b ps, H b = some (.tbl ps) → ∃ more, H' b = some (.tbl (ps ++ more))
section
variable {fs fs' ex ex' : List Addr} {H H1 H2 : Hp} {h h1 h2 h' : Heap} {a x e : Addr} {o : HO}
theorem Un.any (u : Un fs ex H H1 h h1) {b : Addr} {ob : Obj} (q : h.get? b = some ob) (n : H b = none) (hx : b ∉ ex) : ∃ sl, h1.get? b = some { ob with slots := sl } := by
  by_cases hb : b ∈ fs
  · exact u.slot b ob q n hb hx
  · exact ⟨ob.slots, u.keep b ob q n hb hx⟩
theorem Un.trans (a : Un fs ex H H1 h h1) (b : Un fs ex H1 H2 h1 h2) : Un fs ex H H2 h h2 where
  keep := fun c ob q n hc hx => b.keep c ob (a.keep c ob q n hc hx) (a.free c ob q n hx) hc hx
  slot := fun c ob q n hc hx => by
    obtain ⟨sl, e1⟩ := a.slot c ob q n hc hx
    obtain ⟨sl', e2⟩ := b.slot c _ e1 (a.free c ob q n hx) hc hx
    exact ⟨sl', e2⟩
  free := fun c ob q n hx => by
    obtain ⟨o', e1⟩ := a.there c ob q hx
    exact b.free c o' e1 (a.free c ob q n hx) hx
  there := fun c ob q hx => by
    obtain ⟨o', e1⟩ := a.there c ob q hx
    exact b.there c o' e1 hx
  tups := fun c xs q => b.tups c xs (a.tups c xs q)
  frzs := fun c ob xs q => b.frzs c ob xs (a.frzs c ob xs q)
  tbls := fun c ps q => by
    obtain ⟨m1, e1⟩ := a.tbls c ps q
    obtain ⟨m2, e2⟩ := b.tbls c _ e1
    exact ⟨m1 ++ m2, by rw [e2, Array.append_assoc]⟩
theorem Un.kept (k : ∀ b u, h.get? b = some u → h'.get? b = some u) : Un fs ex H H h h' :=
  ⟨fun b ob q _ _ _ => k b ob q, fun b ob q _ _ _ => ⟨ob.slots, k b ob q⟩, fun _ _ _ n _ => n, fun b ob q _ => ⟨ob, k b ob q⟩, fun _ _ q => q, fun _ _ _ q => q, fun _ ps q => ⟨#[], by rw [q]; simp⟩⟩
theorem Un.refl : Un fs ex H H h h := Un.kept fun _ _ q => q
theorem Un.laid (k : ∀ b u, h.get? b = some u → h'.get? b = some u) (hp : h.objs.size ≤ a) (hn : H a = none) : Un fs ex H (upd H a o) h h' where
  keep := fun b u q _ _ _ => k b u q
  slot := fun b u q _ _ _ => ⟨u.slots, k b u q⟩
  free := fun b u q n _ => by rw [upd_ne (Nat.ne_of_lt (Nat.lt_of_lt_of_le (Heap.lt_size q) hp))]; exact n
  there := fun b u q _ => ⟨u, k b u q⟩
  tups := fun b xs q => by rw [upd_ne (ne_of_none q hn)]; exact q
  frzs := fun b u xs q => by rw [upd_ne (ne_of_none q hn)]; exact q
  tbls := fun b ps q => ⟨#[], by rw [upd_ne (ne_of_none q hn), q]; simp⟩
theorem Un.write (mu : Mut (H x)) (he : e = x ∨ H e = some (.own x)) (k : ∀ b u, b ≠ e → h.get? b = some u → h'.get? b = some u) (heo : ∃ u, h'.get? e = some u) : Un fs ex H (upd H x o) h h' := by
  have hx : ∀ b, H b = none → b ≠ x := fun b n z => by subst z; rw [n] at mu; exact mu
  have hb : ∀ b, H b = none → b ≠ e := fun b n z => by
    subst z
    rcases he with r | r
    · exact hx b n r
    · rw [n] at r; cases r
  have hm : ∀ b u, H b = some u → ¬ Mut (some u) → b ≠ x := fun b u q nm z => by subst z; rw [q] at mu; exact nm mu
  refine ⟨fun b u q n _ _ => k b u (hb b n) q, fun b u q n _ _ => ⟨u.slots, k b u (hb b n) q⟩, fun b u q n _ => by rw [upd_ne (hx b n)]; exact n, fun b u q _ => ?_,
    fun b xs q => by rw [upd_ne (hm b _ q fun z => z)]; exact q, fun b u xs q => by rw [upd_ne (hm b _ q fun z => z)]; exact q, fun b ps q => ⟨#[], by rw [upd_ne (hm b _ q fun z => z), q]; simp⟩⟩
  by_cases hbe : b = e
  · subst hbe; exact heo
  · exact ⟨u, k b u hbe q⟩
theorem Un.mono (u : Un fs ex H H1 h h1) (hs : ∀ b ∈ fs, b ∈ fs') (hx : ∀ b ∈ ex, b ∈ ex') : Un fs' ex' H H1 h h1 :=
  ⟨fun b ob q n hb he => u.keep b ob q n (fun z => hb (hs b z)) fun z => he (hx b z), fun _ _ q n _ he => u.any q n fun z => he (hx _ z), fun b ob q n he => u.free b ob q n fun z => he (hx b z), fun b ob q he => u.there b ob q fun z => he (hx b z), u.tups, u.frzs, u.tbls⟩
end

/-! ### the heap without what is tracked -/
noncomputable def trk (h : Heap) (H : Hp) : List Addr := (List.range h.objs.size).filter fun a => (H a).isSome
noncomputable def hidT (h : Heap) (H : Hp) : Heap := PySem.W.hideAll h (trk h H)
theorem hidT_size (h : Heap) (H : Hp) : (hidT h H).objs.size = h.objs.size := PySem.W.hideAll_size _ _
theorem hidT_get {h : Heap} {H : Hp} {b : Addr} {o : Obj} (e : h.get? b = some o) (n : H b = none) : (hidT h H).get? b = some o :=
  PySem.W.hideAll_get _ e fun hm => by
    have q : (H b).isSome = true := (List.mem_filter.mp hm).2
    rw [n] at q; simp at q
theorem of_hidT {h : Heap} {H : Hp} {b : Addr} {o : Obj} (e : (hidT h H).get? b = some o) : h.get? b = some o ∧ H b = none := by
  have e' : h.get? b = some o := PySem.W.of_hideAll (trk h H) e
  refine ⟨e', ?_⟩
  cases q : H b with
  | none => rfl
  | some x =>
    have hm : b ∈ trk h H := List.mem_filter.mpr ⟨List.mem_range.mpr (Heap.lt_size e'), by simp [q]⟩
    have z : (hidT h H).get? b = none := PySem.W.hideAll_none (trk h H) hm
    rw [z] at e; cases e

/-! ### OpenK's ledger, filled with every new object but one -/
noncomputable def allNews (g h : Heap) (L : Addr) : List (Addr × Obj) := (List.range h.objs.size).filterMap fun a => if a = L ∨ (g.get? a).isSome = true then none else (h.get? a).map fun o => (a, o)
noncomputable def rest (g h : Heap) (L d : Addr) : List (Addr × Obj) := (allNews g h L).filter fun p => decide (p.1 ≠ d)
end L2

namespace L2
open PySem PySem.Spec PyProof.Rows

/-- the module's facts, over the base: the heap at the law's entry without what is tracked there -/
structure Mod (K : PySem.W.Frag) (mg : Str → Option Value) (base : Heap) : Prop where
  kin : K.In base
  glob : base.Ns mainGlobals mg
  blt : ∃ mb, base.Ns builtinsNs mb ∧ ∀ x : Str, x ≠ "__name__" → mb x = bootBuiltins x
  nolimit : base.NoLimit

/-- the context: a def's body (or a comprehension's block) running. base: fixed through the whole law; s₀, H₀: the entry; outer: the frames whose slots others may change (a def's callers); stack: all frames that run;
   ex: iterators that were made ahead of the entry and are walked here (a comprehension's); fn: the names whose cells were made at the entry (a def: all; a comprehension's block: its own); calm: not within an except suite; pn: pins that every state bears; xe: what is wanted of an exception that leaves the code -/
structure Cx where
  prog : Program
  w : World
  K : PySem.W.Frag
  mg : Str → Option Value
  base : Heap
  A : Around
  N : List Str
  s₀ : Shared
  H₀ : Hp
  env : Env
  outer : List Env
  stack : List Env
  ex : List Addr
  fn : Str → Bool
  calm : Bool
  pn : List (Addr × Obj)
  xe : Value → Shared → Prop
/-- the callers' frames -/
noncomputable def frs (l : List Env) : List Addr := l.filterMap (·.frame)
noncomputable abbrev Cx.fs (X : Cx) : List Addr := frs X.outer

noncomputable def Vis (sc : Scope) (x : Str) : Prop := sc.names.lookup x = some .local ∨ sc.names.lookup x = some .cell ∨ sc.names.lookup x = some .free
noncomputable def Loc (sc : Scope) (x : Str) : Prop := sc.names.lookup x = some .local ∨ sc.names.lookup x = some .cell
noncomputable def Look (env : Env) (h : Heap) (m : Str → Option Value) (x : Str) (u : Value) : Prop :=
  (env.kindOf x = some .local ∧ m x = some u) ∨ ((env.kindOf x = some .cell ∨ env.kindOf x = some .free) ∧ ∃ c, env.cells.lookup x = some c ∧ h.IsCell c (some u))

structure Cx.Ok (X : Cx) : Prop where
  mod : Mod X.K X.mg X.base
  kind : X.env.scope.kind = .function
  glob : X.env.globals = mainGlobals
  blt : X.env.builtins = builtinsNs
  above : X.s₀.heap.objs.size ≤ X.env.locals
  inj : ∀ x y c, X.env.cells.lookup x = some c → X.env.cells.lookup y = some c → x = y
  has : ∀ x, (X.env.kindOf x = some .cell ∨ X.env.kindOf x = some .free) → ∃ c, X.env.cells.lookup x = some c
  cab : ∀ x c, X.fn x = true → X.env.cells.lookup x = some c → X.s₀.heap.objs.size ≤ c
  hd : X.calm = true → X.A.handled = none
  frames : X.A.frames = some X.stack
  stk : X.stack = X.outer ∨ (X.stack = X.env :: X.outer ∧ X.env.frame = some X.env.locals)
  exf : ∀ b ∈ X.ex, b ≠ X.env.locals ∧ ∀ x c, X.env.cells.lookup x = some c → c ≠ b
  bs : ∀ b o, X.base.get? b = some o → X.s₀.heap.get? b = some o ∧ X.H₀ b = none
  bsz : X.base.objs.size ≤ X.s₀.heap.objs.size
  noex : ∀ b o, X.base.get? b = some o → b ∉ X.ex
  exfs : ∀ b ∈ X.ex, b ∉ X.fs
  funs : X.s₀.heap.FunFrames X.base X.outer
  frf : ∀ b ∈ X.fs, X.H₀ b = none

structure Inv (X : Cx) (pins : List (Addr × Obj)) (σ : List (Option V)) (H : Hp) (s : Shared) : Prop where
  ok : X.Ok
  os : s.os = X.s₀.os
  bare : AllBare s.gens
  base : Un X.fs X.ex X.H₀ H X.s₀.heap s.heap
  loc : ∃ m, s.heap.Ns X.env.locals m ∧ ∀ (i : Nat) (x : Str) (v : V), X.N[i]? = some x → σ[i]? = some (some v) → Vis X.env.scope x → ∃ u, RelV v u ∧ Look X.env s.heap m x u
  cell : ∀ x c, X.env.cells.lookup x = some c → ∃ v, s.heap.IsCell c v
  free : H X.env.locals = none
  freeC : ∀ x c, X.env.cells.lookup x = some c → H c = none
  pin : ∀ p ∈ X.pn ++ pins, s.heap.get? p.1 = some p.2 ∧ H p.1 = none ∧ p.1 ≠ X.env.locals ∧ p.1 ∉ X.fs ∧ ∀ v, p.2.data ≠ .cell v
  hok : HOk X.prog X.w H s.heap
  len : σ.length = X.N.length

section
variable {X : Cx} {pins : List (Addr × Obj)} {σ : List (Option V)} {H H' : Hp} {s : Shared} {h' : Heap}

theorem Cx.Ok.nofr (ok : X.Ok) {b : Addr} {o : Obj} (e : X.base.get? b = some o) : b ∉ X.fs := fun hb => by
  have := (ok.funs.mem hb).1
  rw [e] at this; cases this
theorem Inv.bs (I : Inv X pins σ H s) : ∀ b o, X.base.get? b = some o → s.heap.get? b = some o ∧ H b = none := fun b o e =>
  ⟨I.base.keep b o (I.ok.bs b o e).1 (I.ok.bs b o e).2 (I.ok.nofr e) (I.ok.noex b o e), I.base.free b o (I.ok.bs b o e).1 (I.ok.bs b o e).2 (I.ok.noex b o e)⟩
theorem Inv.bk (I : Inv X pins σ H s) : ∀ b o, X.base.get? b = some o → s.heap.get? b = some o := fun b o e => (I.bs b o e).1
theorem Inv.mod (I : Inv X pins σ H s) : Mod X.K X.mg X.base := I.ok.mod
theorem Inv.kIn (I : Inv X pins σ H s) : X.K.In s.heap := I.ok.mod.kin.keeps I.bk
theorem Inv.nolimit (I : Inv X pins σ H s) : s.heap.NoLimit := I.ok.mod.nolimit.keeps I.bk
/-- the frame over the base: for OpenK's rules (K.In X.base is I.mod.kin) -/
theorem Inv.fr (I : Inv X pins σ H s) : ∃ m, Fr X.base X.env.locals s.heap m :=
  let ⟨m, hn, _⟩ := I.loc
  ⟨m, hn, I.bk, Nat.le_trans I.ok.bsz I.ok.above⟩
theorem Inv.lt (I : Inv X pins σ H s) : X.env.locals < s.heap.objs.size := let ⟨_, hn, _⟩ := I.loc; hn.lt
theorem Inv.sz (I : Inv X pins σ H s) : X.s₀.heap.objs.size ≤ s.heap.objs.size := Nat.le_trans I.ok.above (Nat.le_of_lt I.lt)
theorem Inv.nofs (I : Inv X pins σ H s) {a : Addr} (h : s.heap.objs.size ≤ a) : a ∉ X.fs := fun hb => by
  obtain ⟨_, o, ho, _⟩ := I.ok.funs.mem hb
  exact absurd (Nat.lt_of_lt_of_le (Heap.lt_size ho) (Nat.le_trans I.sz h)) (Nat.lt_irrefl _)
theorem Inv.cne (I : Inv X pins σ H s) : ∀ x c, X.env.cells.lookup x = some c → c ≠ X.env.locals := fun x c e z => by
  obtain ⟨v, o, ho, hd⟩ := I.cell x c e
  obtain ⟨m, ⟨o', es, ep, ho', hd', _⟩, _⟩ := I.loc
  rw [z, ho'] at ho; cases ho; rw [hd'] at hd; cases hd
theorem Inv.funs (I : Inv X pins σ H s) : s.heap.FunFrames X.base X.outer := by
  have all : ∀ (l : List Env), (∀ b ∈ frs l, b ∈ X.fs) → X.s₀.heap.FunFrames X.base l → s.heap.FunFrames X.base l := by
    intro l
    induction l with
    | nil => intro _ _; trivial
    | cons env r ih =>
      intro hs hl
      obtain ⟨hk, ⟨L, o, hf, hn, ho, hd⟩, hr⟩ := hl
      have hL : L ∈ X.fs := hs L (by unfold frs; rw [List.filterMap_cons, hf]; exact List.mem_cons_self)
      obtain ⟨sl, e⟩ := I.base.slot L o ho (I.ok.frf L hL) hL fun z => I.ok.exfs L z hL
      exact ⟨hk, ⟨L, _, hf, hn, e, hd⟩, ih (fun b hb => hs b (by unfold frs; rw [List.filterMap_cons, hf]; exact List.mem_cons_of_mem _ hb)) hr⟩
  exact all X.outer (fun _ hb => hb) I.ok.funs

/-- the frames that run, for a call -/
theorem Inv.stack (I : Inv X pins σ H s) : s.heap.FunFrames X.base X.stack := by
  rcases I.ok.stk with e | ⟨e, hf⟩
  · rw [e]; exact I.funs
  · rw [e]
    obtain ⟨m, hn, _⟩ := I.loc
    refine .cons (by rw [I.ok.kind]; decide) hf hn ?_ I.funs
    exact Heap.get?_none_of_le (Nat.le_trans I.ok.bsz I.ok.above)
theorem Inv.stkSub (I : Inv X pins σ H s) : ∀ b ∈ frs X.stack, b ∈ X.env.locals :: X.fs := fun b hb => by
  rcases I.ok.stk with e | ⟨e, hf⟩
  · rw [e] at hb; exact List.mem_cons_of_mem _ hb
  · rw [e] at hb
    unfold frs at hb
    rw [List.filterMap_cons, hf] at hb
    exact hb
theorem Inv.stkFree (I : Inv X pins σ H s) : ∀ b ∈ frs X.stack, H b = none := fun b hb => by
  rcases List.mem_cons.mp (I.stkSub b hb) with e | hb
  · rw [e]; exact I.free
  · obtain ⟨_, o, ho, _⟩ := I.ok.funs.mem hb
    exact I.base.free b o ho (I.ok.frf b hb) fun z => I.ok.exfs b z hb

/-- THE STEP: the untracked objects but the frame and the records at ch are kept (the callers' frames up to slots), the frame's map is kept, the new abstract heap is held -/
theorem Inv.step {g' : Array GenState} {t' : Nat} {d' : Drawn} {ch : List Addr} (I : Inv X pins σ H s)
    (hch : ∀ b ∈ ch, (b ∈ X.ex ∨ X.s₀.heap.objs.size ≤ b) ∧ b ≠ X.env.locals ∧ (∀ x c, X.env.cells.lookup x = some c → c ≠ b) ∧ ∀ p ∈ X.pn ++ pins, p.1 ≠ b)
    (keep : ∀ b o, b ≠ X.env.locals → b ∉ X.fs → b ∉ ch → s.heap.get? b = some o → H b = none → h'.get? b = some o)
    (slot : ∀ b o, b ≠ X.env.locals → b ∈ X.fs → b ∉ ch → s.heap.get? b = some o → H b = none → ∃ sl, h'.get? b = some { o with slots := sl }) (free : ∀ b o, b ∉ ch → s.heap.get? b = some o → H b = none → H' b = none)
    (there : ∀ b o, b ∉ ch → s.heap.get? b = some o → ∃ o', h'.get? b = some o')
    (tups : ∀ b xs, H b = some (.tup xs) → H' b = some (.tup xs)) (frzs : ∀ b o u, H b = some (.frz o u) → H' b = some (.frz o u)) (tbls : ∀ b ps, H b = some (.tbl ps) → ∃ more, H' b = some (.tbl (ps ++ more)))
    (ns : ∀ m, s.heap.Ns X.env.locals m → h'.Ns X.env.locals m) (hok : HOk X.prog X.w H' h') (hg : AllBare g') :
    Inv X pins σ H' { s with heap := h', gens := g', drawn := d', toks := t' } := by
  have neL : ∀ b o, X.s₀.heap.get? b = some o → b ≠ X.env.locals := fun b o e => Nat.ne_of_lt (Nat.lt_of_lt_of_le (Heap.lt_size e) I.ok.above)
  have neC : ∀ b o, X.s₀.heap.get? b = some o → b ∉ X.ex → b ∉ ch := fun b o e hx hb => by
    rcases (hch b hb).1 with z | z
    · exact hx z
    · exact absurd (Nat.lt_of_lt_of_le (Heap.lt_size e) z) (Nat.lt_irrefl _)
  have cellK : ∀ x c, X.env.cells.lookup x = some c → ∀ v, s.heap.IsCell c v → h'.IsCell c v := fun x c e v ⟨o, ho, hd⟩ => by
    have nch : c ∉ ch := fun z => (hch c z).2.2.1 x c e rfl
    by_cases hc : c ∈ X.fs
    · obtain ⟨sl, q⟩ := slot c o (I.cne x c e) hc nch ho (I.freeC x c e)
      exact ⟨_, q, hd⟩
    · exact ⟨o, keep c o (I.cne x c e) hc nch ho (I.freeC x c e), hd⟩
  refine ⟨I.ok, I.os, hg, ⟨fun b o e n hb hx => ?_, fun b o e n hb hx => ?_, fun b o e n hx => ?_, fun b o e hx => ?_, fun b xs e => tups b xs (I.base.tups b xs e), fun b o xs e => frzs b o xs (I.base.frzs b o xs e), fun b ps e => ?_⟩, ?_, fun x c e => ?_, ?_, fun x c e => ?_, fun p hp => ?_, hok, I.len⟩
  · exact keep b o (neL b o e) hb (neC b o e hx) (I.base.keep b o e n hb hx) (I.base.free b o e n hx)
  · obtain ⟨sl, e1⟩ := I.base.slot b o e n hb hx
    obtain ⟨sl', e2⟩ := slot b _ (neL b o e) hb (neC b o e hx) e1 (I.base.free b o e n hx)
    exact ⟨sl', e2⟩
  · obtain ⟨o', e1⟩ := I.base.there b o e hx
    exact free b o' (neC b o e hx) e1 (I.base.free b o e n hx)
  · obtain ⟨o', e1⟩ := I.base.there b o e hx
    exact there b o' (neC b o e hx) e1
  · obtain ⟨m1, e1⟩ := I.base.tbls b ps e
    obtain ⟨m2, e2⟩ := tbls b _ e1
    exact ⟨m1 ++ m2, by rw [e2, Array.append_assoc]⟩
  · obtain ⟨m, hn, hl⟩ := I.loc
    refine ⟨m, ns m hn, fun i x v e1 e2 e3 => ?_⟩
    obtain ⟨u, r, l⟩ := hl i x v e1 e2 e3
    refine ⟨u, r, ?_⟩
    rcases l with l | ⟨k, c, e, z⟩
    · exact .inl l
    · exact .inr ⟨k, c, e, cellK x c e _ z⟩
  · obtain ⟨v, z⟩ := I.cell x c e
    exact ⟨v, cellK x c e v z⟩
  · obtain ⟨m, ⟨o, _, _, ho, _⟩, _⟩ := I.loc
    exact free _ o (fun z => (hch _ z).2.1 rfl) ho I.free
  · obtain ⟨v, o, ho, hd⟩ := I.cell x c e
    exact free c o (fun z => (hch c z).2.2.1 x c e rfl) ho (I.freeC x c e)
  · obtain ⟨e, n, ne, nf, d⟩ := I.pin p hp
    have nch : p.1 ∉ ch := fun z => (hch p.1 z).2.2.2 p hp rfl
    exact ⟨keep p.1 p.2 ne nf nch e n, free p.1 p.2 nch e n, ne, nf, d⟩
/-- .. where the frame's own object is kept too -/
theorem Inv.un {t' : Nat} (I : Inv X pins σ H s) (u : Un X.fs [] H H' s.heap h') (hok : HOk X.prog X.w H' h') : Inv X pins σ H' { s with heap := h', toks := t' } := by
  obtain ⟨m, ⟨o, es, ep, ho, r⟩, _⟩ := id I.loc
  obtain ⟨sl, hL⟩ := u.any ho I.free (by simp)
  exact I.step (g' := s.gens) (d' := s.drawn) (ch := []) (fun _ z => nomatch z) (fun b o _ hb _ e n => u.keep b o e n hb (by simp)) (fun b o _ hb _ e n => u.slot b o e n hb (by simp)) (fun b o _ e n => u.free b o e n (by simp)) (fun b o _ e => u.there b o e (by simp)) u.tups u.frzs u.tbls (fun m' hm => by
    obtain ⟨o', es', ep', ho', r'⟩ := hm
    rw [ho] at ho'; cases ho'
    exact ⟨_, es', ep', hL, r'⟩) hok I.bare
/-- behind a call (or a comprehension's block): the slots of this frame may have changed too, the records at ch may have turned -/
theorem Inv.call {g' : Array GenState} {t' : Nat} {d' : Drawn} {ch : List Addr} (I : Inv X pins σ H s) (u : Un (frs X.stack) ch H H' s.heap h') (hok : HOk X.prog X.w H' h') (hg : AllBare g')
    (hch : ∀ b ∈ ch, (b ∈ X.ex ∨ X.s₀.heap.objs.size ≤ b) ∧ b ≠ X.env.locals ∧ (∀ x c, X.env.cells.lookup x = some c → c ≠ b) ∧ ∀ p ∈ X.pn ++ pins, p.1 ≠ b) :
    Inv X pins σ H' { s with heap := h', gens := g', drawn := d', toks := t' } := by
  obtain ⟨m, ⟨o, es, ep, ho, r⟩, _⟩ := id I.loc
  obtain ⟨sl, hL⟩ := u.any ho I.free fun z => (hch _ z).2.1 rfl
  exact I.step (ch := ch) hch (fun b o hL hb hc e n => u.keep b o e n (fun z => (List.mem_cons.mp (I.stkSub b z)).elim hL hb) hc) (fun b o _ _ hc e n => u.any e n hc) (fun b o hc e n => u.free b o e n hc) (fun b o hc e => u.there b o e hc) u.tups u.frzs u.tbls (fun m' hm => by
    obtain ⟨o', es', ep', ho', r'⟩ := hm
    rw [ho] at ho'; cases ho'
    exact ⟨_, es', ep', hL, r'⟩) hok hg
/-- an untracked record of ours (an iterator) has turned -/
theorem Inv.turned {t' : Nat} {it : Addr} (I : Inv X pins σ H s) (k : ∀ b o, b ≠ it → s.heap.get? b = some o → h'.get? b = some o) (hn : H it = none) (hL : it ≠ X.env.locals)
    (h1 : it ∈ X.ex ∨ X.s₀.heap.objs.size ≤ it) (h2 : ∀ x c, X.env.cells.lookup x = some c → c ≠ it) (h3 : ∀ p ∈ X.pn ++ pins, p.1 ≠ it) : Inv X pins σ H { s with heap := h', toks := t' } := by
  have nit : ∀ b u, H b = some u → b ≠ it := fun b u e z => by rw [z, hn] at e; cases e
  refine I.step (g' := s.gens) (d' := s.drawn) (ch := [it]) (fun b hb => ?_) (fun b o _ _ hc e _ => k b o (fun z => hc (by simp [z])) e) (fun b o _ _ hc e _ => ⟨o.slots, k b o (fun z => hc (by simp [z])) e⟩) (fun _ _ _ _ n => n)
    (fun b o hc e => ⟨o, k b o (fun z => hc (by simp [z])) e⟩) (fun _ _ e => e) (fun _ _ _ e => e) (fun b ps e => ⟨#[], by rw [e]; simp⟩) (fun m hm => ?_) (fun b u e => ?_) I.bare
  · have e : b = it := by simpa using hb
    subst e
    exact ⟨h1, hL, h2, h3⟩
  · obtain ⟨o, es, ep, ho, r⟩ := hm
    exact ⟨o, es, ep, k _ o (Ne.symm hL) ho, r⟩
  · refine (I.hok b u e).stay (fun c v hc q => k c v ?_ q) (fun _ q => q) fun _ _ q => q
    rcases hc with z | z
    · rw [z]; exact nit b u e
    · exact nit c _ z
theorem Inv.tok (I : Inv X pins σ H s) (t : Nat) : Inv X pins σ H { s with toks := t } := I.un (h' := s.heap) (t' := t) Un.refl I.hok
/-- all objects kept -/
theorem Inv.kept {t' : Nat} (I : Inv X pins σ H s) (k : ∀ b u, s.heap.get? b = some u → h'.get? b = some u) : Inv X pins σ H { s with heap := h', toks := t' } := I.un (Un.kept k) (I.hok.kept k)
/-- a new object laid and tracked -/
theorem Inv.laid {a : Addr} {o : HO} {t' : Nat} (I : Inv X pins σ H s) (k : ∀ b u, s.heap.get? b = some u → h'.get? b = some u) (hp : s.heap.objs.size ≤ a) (new : ObjOk X.prog X.w (upd H a o) h' a o) :
    Inv X pins σ (upd H a o) { s with heap := h', toks := t' } := I.un (Un.laid k hp (I.hok.fresh hp)) (I.hok.laid k hp new)
/-- an object written -/
theorem Inv.write {x e : Addr} {o : HO} {t' : Nat} (I : Inv X pins σ H s) (mu : Mut (H x)) (he : e = x ∨ H e = some (.own x)) (k : ∀ b u, b ≠ e → s.heap.get? b = some u → h'.get? b = some u) (heo : ∃ u, h'.get? e = some u)
    (new : ObjOk X.prog X.w (upd H x o) h' x o) : Inv X pins σ (upd H x o) { s with heap := h', toks := t' } := I.un (Un.write mu he k heo) (I.hok.write mu he k heo new)
theorem Inv.pins_of {pins' : List (Addr × Obj)} (I : Inv X pins σ H s) (h : ∀ p ∈ pins', s.heap.get? p.1 = some p.2 ∧ H p.1 = none ∧ p.1 ≠ X.env.locals ∧ p.1 ∉ X.fs ∧ ∀ v, p.2.data ≠ .cell v) : Inv X pins' σ H s :=
  ⟨I.ok, I.os, I.bare, I.base, I.loc, I.cell, I.free, I.freeC, fun p hp => (List.mem_append.mp hp).elim (fun z => I.pin p (List.mem_append_left _ z)) (h p), I.hok, I.len⟩

theorem nodup_ix {N : List Str} (hN : N.Nodup) {i j : Nat} {x : Str} (a : N[i]? = some x) (b : N[j]? = some x) : i = j := by
  obtain ⟨h1, e1⟩ := List.getElem?_eq_some_iff.mp a
  obtain ⟨h2, e2⟩ := List.getElem?_eq_some_iff.mp b
  exact (List.getElem_inj hN).mp (e1.trans e2.symm)

/-- a name is stored; what changed -/
theorem store_ok2 {M : Model} {A : Around} {E : Value → Shared → Prop} {i : Nat} {x : Str} {v : V} {u : Value} {Q : Unit → Shared → Prop} (I : Inv X pins σ H s) (hN : X.N.Nodup) (hi : X.N[i]? = some x) (hx : Loc X.env.scope x) (r : RelV v u)
    (h : ∀ s', Inv X pins (σ.set i (some v)) H s' → (∃ a, Heap.SameBut a s.heap s'.heap ∧ (a = X.env.locals ∨ X.env.cells.lookup x = some a)) → Q () s') (hf : X.fn x = true ∨ X.env.scope.names.lookup x = some .local := by first | exact .inl rfl | exact .inr rfl | assumption) : wpAny M A (storeName X.env x u) Q E s := by
  obtain ⟨m, hn, hl⟩ := id I.loc
  have hcls : (X.env.scope.kind == .class || (X.env.scope.kind == .module && X.env.locals != X.env.globals)) = false := by rw [I.ok.kind]; rfl
  have hiσ : i < σ.length := by rw [I.len]; exact (List.getElem?_eq_some_iff.mp hi).1
  have cne := I.cne
  have tracked : ∀ {a : Addr} {h' : Heap}, (∃ o, s.heap.get? a = some o ∧ H a = none) → Heap.SameBut a s.heap h' → HOk X.prog X.w H h' := fun {a h'} ha hs b ob e => by
    obtain ⟨_, _, hfree⟩ := ha
    refine (I.hok b ob e).stay (fun c w' hc q => (hs.2 c ?_).trans q) (fun _ q => q) fun _ _ q => q
    rintro rfl
    rcases hc with rfl | hc
    · rw [hfree] at e; cases e
    · rw [hfree] at hc; cases hc
  rcases hx with hk | hk
  · refine wpAny_storeName_local hk hn (fun h' hn' hs => ?_) hcls
    obtain ⟨oL, _, _, hoL, _⟩ := id hn
    refine h _ ⟨I.ok, I.os, I.bare, ⟨fun b o e n hb hx => ?_, fun b o e n hb hx => ?_, I.base.free, fun b o e hx => ?_, I.base.tups, I.base.frzs, I.base.tbls⟩, ⟨_, hn', fun j y v' e1 e2 e3 => ?_⟩, fun y c e => ?_, I.free, I.freeC, fun p hp => ?_, tracked ⟨oL, hoL, I.free⟩ hs, by simpa using I.len⟩ ⟨_, hs, .inl rfl⟩
    · exact (hs.2 b (Nat.ne_of_lt (Nat.lt_of_lt_of_le (Heap.lt_size e) I.ok.above))).trans (I.base.keep b o e n hb hx)
    · obtain ⟨sl, e1⟩ := I.base.slot b o e n hb hx
      exact ⟨sl, (hs.2 b (Nat.ne_of_lt (Nat.lt_of_lt_of_le (Heap.lt_size e) I.ok.above))).trans e1⟩
    · obtain ⟨o', e1⟩ := I.base.there b o e hx
      exact ⟨o', (hs.2 b (Nat.ne_of_lt (Nat.lt_of_lt_of_le (Heap.lt_size e) I.ok.above))).trans e1⟩
    · by_cases hj : j = i
      · subst hj
        rw [hi] at e1; cases e1
        rw [List.getElem?_set_self hiσ] at e2
        cases e2
        exact ⟨u, r, .inl ⟨hk, by simp⟩⟩
      · rw [List.getElem?_set_ne (Ne.symm hj)] at e2
        obtain ⟨u', r', q⟩ := hl j y v' e1 e2 e3
        refine ⟨u', r', ?_⟩
        rcases q with ⟨k, e⟩ | ⟨k, c, e, z⟩
        · refine .inl ⟨k, ?_⟩
          have : y ≠ x := fun e => hj (nodup_ix hN e1 (e ▸ hi))
          simp [this, e]
        · exact .inr ⟨k, c, e, z.sameBut hs (cne y c e)⟩
    · obtain ⟨w', z⟩ := I.cell y c e
      exact ⟨w', z.sameBut hs (cne y c e)⟩
    · obtain ⟨e, n, ne, nf, d⟩ := I.pin p hp
      exact ⟨(hs.2 p.1 ne).trans e, n, ne, nf, d⟩
  · have hfn : X.fn x = true := by
      rcases hf with z | z
      · exact z
      · rw [z] at hk; cases hk
    obtain ⟨c, hc⟩ := I.ok.has x (.inl hk)
    obtain ⟨w', z⟩ := I.cell x c hc
    refine wpAny_storeName_cell I.ok.kind hk hc z (fun h' hc' hs => ?_)
    obtain ⟨oc, hoc, hocd⟩ := id z
    refine h { s with heap := h' } ⟨I.ok, I.os, I.bare, ⟨fun b o e n hb hx => ?_, fun b o e n hb hx => ?_, I.base.free, fun b o e hx => ?_, I.base.tups, I.base.frzs, I.base.tbls⟩, ⟨m, hn.sameBut hs (Ne.symm (cne x c hc)), fun j y v' e1 e2 e3 => ?_⟩, fun y c' e => ?_, I.free, I.freeC, fun p hp => ?_, tracked ⟨oc, hoc, I.freeC x c hc⟩ hs, by simpa using I.len⟩ ⟨c, hs, .inr hc⟩
    · exact (hs.2 b (Nat.ne_of_lt (Nat.lt_of_lt_of_le (Heap.lt_size e) (I.ok.cab x c hfn hc)))).trans (I.base.keep b o e n hb hx)
    · obtain ⟨sl, e1⟩ := I.base.slot b o e n hb hx
      exact ⟨sl, (hs.2 b (Nat.ne_of_lt (Nat.lt_of_lt_of_le (Heap.lt_size e) (I.ok.cab x c hfn hc)))).trans e1⟩
    · obtain ⟨o', e1⟩ := I.base.there b o e hx
      exact ⟨o', (hs.2 b (Nat.ne_of_lt (Nat.lt_of_lt_of_le (Heap.lt_size e) (I.ok.cab x c hfn hc)))).trans e1⟩
    · by_cases hj : j = i
      · subst hj
        rw [hi] at e1; cases e1
        rw [List.getElem?_set_self hiσ] at e2
        cases e2
        exact ⟨u, r, .inr ⟨.inl hk, c, hc, hc'⟩⟩
      · rw [List.getElem?_set_ne (Ne.symm hj)] at e2
        obtain ⟨u', r', q⟩ := hl j y v' e1 e2 e3
        refine ⟨u', r', ?_⟩
        rcases q with q | ⟨k, c', e, z'⟩
        · exact .inl q
        · refine .inr ⟨k, c', e, z'.sameBut hs ?_⟩
          rintro rfl
          exact hj (nodup_ix hN e1 (I.ok.inj _ _ _ e hc ▸ hi))
    · by_cases hcc : c' = c
      · subst hcc; exact ⟨_, hc'⟩
      · obtain ⟨w2, z2⟩ := I.cell y c' e
        exact ⟨w2, z2.sameBut hs hcc⟩
    · obtain ⟨e, n, ne, nf, d⟩ := I.pin p hp
      refine ⟨(hs.2 p.1 ?_).trans e, n, ne, nf, d⟩
      intro q
      rw [q, hoc] at e
      have q' : oc = p.2 := Option.some.inj e
      exact d w' (by rw [← q']; exact hocd)
theorem store_ok {M : Model} {A : Around} {E : Value → Shared → Prop} {i : Nat} {x : Str} {v : V} {u : Value} {Q : Unit → Shared → Prop} (I : Inv X pins σ H s) (hN : X.N.Nodup) (hi : X.N[i]? = some x) (hx : Loc X.env.scope x) (r : RelV v u)
    (h : ∀ s', Inv X pins (σ.set i (some v)) H s' → Q () s') (hf : X.fn x = true ∨ X.env.scope.names.lookup x = some .local := by first | exact .inl rfl | exact .inr rfl | assumption) : wpAny M A (storeName X.env x u) Q E s :=
  store_ok2 I hN hi hx r (fun s' I' _ => h s' I') hf
/-- behind a call or a block, the state as it is -/
theorem Inv.call' {s' : Shared} {ch : List Addr} (I : Inv X pins σ H s) (ho : s'.os = s.os) (u : Un (frs X.stack) ch H H' s.heap s'.heap) (hok : HOk X.prog X.w H' s'.heap) (hg : AllBare s'.gens)
    (hch : ∀ b ∈ ch, (b ∈ X.ex ∨ X.s₀.heap.objs.size ≤ b) ∧ b ≠ X.env.locals ∧ (∀ x c, X.env.cells.lookup x = some c → c ≠ b) ∧ ∀ p ∈ X.pn ++ pins, p.1 ≠ b) : Inv X pins σ H' s' := by
  obtain ⟨h', g', d', t', o'⟩ := s'
  have e : o' = s.os := ho
  subst e
  exact I.call (g' := g') (t' := t') (d' := d') u hok hg hch
end

/-! ### the judgements -/
/-- an exception: its class, its own dict's address (where it has one), the abstract heap behind it -/
noncomputable abbrev XK := Value → Option Addr → Hp → Prop
noncomputable abbrev St := List (Option V)
noncomputable abbrev VK := V → Hp → Prop
/-- an expression's reading; a test's; an argument list's -/
noncomputable abbrev TE := St → Hp → VK → Prop
noncomputable abbrev TT := St → Hp → (Bool → Hp → Prop) → Prop
noncomputable abbrev TA := St → Hp → (List V → Hp → Prop) → Prop
/-- what is wanted behind a statement -/
structure Ends where
  nx : St → Hp → Prop
  rt : VK
  bk : St → Hp → Prop := fun _ _ => False
  ct : St → Hp → Prop := fun _ _ => False
noncomputable abbrev TS := Ends → St → Hp → Prop

noncomputable def EP (X : Cx) (pins : List (Addr × Obj)) (σ : St) (Q : VK) (u : Value) (s' : Shared) : Prop := ∃ v H', Inv X pins σ H' s' ∧ RelV v u ∧ Q v H'
noncomputable def TP (X : Cx) (pins : List (Addr × Obj)) (σ : St) (Q : Bool → Hp → Prop) (b : Bool) (s' : Shared) : Prop := ∃ H', Inv X pins σ H' s' ∧ Q b H'
noncomputable def AP (X : Cx) (pins : List (Addr × Obj)) (σ : St) (Q : List V → Hp → Prop) (us : List Value) (s' : Shared) : Prop := ∃ vs H', Inv X pins σ H' s' ∧ Vals vs us ∧ Q vs H'
noncomputable def SP (X : Cx) (pins : List (Addr × Obj)) (D : Ends) (f : Flow) (s' : Shared) : Prop :=
  match f with
  | .next => ∃ σ' H', Inv X pins σ' H' s' ∧ D.nx σ' H'
  | .brk => ∃ σ' H', Inv X pins σ' H' s' ∧ D.bk σ' H'
  | .cont => ∃ σ' H', Inv X pins σ' H' s' ∧ D.ct σ' H'
  | .ret u => ∃ v σ' H', Inv X pins σ' H' s' ∧ RelV v u ∧ D.rt v H'

noncomputable def PE (X : Cx) (e : Expr) (t : TE) : Prop :=
  ∀ (pins : List (Addr × Obj)) (s : Shared) (σ : St) (H : Hp) (Q : VK), Inv X pins σ H s → t σ H Q → wpAny (model X.prog X.w) X.A (eval e X.env) (EP X pins σ Q) X.xe s
noncomputable def PT (X : Cx) (e : Expr) (t : TT) : Prop :=
  ∀ (pins : List (Addr × Obj)) (s : Shared) (σ : St) (H : Hp) (Q : Bool → Hp → Prop), Inv X pins σ H s → t σ H Q → wpAny (model X.prog X.w) X.A (isTrue e X.env (eval e X.env)) (TP X pins σ Q) X.xe s
/-- a test whatever its 'whole' is (and, or) -/
noncomputable def PW (X : Cx) (e : Expr) (t : TT) : Prop :=
  ∀ (whole : Sem Value) (pins : List (Addr × Obj)) (s : Shared) (σ : St) (H : Hp) (Q : Bool → Hp → Prop), Inv X pins σ H s → t σ H Q → wpAny (model X.prog X.w) X.A (isTrue e X.env whole) (TP X pins σ Q) X.xe s
theorem PW.pt {X : Cx} {e : Expr} {t : TT} (h : PW X e t) : PT X e t := h _
/-- an argument list (no star), from the left -/
noncomputable def PA (X : Cx) (es : List Expr) (t : TA) : Prop :=
  ∀ (pos : Pos) (pins : List (Addr × Obj)) (s : Shared) (σ : St) (H : Hp) (Q : List V → Hp → Prop), Inv X pins σ H s → t σ H Q → wpAny (model X.prog X.w) X.A (spliced (backTo pos (starEach es X.env))) (AP X pins σ Q) X.xe s
noncomputable def PS (X : Cx) (st : Stmt) (t : TS) : Prop :=
  ∀ (pins : List (Addr × Obj)) (s : Shared) (σ : St) (H : Hp) (D : Ends), Inv X pins σ H s → t D σ H → wpAny (model X.prog X.w) X.A (exec st X.env) (SP X pins D) X.xe s
noncomputable def PSs (X : Cx) (st : List Stmt) (t : TS) : Prop :=
  ∀ (pins : List (Addr × Obj)) (s : Shared) (σ : St) (H : Hp) (D : Ends), Inv X pins σ H s → t D σ H → wpAny (model X.prog X.w) X.A (execs st X.env) (SP X pins D) X.xe s
/-- weaken the end -/
theorem thn {α : Type} {t : Sem α} {Q Q' : α → Shared → Prop} {M : Model} {A : Around} {E : Value → Shared → Prop} {s : Shared} (h : wpAny M A t Q E s) (hQ : ∀ a s, Q a s → Q' a s) : wpAny M A t Q' E s := wpAny_mono h hQ fun _ _ x => x
end L2

namespace L2
open PySem PySem.Spec PyProof.Rows
section
variable {X : Cx}

/-! ### names and constants -/
noncomputable def tVar (i : Nat) : TE := fun σ H Q => ∃ v, σ[i]? = some (some v) ∧ Q v H
noncomputable def tC (v : V) : TE := fun _ H Q => Q v H
theorem pe_var {i : Nat} {x : Str} {pos : Pos} (hN : X.N[i]? = some x) (hv : Vis X.env.scope x) (hd : (x == ("__debug__" : Str)) = false := by decide) (hcd : (x == ("__classdict__" : Str)) = false := by decide) : PE X (.Name x pos) (tVar i) := by
  intro pins s σ H Q I h
  obtain ⟨v, e, h⟩ := h
  obtain ⟨m, hn, hl⟩ := I.loc
  obtain ⟨u, r, l⟩ := hl i x v hN e hv
  have fin : EP X pins σ Q u s := ⟨v, H, I, r, h⟩
  rcases l with ⟨hk, hm⟩ | ⟨hk, c, hc, hcell⟩
  · exact wpAny_Name (wpAny_loadName_local I.ok.kind hk hn hm fin) hd
  · rcases hk with hk | hk
    · exact wpAny_Name (wpAny_loadName_cell I.ok.kind hk hc hcell fin) hd
    · exact wpAny_Name (wpAny_loadName_free I.ok.kind hk hc hcell fin hcd) hd
theorem pe_int {i j pos} : PE X (.Constant (.int i) j pos) (tC (.int i)) := fun _ _ _ H _ I h => wpAny_Constant_int ⟨.int i, H, I.tok _, ⟨_, rfl⟩, h⟩
theorem pe_bl {b j pos} : PE X (.Constant (.bool b) j pos) (tC (.bl b)) := fun _ _ _ H _ I h => Constant_bool ⟨.bl b, H, I, rfl, h⟩
theorem pe_non {j pos} : PE X (.Constant .none j pos) (tC .non) := fun _ _ _ H _ I h => Constant_none ⟨.non, H, I, rfl, h⟩
/-- a global name of the def -/
noncomputable def Gl (X : Cx) (x : Str) : Prop := X.env.kindOf x = some .globalImplicit
theorem ld_glob {E : Value → Shared → Prop} {pins : List (Addr × Obj)} {s : Shared} {σ : St} {H : Hp} {x : Str} {u : Value} {pos : Pos} {Q : Value → Shared → Prop} (I : Inv X pins σ H s) (hg : Gl X x) (hm : X.mg x = some u) (h : Q u s)
    (hd : (x == ("__debug__" : Str)) = false := by decide) : wpAny (model X.prog X.w) X.A (eval (.Name x pos) X.env) Q E s :=
  Calls.Name_function_global I.ok.kind hg (Calls.loadGlobal_global (by rw [I.ok.glob]; exact I.mod.glob.keeps I.bk) hm h) hd
theorem ld_blt {E : Value → Shared → Prop} {pins : List (Addr × Obj)} {s : Shared} {σ : St} {H : Hp} {x : Str} {u : Value} {pos : Pos} {Q : Value → Shared → Prop} (I : Inv X pins σ H s) (hg : Gl X x) (hm : X.mg x = none) (hv : bootBuiltins x = some u) (h : Q u s)
    (hn : x ≠ "__name__" := by decide) (hd : (x == ("__debug__" : Str)) = false := by decide) : wpAny (model X.prog X.w) X.A (eval (.Name x pos) X.env) Q E s := by
  obtain ⟨mb, h1, h2⟩ := I.mod.blt
  exact Calls.Name_function_global I.ok.kind hg (Calls.loadGlobal_builtin (by rw [I.ok.glob]; exact I.mod.glob.keeps I.bk) hm (by rw [I.ok.blt]; exact h1.keeps I.bk) ((h2 x hn).trans hv) h) hd
/-- a module's constant, a class, a function, as a value -/
theorem pe_glob {x : Str} {v : V} {u : Value} {pos : Pos} (hg : Gl X x) (hm : X.mg x = some u) (r : RelV v u) (hd : (x == ("__debug__" : Str)) = false := by decide) : PE X (.Name x pos) (tC v) :=
  fun _ _ _ H _ I h => ld_glob I hg hm ⟨v, H, I, r, h⟩ hd
variable {a b : Expr} {ta tb : TE} {pos : Pos}
/-- a comparison as a value, as a test -/
noncomputable def tB (t : TE) : TT := fun σ H Q => t σ H fun x H1 => ∃ c, x = .bl c ∧ Q c H1
/-- an expression whose value is a bool, as a test -/
theorem pt_val {e : Expr} {t : TE} (h : PE X e t) (he : ∀ whole, isTrue e X.env whole = (do let v ← whole; standAt e.pos; holding [v] (truthy v)) := by intro _; rfl) : PT X e (tB t) := by
  intro pins s σ H Q I hw
  refine isTrue_plain (thn (h pins s σ H _ I hw) fun v s1 ⟨x, H1, I1, r1, q1⟩ => ?_) (he _)
  obtain ⟨d, rfl, q⟩ := q1
  cases r1
  exact wpAny_truthy_bool ⟨H1, I1, q⟩

/-! ### and, or, not -/
variable {tA tB' : TT} {rest : List Expr}
noncomputable def tOr (t u : TT) : TT := fun σ H Q => t σ H fun c H1 => if c = true then Q true H1 else u σ H1 Q
theorem pw_or1 (ha : PT X a tA) : PW X (.BoolOp .Or [a] pos) tA := by
  intro wh pins s σ H Q I h
  refine isTrue_or (thn (ha pins s σ H Q I h) fun c s1 e => ?_)
  cases c with
  | false => exact isTrue_or_nil e
  | true => exact e
theorem pw_or (ha : PT X a tA) (hb : PW X (.BoolOp .Or (b :: rest) pos) tB') : PW X (.BoolOp .Or (a :: b :: rest) pos) (tOr tA tB') := by
  intro wh pins s σ H Q I h
  refine isTrue_or (thn (ha pins s σ H _ I h) fun c s1 ⟨H1, I1, q1⟩ => ?_)
  cases c with
  | true => exact ⟨H1, I1, q1⟩
  | false => exact hb wh pins s1 σ H1 Q I1 q1
end
end L2

namespace L2
open PySem PySem.Spec PyProof.Rows

/-! ### a list, a tuple that is read: tracked, frozen, or an object of the module -/
noncomputable def SqL (K : PySem.W.Frag) (H : Hp) (a : Addr) (xs : List V) : Prop :=
  Rd H a (.lst xs) ∨
    ∃ (o : Obj) (its : Array Value) (n : Nat), K.lookup a = some o ∧ o.cls = .type "list" ∧ o.dict = none ∧ o.data = .seq its n ∧ its.size ≤ sizeLine ∧ Vals xs its.toList
noncomputable def SqT (K : PySem.W.Frag) (H : Hp) (a : Addr) (xs : List V) : Prop :=
  Rd H a (.tup xs) ∨
    ∃ (o : Obj) (its : Array Value) (n : Nat), K.lookup a = some o ∧ o.cls = .type "tuple" ∧ o.data = .seq its n ∧ its.size ≤ sizeLine ∧ Vals xs its.toList
noncomputable def absV : Value → Option V
  | .none => some .non
  | .bool b => some (.bl b)
  | .int i _ => some (.int i)
  | .str x _ => some (.str x)
  | .bytes b _ => some (.byt b)
  | .float b _ => some (.flt b)
  | .ref a => some (.ref a)
  | .type n => some (.ty n)
  | _ => none
theorem RelV.abs {x : V} {u : Value} (r : RelV x u) : absV u = some x := by
  cases x with
  | non => cases r; rfl
  | bl _ => cases r; rfl
  | int _ => obtain ⟨t, rfl⟩ := r; rfl
  | str _ => obtain ⟨t, rfl⟩ := r; rfl
  | byt _ => obtain ⟨t, rfl⟩ := r; rfl
  | flt _ => obtain ⟨t, rfl⟩ := r; rfl
  | ref _ => cases r; rfl
  | ty _ => cases r; rfl
theorem RelV.inj {x y : V} {u : Value} (r : RelV x u) (q : RelV y u) : x = y := Option.some.inj (r.abs.symm.trans q.abs)
theorem Vals.inj : ∀ {xs ys : List V} {us : List Value}, Vals xs us → Vals ys us → xs = ys
  | _, _, _, .nil, .nil => rfl
  | _, _, _, .cons r t, .cons r' t' => by rw [r.inj r', Vals.inj t t']
section
variable {X : Cx} {pins : List (Addr × Obj)} {σ : St} {H : Hp} {s : Shared} {a : Addr} {xs ys : List V}
theorem SqL.of {K : PySem.W.Frag} (h : H a = some (.lst xs)) : SqL K H a xs := .inl (.inl h)
theorem SqT.of {K : PySem.W.Frag} (h : H a = some (.tup xs)) : SqT K H a xs := .inl (.inl h)
theorem Inv.list (I : Inv X pins σ H s) (h : SqL X.K H a xs) : ∃ its : List Value, Vals xs its ∧ PlainL s.heap a its.toArray ∧ xs.length ≤ sizeLine := by
  rcases h with h | ⟨o, its, n, hk, hc, hd, hs, hz, r⟩
  · obtain ⟨z, its, n, r, e⟩ := h.ok I.hok
    exact ⟨its, r, ⟨_, n, e, rfl, rfl, rfl⟩, z⟩
  · refine ⟨its.toList, r, ⟨o, n, I.kIn a o hk, hc, hd, by simpa using hs⟩, ?_⟩
    have e := r.length
    simp only [Array.length_toList] at e
    omega
theorem Inv.tuple (I : Inv X pins σ H s) (h : SqT X.K H a xs) : ∃ its : List Value, Vals xs its ∧ IsTup s.heap a its.toArray ∧ xs.length ≤ sizeLine := by
  rcases h with h | ⟨o, its, n, hk, hc, hs, hz, r⟩
  · obtain ⟨z, its, r, p⟩ := h.ok I.hok
    exact ⟨its, r, p, z⟩
  · refine ⟨its.toList, r, ⟨o, I.kIn a o hk, hc, n, by simpa using hs⟩, ?_⟩
    have e := r.length
    simp only [Array.length_toList] at e
    omega
theorem Inv.list_inj (I : Inv X pins σ H s) (h : SqL X.K H a xs) (h' : SqL X.K H a ys) : xs = ys := by
  obtain ⟨its, r, ⟨o, n, e, _, _, d⟩, _⟩ := I.list h
  obtain ⟨its', r', ⟨o', n', e', _, _, d'⟩, _⟩ := I.list h'
  rw [e] at e'; cases e'
  rw [d] at d'
  injection d' with d1 _
  have : its = its' := by simpa using congrArg Array.toList d1
  subst this
  exact r.inj r'
theorem Inv.tuple_inj (I : Inv X pins σ H s) (h : SqT X.K H a xs) (h' : SqT X.K H a ys) : xs = ys := by
  obtain ⟨its, r, ⟨o, e, _, n, d⟩, _⟩ := I.tuple h
  obtain ⟨its', r', ⟨o', e', _, n', d'⟩, _⟩ := I.tuple h'
  rw [e] at e'; cases e'
  rw [d] at d'
  injection d' with d1 _
  have : its = its' := by simpa using congrArg Array.toList d1
  subst this
  exact r.inj r'
end

/-! ### another wish about exceptions -/
noncomputable abbrev Cx.wish (X : Cx) (E : Value → Shared → Prop) : Cx := { X with xe := E }
/-- no exception leaves -/
noncomputable abbrev Cx.nox (X : Cx) : Cx := X.wish fun _ _ => False
theorem Cx.Ok.wish {X : Cx} (ok : X.Ok) (E : Value → Shared → Prop) : (X.wish E).Ok :=
  ⟨ok.mod, ok.kind, ok.glob, ok.blt, ok.above, ok.inj, ok.has, ok.cab, ok.hd, ok.frames, ok.stk, ok.exf, ok.bs, ok.bsz, ok.noex, ok.exfs, ok.funs, ok.frf⟩
theorem Cx.Ok.unwish {X : Cx} {E : Value → Shared → Prop} (ok : (X.wish E).Ok) : X.Ok :=
  ⟨ok.mod, ok.kind, ok.glob, ok.blt, ok.above, ok.inj, ok.has, ok.cab, ok.hd, ok.frames, ok.stk, ok.exf, ok.bs, ok.bsz, ok.noex, ok.exfs, ok.funs, ok.frf⟩
section
variable {X : Cx} {pins : List (Addr × Obj)} {σ : St} {H : Hp} {s : Shared} {E : Value → Shared → Prop}
theorem Inv.wish (I : Inv X pins σ H s) (E : Value → Shared → Prop) : Inv (X.wish E) pins σ H s := ⟨I.ok.wish E, I.os, I.bare, I.base, I.loc, I.cell, I.free, I.freeC, I.pin, I.hok, I.len⟩
theorem Inv.unwish (I : Inv (X.wish E) pins σ H s) : Inv X pins σ H s := ⟨I.ok.unwish, I.os, I.bare, I.base, I.loc, I.cell, I.free, I.freeC, I.pin, I.hok, I.len⟩
theorem SP.unwish {D : Ends} {f : Flow} {s' : Shared} (h : SP (X.wish E) pins D f s') : SP X pins D f s' := by
  cases f with
  | next => obtain ⟨σ', H', I, q⟩ := h; exact ⟨σ', H', I.unwish, q⟩
  | brk => obtain ⟨σ', H', I, q⟩ := h; exact ⟨σ', H', I.unwish, q⟩
  | cont => obtain ⟨σ', H', I, q⟩ := h; exact ⟨σ', H', I.unwish, q⟩
  | ret u => obtain ⟨v, σ', H', I, r, q⟩ := h; exact ⟨v, σ', H', I.unwish, r, q⟩
theorem PE.nox {e : Expr} {t : TE} (h : PE X.nox e t) : PE X e t := fun pins s σ H Q I hw =>
  wpAny_mono (h pins s σ H Q (I.wish _) hw) (fun _ _ ⟨v, H', I', r, q⟩ => ⟨v, H', I'.unwish, r, q⟩) fun _ _ z => False.elim z
theorem PT.nox {e : Expr} {t : TT} (h : PT X.nox e t) : PT X e t := fun pins s σ H Q I hw =>
  wpAny_mono (h pins s σ H Q (I.wish _) hw) (fun _ _ ⟨H', I', q⟩ => ⟨H', I'.unwish, q⟩) fun _ _ z => False.elim z
theorem PSs.nox {st : List Stmt} {t : TS} (h : PSs X.nox st t) : PSs X st t := fun pins s σ H D I hw =>
  wpAny_mono (h pins s σ H D (I.wish _) hw) (fun _ _ q => q.unwish) fun _ _ z => False.elim z
end

/-! ### blocks and small statements -/
section
variable {X : Cx} {st : Stmt} {rest : List Stmt} {t u : TS} {e : Expr} {te : TE} {pos : Pos}
noncomputable def tNext : TS := fun D σ H => D.nx σ H
noncomputable def tSeq (t u : TS) : TS := fun D σ H => t { D with nx := u D } σ H
theorem pss_nil : PSs X [] tNext := fun _ _ σ H _ I h => wpAny_execs_nil ⟨σ, H, I, h⟩
theorem pss_cons (h1 : PS X st t) (h2 : PSs X rest u) : PSs X (st :: rest) (tSeq t u) := by
  intro pins s σ H D I h
  refine wpAny_execs_cons (thn (h1 pins s σ H { D with nx := u D } I h) fun f s1 q => ?_)
  cases f with
  | next =>
    obtain ⟨σ', H', I', q⟩ := q
    exact h2 pins s1 σ' H' D I' q
  | ret v => exact q
  | brk => exact q
  | cont => exact q
theorem pss_one (h1 : PS X st t) : PSs X [st] t := by
  intro pins s σ H D I h
  refine wpAny_execs_cons (thn (h1 pins s σ H D I h) fun f s1 q => ?_)
  cases f with
  | next => exact wpAny_execs_nil q
  | ret v => exact q
  | brk => exact q
  | cont => exact q
/-- in a def's body nothing is shown -/
theorem Inv.quiet {pins : List (Addr × Obj)} {σ : St} {H : Hp} {s : Shared} (I : Inv X pins σ H s) : interactive X.env = false := by simp [interactive, I.ok.kind]
/-- an expression whose value is dropped -/
noncomputable def tDrop (te : TE) : TS := fun D σ H => te σ H fun _ H1 => D.nx σ H1
theorem ps_expr (he : PE X e te) (hs : swapsWith e none pos.line X.env = pure false := by rfl) : PS X (.Expr e pos) (tDrop te) := by
  intro pins s σ H D I h
  exact wpAny_Expr_any (thn (he pins s σ H _ I h) fun v s1 ⟨x, H1, I1, r1, q1⟩ => ⟨σ, H1, I1, q1⟩) I.quiet hs
noncomputable def tRet (te : TE) : TS := fun D σ H => te σ H D.rt
theorem ps_ret (he : PE X e te) : PS X (.Return (some e) pos) (tRet te) := by
  intro pins s σ H D I h
  exact wpAny_Return_some (thn (he pins s σ H _ I h) fun v s1 ⟨x, H1, I1, r1, q1⟩ => ⟨x, σ, H1, I1, r1, q1⟩)
noncomputable def tIfS (c : TT) (t u : TS) : TS := fun D σ H => c σ H fun b H1 => if b = true then t D σ H1 else u D σ H1
theorem ps_if {c : Expr} {a b : List Stmt} {tc : TT} (hc : PT X c tc) (ha : PSs X a t) (hb : PSs X b u) : PS X (.If c a b pos) (tIfS tc t u) := by
  intro pins s σ H D I h
  refine wpAny_If (thn (hc pins s σ H _ I h) fun d s1 ⟨H1, I1, q1⟩ => ?_)
  cases d with
  | true => exact ha pins s1 σ H1 D I1 q1
  | false => exact hb pins s1 σ H1 D I1 q1
/-- code that the proof never comes to -/
noncomputable def tNever : TS := fun _ _ _ => False
theorem ps_never : PS X st tNever := fun _ _ _ _ _ _ h => h.elim
end

/-! ### targets -/
noncomputable abbrev TG := V → St → Hp → (St → Hp → Prop) → Prop
noncomputable abbrev TGs := List V → St → Hp → (St → Hp → Prop) → Prop
noncomputable def PG (X : Cx) (target : Expr) (t : TG) : Prop :=
  ∀ (pins : List (Addr × Obj)) (s : Shared) (σ : St) (H : Hp) (v : V) (u : Value) (Q : St → Hp → Prop), Inv X pins σ H s → RelV v u → t v σ H Q →
    wpAny (model X.prog X.w) X.A (assign target X.env u) (fun _ s' => ∃ σ' H', Inv X pins σ' H' s' ∧ Q σ' H') X.xe s
/-- several targets, one after another -/
noncomputable def PGs (X : Cx) (ts : List Expr) (t : TGs) : Prop :=
  ∀ (pins : List (Addr × Obj)) (s : Shared) (σ : St) (H : Hp) (vs : List V) (us : List Value) (Q : St → Hp → Prop), Inv X pins σ H s → Vals vs us → t vs σ H Q →
    wpAny (model X.prog X.w) X.A (assignInOrder ((assignEach ts X.env).map (·.2)) us) (fun _ s' => ∃ σ' H', Inv X pins σ' H' s' ∧ Q σ' H') X.xe s
/-- o[i] = v, by values -/
noncomputable abbrev TSet := V → V → V → Hp → (Hp → Prop) → Prop
noncomputable def PSet (X : Cx) (t : TSet) : Prop :=
  ∀ (pins : List (Addr × Obj)) (s : Shared) (σ : St) (H : Hp) (o i v : V) (ov iv u : Value) (Q : Hp → Prop), Inv X pins σ H s → RelV o ov → RelV i iv → RelV v u → t o i v H Q →
    wpAny (model X.prog X.w) X.A (setItem ov iv u) (fun _ s' => ∃ H', Inv X pins σ H' s' ∧ Q H') X.xe s
section
variable {X : Cx} {pos : Pos}
noncomputable def gName (i : Nat) : TG := fun v σ H Q => Q (σ.set i (some v)) H
theorem pg_name {i : Nat} {x : Str} (hN : X.N.Nodup) (hi : X.N[i]? = some x) (hx : Loc X.env.scope x) (hf : X.fn x = true ∨ X.env.scope.names.lookup x = some .local := by first | exact .inl rfl | exact .inr rfl | assumption) : PG X (.Name x pos) (gName i) := by
  intro pins s σ H v u Q I r h
  exact wpAny_assign_Name (store_ok I hN hi hx r (fun s' I' => ⟨_, H, I', h⟩) hf)
noncomputable def gNil : TGs := fun vs σ H Q => vs = [] ∧ Q σ H
noncomputable def gCons (t : TG) (u : TGs) : TGs := fun vs σ H Q => ∃ v r, vs = v :: r ∧ t v σ H fun σ' H' => u r σ' H' Q
theorem pgs_nil : PGs X [] gNil := by
  intro pins s σ H vs us Q I r h
  obtain ⟨e, h⟩ := h
  subst e
  cases r
  exact assignInOrder_nil ⟨σ, H, I, h⟩
theorem pgs_cons {e : Expr} {es : List Expr} {t : TG} {u : TGs} (h1 : PG X e t) (h2 : PGs X es u)
    (hs : (assignEach (e :: es) X.env).map (·.2) = assign e X.env :: (assignEach es X.env).map (·.2) := by rfl) : PGs X (e :: es) (gCons t u) := by
  intro pins s σ H vs us Q I r h
  obtain ⟨v, vr, e1, h⟩ := h
  subst e1
  cases r with
  | cons r rr =>
    rw [hs]
    refine assignInOrder_cons (thn (h1 pins s σ H _ _ _ I r h) fun _ s1 ⟨σ1, H1, I1, q1⟩ => ?_)
    exact h2 pins s1 σ1 H1 _ _ Q I1 rr q1
/-- (a, b, ..) = a tuple of that length -/
noncomputable def gTup (K : PySem.W.Frag) (n : Nat) (t : TGs) : TG := fun v σ H Q => ∃ a xs, v = .ref a ∧ SqT K H a xs ∧ xs.length = n ∧ t xs σ H Q
theorem pg_tup {es : List Expr} {k : Nat} {t : TGs} {n : Nat} (hc : X.calm = true) (h : PGs X es t)
    (hn : (assignEach es X.env).length = n := by rfl) (hst : (assignEach es X.env).findIdx? (·.1) = none := by rfl) : PG X (.Tuple es k pos) (gTup X.K n t) := by
  intro pins s σ H v u Q I r hw
  obtain ⟨a, xs, e1, hq, hl, hw⟩ := hw
  subst e1
  cases r
  obtain ⟨its, rv, ht, hz⟩ := I.tuple hq
  refine assign_Tuple_tuple (I.ok.hd hc) ht (by simp [hn, ← hl, rv.length]) hst fun h' hx => ?_
  have I1 : Inv X pins σ H { s with heap := h' } := I.kept (t' := s.toks) fun b o e => hx b o (Nat.ne_of_lt (Heap.lt_size e)) e
  exact h pins _ σ H xs _ Q I1 (by simpa using rv) hw
/-- o[i] = .. -/
noncomputable def gSub (to ti : TE) (t : TSet) : TG := fun v σ H Q => to σ H fun o H1 => ti σ H1 fun i H2 => t o i v H2 fun H3 => Q σ H3
theorem pg_sub {o i : Expr} {to ti : TE} {t : TSet} (ho : PE X o to) (hi : PE X i ti) (hs : PSet X t)
    (ha : ∀ v, assign (.Subscript o i pos) X.env v = (do
      let ov ← holding [v] (eval o X.env)
      let iv ← holding [v, ov] (eval i X.env)
      standAt pos
      holding [v, ov, iv] (setItem ov iv v)
      release [v, ov, iv] []) := by intro _; rfl) : PG X (.Subscript o i pos) (gSub to ti t) := by
  intro pins s σ H v u Q I r h
  rw [ha]
  refine wpAny_bind (wpAny_holding (thn (ho pins s σ H _ I h) fun ov s1 ⟨x, H1, I1, r1, q1⟩ => ?_))
  refine wpAny_bind (wpAny_holding (thn (hi pins s1 σ H1 _ I1 q1) fun iv s2 ⟨y, H2, I2, r2, q2⟩ => ?_))
  refine wpAny_bind (wpAny_standAt (wpAny_bind (wpAny_holding (thn (hs pins s2 σ H2 x y v ov iv u _ I2 r1 r2 r q2) fun _ s3 ⟨H3, I3, q3⟩ => ?_))))
  exact wpAny_release ⟨σ, H3, I3, q3⟩
/-- target = value -/
noncomputable def tAsg (te : TE) (g : TG) : TS := fun D σ H => te σ H fun x H1 => g x σ H1 D.nx
theorem ps_asg {tg e : Expr} {te : TE} {g : TG} (he : PE X e te) (hg : PG X tg g) (hs : swapsWithSole [tg] e pos.line X.env = pure false := by rfl) (hw : swappedStores [tg] e X.env = pure none := by rfl)
    (h1 : (assignEach [tg] X.env).map (·.2) = [assign tg X.env] := by rfl) : PS X (.Assign [tg] e pos) (tAsg te g) := by
  intro pins s σ H D I h
  refine wpAny_Assign_stores (thn (he pins s σ H _ I h) fun v s1 ⟨x, H1, I1, r1, q1⟩ => ?_) hs hw
  rw [h1]
  exact thn (hg pins s1 σ H1 x v _ I1 r1 q1) fun _ s2 q => q
/-- name = value -/
theorem ps_set {i : Nat} {x : Str} {e : Expr} {te : TE} {pos' : Pos} (hN : X.N.Nodup) (hi : X.N[i]? = some x) (hx : Loc X.env.scope x) (he : PE X e te) (hs : swapsWith e (some (.Name x pos')) pos.line X.env = pure false := by rfl) (hf : X.fn x = true ∨ X.env.scope.names.lookup x = some .local := by first | exact .inl rfl | exact .inr rfl | assumption) :
    PS X (.Assign [.Name x pos'] e pos) (tAsg te (gName i)) := by
  intro pins s σ H D I h
  refine wpAny_Assign_Name (thn (he pins s σ H _ I h) fun v s1 ⟨y, H1, I1, r1, q1⟩ => ?_) hs
  exact store_ok I1 hN hi hx r1 (fun s2 I2 => ⟨_, H1, I2, q1⟩) hf
end

/-! ### while -/
section
variable {X : Cx} {pos : Pos}
/-- the invariant W with its measure -/
noncomputable def tWhile (c : TT) (tb : TS) : TS := fun D σ H => ∃ W : Nat → St → Hp → Prop, (∃ m, W m σ H) ∧ ∀ m σ H, W m σ H →
  c σ H fun b H1 => if b = true then ∃ N : St → Hp → Prop, (∀ σ' H', N σ' H' → ∃ m', m' < m ∧ W m' σ' H') ∧ tb { D with nx := N, ct := N, bk := D.nx } σ H1 else D.nx σ H1
theorem ps_while {c : Expr} {body : List Stmt} {tc : TT} {tb : TS} (hp : PassesOwn (model X.prog X.w) X.A X.env X.xe) (hc : PT X c tc) (hb : PSs X body tb) : PS X (.While c body [] pos) (tWhile tc tb) := by
  intro pins s σ H D I h
  obtain ⟨W, ⟨m0, w0⟩, turn⟩ := h
  refine wpAny_While (codeAny_whileLoop (fun n s' => ∃ σ' H', Inv X pins σ' H' s' ∧ W n σ' H') ?_ m0 ⟨σ, H, I, w0⟩)
  rintro n s1 ⟨σ1, H1, I1, w1⟩
  refine wpAny_passesOwn hp (thn (hc pins s1 σ1 H1 _ I1 (turn n σ1 H1 w1)) fun b s2 ⟨H2, I2, q2⟩ => ?_)
  cases b with
  | true =>
    obtain ⟨N, hN, q2⟩ := q2
    rw [if_pos rfl]
    refine wpAny_passesOwn hp (thn (hb pins s2 σ1 H2 _ I2 q2) fun f s3 q3 => ?_)
    cases f with
    | next =>
      obtain ⟨σ3, H3, I3, n3⟩ := q3
      obtain ⟨m', hm, w3⟩ := hN σ3 H3 n3
      exact ⟨m', hm, σ3, H3, I3, w3⟩
    | cont =>
      obtain ⟨σ3, H3, I3, n3⟩ := q3
      obtain ⟨m', hm, w3⟩ := hN σ3 H3 n3
      exact ⟨m', hm, σ3, H3, I3, w3⟩
    | brk => exact q3
    | ret v => exact q3
  | false =>
    rw [if_neg Bool.false_ne_true]
    exact wpAny_execs_nil ⟨σ1, H2, I2, q2⟩
end

/-! ### what a loop or a comprehension walks -/
/-- at turn i: it yields x (the heap may grow), or it stops -/
structure It where
  go : Nat → Hp → Prop
  yld : Nat → Hp → V → Hp → Prop
  stop : Nat → Hp → Prop
/-- the iterator's own objects may turn: they are not the frame's, not pinned, younger than the entry (or a comprehension's own) -/
noncomputable def FpOk (X : Cx) (pins : List (Addr × Obj)) (H : Hp) (b : Addr) : Prop :=
  H b = none ∧ b ≠ X.env.locals ∧ b ∉ X.fs ∧ (b ∈ X.ex ∨ X.s₀.heap.objs.size ≤ b) ∧ (∀ x c, X.env.cells.lookup x = some c → c ≠ b) ∧ ∀ p ∈ X.pn ++ pins, p.1 ≠ b
theorem Inv.fpOk {X : Cx} {pins : List (Addr × Obj)} {σ : St} {H H' : Hp} {s : Shared} {b : Addr} (I : Inv X pins σ H s) (hb : s.heap.objs.size ≤ b) (hn : H' b = none) : FpOk X pins H' b := by
  refine ⟨hn, Nat.ne_of_gt (Nat.lt_of_lt_of_le I.lt hb), I.nofs hb, .inr (Nat.le_trans I.sz hb), fun x c e z => ?_, fun p hp z => ?_⟩
  · obtain ⟨v, q⟩ := I.cell x c e
    exact absurd (Nat.lt_of_lt_of_le q.lt (by rw [z]; exact hb)) (Nat.lt_irrefl _)
  · exact absurd (Nat.lt_of_lt_of_le (Heap.lt_size (I.pin p hp).1) (by rw [z]; exact hb)) (Nat.lt_irrefl _)
structure Turn (P : Program) (w : World) (K : PySem.W.Frag) (tg : Expr) (J : It) (fp : List Addr) (it : Addr) (tn : Nat → Heap → Prop) : Prop where
  mem : it ∈ fp
  obj : ∀ i h, tn i h → ∀ b ∈ fp, ∃ o, h.get? b = some o ∧ ∀ v, o.data ≠ .cell v
  keep : ∀ i h h', tn i h → (∀ b ∈ fp, ∀ o, h.get? b = some o → h'.get? b = some o) → tn i h'
  item : ∀ (X : Cx), X.prog = P → X.w = w → X.K = K → X.calm = true → ∀ (i : Nat) (pins : List (Addr × Obj)) (s : Shared) (σ : St) (H : Hp) (E : Value → Shared → Prop), Inv X pins σ H s → (∀ b ∈ fp, FpOk X pins H b) → tn i s.heap → J.go i H →
    wpAny (model P w) X.A (pyNext (.ref it)) (fun r s1 => ∃ u, r = some u ∧
      wpAny (model P w) X.A (letOwnedTupleGo tg (.ref it) u) (fun _ s2 => ∃ x H', Inv X pins σ H' s2 ∧ RelV x u ∧ J.yld i H x H' ∧ tn (i + 1) s2.heap ∧ ∀ b ∈ fp, H' b = none) E s1) E s
  done : ∀ (X : Cx), X.prog = P → X.w = w → X.K = K → X.calm = true → ∀ (i : Nat) (pins : List (Addr × Obj)) (s : Shared) (σ : St) (H : Hp) (E : Value → Shared → Prop), Inv X pins σ H s → (∀ b ∈ fp, FpOk X pins H b) → tn i s.heap → J.stop i H →
    wpAny (model P w) X.A (pyNext (.ref it)) (fun r s1 => r = none ∧ Inv X pins σ H s1) E s
  self : ∀ (A : Around) (i : Nat) (s : Shared) (Q : Value → Shared → Prop) (E : Value → Shared → Prop), tn i s.heap → Q (.ref it) s → wpAny (model P w) A (pyIter (.ref it)) Q E s
noncomputable abbrev TI := St → Hp → (It → Hp → Prop) → Prop
/-- an iterator has come -/
noncomputable def PIE (X : Cx) (pins : List (Addr × Obj)) (σ : St) (tg : Expr) (R : It → Hp → Prop) (itv : Value) (s2 : Shared) : Prop :=
  ∃ (it : Addr) (fp : List Addr) (tn : Nat → Heap → Prop) (J : It) (H' : Hp), itv = .ref it ∧ Inv X pins σ H' s2 ∧ Turn X.prog X.w X.K tg J fp it tn ∧ tn 0 s2.heap ∧ (∀ b ∈ fp, FpOk X pins H' b) ∧ R J H'
noncomputable def PI (X : Cx) (tg iter : Expr) (wi : TI) : Prop :=
  ∀ (pins : List (Addr × Obj)) (s : Shared) (σ : St) (H : Hp) (R : It → Hp → Prop), Inv X pins σ H s → wi σ H R →
    wpAny (model X.prog X.w) X.A (eval iter X.env) (fun v s1 => wpAny (model X.prog X.w) X.A (pyIter v) (PIE X pins σ tg R) X.xe s1) X.xe s

/-- the step ahead of the store is nothing for an iterator that keeps no tuple -/
theorem go_of {M : Model} {A : Around} {E : Value → Shared → Prop} {s : Shared} {tg : Expr} {it : Addr} {u : Value} {o : Obj} {n : String} {vs : Array Value} {Q : Unit → Shared → Prop} (ho : s.heap.get? it = some o) (hc : o.cls = .type n) (hd : o.data = .fields vs)
    (hn : ["enumerate", "zip", "dict_itemiterator", "dict_reverseitemiterator", "odict_iterator", "itertools.zip_longest", "itertools.pairwise"].contains n = false) (hQ : Q () s) : wpAny M A (letOwnedTupleGo tg (.ref it) u) Q E s := by
  unfold letOwnedTupleGo
  cases tg <;> first
    | exact wpAny_pure hQ
    | (cases u <;> first
        | exact wpAny_pure hQ
        | (refine wpAny_bind (wpAny_load ho ?_)
           rw [hc, hd]
           show wpAny M A (if (["enumerate", "zip", "dict_itemiterator", "dict_reverseitemiterator", "odict_iterator", "itertools.zip_longest", "itertools.pairwise"].contains n && vs[0]? == some (rawInt _)) = true then _ else _) Q E s
           rw [if_neg (by intro h; rw [hn, Bool.false_and] at h; cases h)]
           exact wpAny_pure hQ))

/-- the list at a, as it stands at each turn (a loop may append to it) -/
noncomputable def Itl (K : PySem.W.Frag) (a : Addr) : It :=
  ⟨fun i H => ∃ xs x, SqL K H a xs ∧ xs[i]? = some x, fun i H x H' => H' = H ∧ ∀ xs, SqL K H a xs → xs[i]? = some x, fun i H => ∃ xs, SqL K H a xs ∧ xs.length ≤ i⟩
noncomputable def Itt (K : PySem.W.Frag) (a : Addr) : It :=
  ⟨fun i H => ∃ xs x, SqT K H a xs ∧ xs[i]? = some x, fun i H x H' => H' = H ∧ ∀ xs, SqT K H a xs → xs[i]? = some x, fun i H => ∃ xs, SqT K H a xs ∧ xs.length ≤ i⟩
/-- lo, lo + 1, .. (n of them) -/
noncomputable def Itr (lo : Int) (n : Nat) : It := ⟨fun i _ => i < n, fun i H x H' => H' = H ∧ x = .int (lo + i), fun i _ => n ≤ i⟩
theorem turn_list {P : Program} {w : World} {K : PySem.W.Frag} {tg : Expr} (a it : Addr) : Turn P w K tg (Itl K a) [it] it (fun i h => h.IsListIter it a i) where
  mem := by simp
  obj := fun i h st b hb => by
    have e : b = it := by simpa using hb
    subst e
    obtain ⟨o, e, c, d⟩ := st
    exact ⟨o, e, fun v z => by rw [d] at z; cases z⟩
  keep := fun i h h' st k => st.at fun o e => k it (by simp) o e
  item := by
    intro X hP hw hK hc i pins s σ H E I hf st hg
    subst hP hw hK
    obtain ⟨xs, x, hq, hx⟩ := hg
    obtain ⟨its, rv, p, hz⟩ := I.list hq
    obtain ⟨u, hu, ru⟩ := rv.get hx
    obtain ⟨f0, f1, f2, f3, f4, f5⟩ := hf it (by simp)
    refine wpAny_pyNext_list_item st p.isList (x := u) (by simpa using hu) fun h' st' sb => ?_
    have I1 : Inv X pins σ H { s with heap := h' } := I.turned (t' := s.toks) (fun b o hb e => (sb.2 b hb).trans e) f0 f1 f3 f4 f5
    obtain ⟨o, e, c, d⟩ := id st'
    exact ⟨u, rfl, go_of (s := { s with heap := h' }) e c d (by decide) ⟨x, H, I1, ru, ⟨rfl, fun ys hy => by rw [I.list_inj hy hq]; exact hx⟩, st', fun b hb => (hf b hb).1⟩⟩
  done := by
    intro X hP hw hK hc i pins s σ H E I hf st hg
    subst hP hw hK
    obtain ⟨xs, hq, hx⟩ := hg
    obtain ⟨its, rv, p, hz⟩ := I.list hq
    obtain ⟨f0, f1, f2, f3, f4, f5⟩ := hf it (by simp)
    have hl := rv.length
    exact wpAny_pyNext_list_end (I.ok.hd hc) st p.isList (by simp; omega) fun h' eb => ⟨rfl, I.turned (t' := s.toks) (fun b o hb e => eb b o hb e) f0 f1 f3 f4 f5⟩
  self := fun _ _ _ _ _ st h => wpAny_pyIter_listiter st h
theorem turn_tuple {P : Program} {w : World} {K : PySem.W.Frag} {tg : Expr} (a it : Addr) : Turn P w K tg (Itt K a) [it] it (fun i h => h.IsTupleIter it a i) where
  mem := by simp
  obj := fun i h st b hb => by
    have e : b = it := by simpa using hb
    subst e
    obtain ⟨o, e, c, d⟩ := st
    exact ⟨o, e, fun v z => by rw [d] at z; cases z⟩
  keep := fun i h h' st k => st.at fun o e => k it (by simp) o e
  item := by
    intro X hP hw hK hc i pins s σ H E I hf st hg
    subst hP hw hK
    obtain ⟨xs, x, hq, hx⟩ := hg
    obtain ⟨its, rv, p, hz⟩ := I.tuple hq
    obtain ⟨u, hu, ru⟩ := rv.get hx
    obtain ⟨f0, f1, f2, f3, f4, f5⟩ := hf it (by simp)
    refine wpAny_pyNext_tuple_item st (show s.heap.IsTuple a its.toArray from p) (x := u) (by simpa using hu) fun h' st' sb => ?_
    have I1 : Inv X pins σ H { s with heap := h' } := I.turned (t' := s.toks) (fun b o hb e => (sb.2 b hb).trans e) f0 f1 f3 f4 f5
    obtain ⟨o, e, c, d⟩ := id st'
    exact ⟨u, rfl, go_of (s := { s with heap := h' }) e c d (by decide) ⟨x, H, I1, ru, ⟨rfl, fun ys hy => by rw [I.tuple_inj hy hq]; exact hx⟩, st', fun b hb => (hf b hb).1⟩⟩
  done := by
    intro X hP hw hK hc i pins s σ H E I hf st hg
    subst hP hw hK
    obtain ⟨xs, hq, hx⟩ := hg
    obtain ⟨its, rv, p, hz⟩ := I.tuple hq
    obtain ⟨f0, f1, f2, f3, f4, f5⟩ := hf it (by simp)
    have hl := rv.length
    exact wpAny_pyNext_tuple_end (I.ok.hd hc) st (show s.heap.IsTuple a its.toArray from p) (by simp; omega) fun h' eb => ⟨rfl, I.turned (t' := s.toks) (fun b o hb e => eb b o hb e) f0 f1 f3 f4 f5⟩
  self := fun _ _ _ _ _ st h => wpAny_pyIter_tupleiter st h
theorem turn_range {P : Program} {w : World} {K : PySem.W.Frag} {tg : Expr} (it : Addr) (lo : Int) (n : Nat) : Turn P w K tg (Itr lo n) [it] it (fun i h => IsRangeIter h it (lo + (i : Nat) * 1) ((n : Int) - (i : Nat)) 1) where
  mem := by simp
  obj := fun i h st b hb => by
    have e : b = it := by simpa using hb
    subst e
    exact ⟨_, st, fun v z => by
      have z' : Data.fields _ = Data.cell v := z
      cases z'⟩
  keep := fun i h h' st k => k it (by simp) _ st
  item := by
    intro X hP hw hK hc i pins s σ H E I hf st hg
    subst hP hw hK
    obtain ⟨f0, f1, f2, f3, f4, f5⟩ := hf it (by simp)
    have W := Walks.range (prog := X.prog) (w := X.w) (I.ok.hd hc) it lo 1 n
    refine W.item i s _ _ hg st fun v h' tk hv st' kk => ?_
    obtain ⟨t, rfl⟩ := hv
    have I1 : Inv X pins σ H { s with heap := h', toks := tk } := I.turned (fun b o hb e => kk b o (by simpa using hb) e) f0 f1 f3 f4 f5
    refine ⟨_, rfl, go_of (s := { s with heap := h', toks := tk }) (n := "range_iterator") st' rfl rfl (by decide) ⟨.int (lo + i), H, I1, ⟨t, ?_⟩, ⟨rfl, rfl⟩, st', fun b hb => (hf b hb).1⟩⟩
    rw [Int.mul_one]
  done := by
    intro X hP hw hK hc i pins s σ H E I hf st hg
    subst hP hw hK
    obtain ⟨f0, f1, f2, f3, f4, f5⟩ := hf it (by simp)
    exact wpAny_pyNext_range_end (I.ok.hd hc) st (by have : n ≤ i := hg; omega) fun h' eb => ⟨rfl, I.turned (t' := s.toks) (fun b o hb e => eb b o hb e) f0 f1 f3 f4 f5⟩
  self := fun _ _ _ _ _ st h => wpAny_pyIter_rangeiter st h
end L2

namespace L2
open PySem PySem.Spec PyProof.Rows
section
variable {X : Cx} {tg : Expr}
/-- a range object just made, walked -/
theorem range_it {pins : List (Addr × Obj)} {σ : St} {H : Hp} {s : Shared} {R : It → Hp → Prop} {E : Value → Shared → Prop} {lo hi : Int} {t u v : Tok} {tk : Nat} (I : Inv X pins σ H s) (h1 : -(2 ^ 62) ≤ lo) (h2 : lo < 2 ^ 62) (h3 : -(2 ^ 62) ≤ hi) (h4 : hi < 2 ^ 62)
    (q : R (Itr lo (hi - lo).toNat) H) : wpAny (model X.prog X.w) X.A (pyIter (.ref s.heap.objs.size)) (PIE X pins σ tg R) E { s with heap := s.heap.push { cls := .type "range", data := .fields #[.int lo t, .int hi u, .int 1 v] }, toks := tk } := by
  refine wpAny_pyIter_range (IsRange.new ..) (small_one h1 h2 h3 h4) ?_
  have I1 : Inv X pins σ H { s with heap := s.heap.push { cls := .type "range", data := .fields #[.int lo t, .int hi u, .int 1 v] }, toks := tk } := I.kept fun b o e => Heap.get?_push_of_some _ e
  refine ⟨(s.heap.push { cls := .type "range", data := .fields #[.int lo t, .int hi u, .int 1 v] }).objs.size, [(s.heap.push { cls := .type "range", data := .fields #[.int lo t, .int hi u, .int 1 v] }).objs.size], _, _, H, rfl,
    I1.kept (t' := tk) fun b o e => Heap.get?_push_of_some _ e, turn_range _ lo (hi - lo).toNat, ?_, fun b hb => ?_, q⟩
  · have e1 : lo + ((0 : Nat) : Int) * 1 = lo := by simp
    have e2 : (((hi - lo).toNat : Nat) : Int) - ((0 : Nat) : Int) = Builtin.Range.rangeSize lo hi 1 := by rw [rangeSize_one]; split <;> omega
    show IsRangeIter _ _ (lo + ((0 : Nat) : Int) * 1) ((((hi - lo).toNat : Nat) : Int) - ((0 : Nat) : Int)) 1
    rw [e1, e2]
    exact Heap.get?_push_size _ rfl
  · have e : b = (s.heap.push { cls := .type "range", data := .fields #[.int lo t, .int hi u, .int 1 v] }).objs.size := by simpa using hb
    subst e
    exact I1.fpOk (Nat.le_refl _) (I1.hok.fresh (Nat.le_refl _))
noncomputable def iRng1 (ta : TA) : TI := fun σ H R => ta σ H fun vs H1 => ∃ j : Int, vs = [.int j] ∧ -(2 ^ 62) ≤ j ∧ j < 2 ^ 62 ∧ R (Itr 0 j.toNat) H1
noncomputable def iRng2 (ta : TA) : TI := fun σ H R => ta σ H fun vs H1 => ∃ i j : Int, vs = [.int i, .int j] ∧ (-(2 ^ 62) ≤ i ∧ i < 2 ^ 62 ∧ -(2 ^ 62) ≤ j ∧ j < 2 ^ 62) ∧ R (Itr i (j - i).toNat) H1
theorem pi_range1 {a : Expr} {ta : TA} {p pos : Pos} (hg : Gl X "range") (hm : X.mg "range" = none) (ha : PA X [a] ta) (hs : starEach [a] X.env = [(false, eval a X.env)] := by rfl) : PI X tg (.Call (.Name "range" p) [a] [] pos) (iRng1 ta) := by
  intro pins s σ H R I h
  refine Call_ (ld_blt I hg hm boot_range (PyProof.Rows.callWith_type1 (thn (ha pos pins s σ H _ I h) fun us s1 ⟨vs, H1, I1, r1, q1⟩ => ?_) hs rfl))
  obtain ⟨j, e, q1, q2, q⟩ := q1
  subst e
  cases r1 with
  | cons r rr =>
    cases rr
    obtain ⟨t, rfl⟩ := r
    exact call_range_1 (range_it I1 (by omega) (by omega) q1 q2 (by simpa using q))
theorem pi_range2 {a b : Expr} {ta : TA} {p pos : Pos} (hg : Gl X "range") (hm : X.mg "range" = none) (ha : PA X [a, b] ta) (hs : starEach [a, b] X.env = [(false, eval a X.env), (false, eval b X.env)] := by rfl) (hs2 : starEach [b] X.env = [(false, eval b X.env)] := by rfl) :
    PI X tg (.Call (.Name "range" p) [a, b] [] pos) (iRng2 ta) := by
  intro pins s σ H R I h
  refine Call_ (ld_blt I hg hm boot_range (PyProof.Rows.callWith_type1 (thn (ha pos pins s σ H _ I h) fun us s1 ⟨vs, H1, I1, r1, q1⟩ => ?_) (by rw [hs, hs2]) (by rw [hs2]; rfl)))
  obtain ⟨i, j, e, ⟨q1, q2, q3, q4⟩, q⟩ := q1
  subst e
  cases r1 with
  | cons r rr =>
    cases rr with
    | cons r' rr =>
      cases rr
      obtain ⟨t, rfl⟩ := r
      obtain ⟨t', rfl⟩ := r'
      exact call_range_2 (range_it I1 q1 q2 q3 q4 q)

/-! ### for -/
/-- W: the invariant by the turn and a measure; N: what the body is to reach -/
noncomputable def tFor (wi : TI) (g : TG) (tb : TS) : TS := fun D σ H => wi σ H fun J H1 => ∃ W : Nat → Nat → St → Hp → Prop, (∃ m, W 0 m σ H1) ∧ ∀ i m σ H, W i m σ H →
  (J.stop i H ∧ D.nx σ H) ∨ (J.go i H ∧ ∃ N : St → Hp → Prop, (∀ σ' H', N σ' H' → ∃ m', m' < m ∧ W (i + 1) m' σ' H') ∧ ∀ x H', J.yld i H x H' → g x σ H' fun σ2 H2 => tb { D with nx := N, ct := N, bk := D.nx } σ2 H2)
/-- the records at fp as they stand -/
noncomputable def pinsAt (fp : List Addr) (h : Heap) : List (Addr × Obj) := fp.filterMap fun b => (h.get? b).map fun o => (b, o)
theorem mem_pinsAt {fp : List Addr} {h : Heap} {b : Addr} {o : Obj} (hb : b ∈ fp) (e : h.get? b = some o) : (b, o) ∈ pinsAt fp h := List.mem_filterMap.mpr ⟨b, hb, by rw [e]; rfl⟩
theorem of_pinsAt {fp : List Addr} {h : Heap} {p : Addr × Obj} (hp : p ∈ pinsAt fp h) : p.1 ∈ fp ∧ h.get? p.1 = some p.2 := by
  obtain ⟨b, hb, e⟩ := List.mem_filterMap.mp hp
  cases q : h.get? b with
  | none => rw [q] at e; cases e
  | some o =>
    rw [q] at e
    have e' : (b, o) = p := Option.some.inj e
    subst e'
    exact ⟨hb, q⟩
theorem Inv.pinned {pins : List (Addr × Obj)} {σ : St} {H : Hp} {s : Shared} {fp : List Addr} (I : Inv X pins σ H s) (hf : ∀ b ∈ fp, FpOk X pins H b) (ho : ∀ b ∈ fp, ∃ o, s.heap.get? b = some o ∧ ∀ v, o.data ≠ .cell v) : Inv X (pins ++ pinsAt fp s.heap) σ H s :=
  I.pins_of fun p hp => (List.mem_append.mp hp).elim (fun z => I.pin p (List.mem_append_right _ z)) fun z => by
    obtain ⟨hb, e⟩ := of_pinsAt z
    obtain ⟨f0, f1, f2, _⟩ := hf p.1 hb
    obtain ⟨o, e', d⟩ := ho p.1 hb
    rw [e] at e'; cases e'
    exact ⟨e, f0, f1, f2, d⟩
theorem Inv.unpinned {pins pl : List (Addr × Obj)} {σ : St} {H : Hp} {s : Shared} (I : Inv X (pins ++ pl) σ H s) : Inv X pins σ H s := I.pins_of fun p hp => I.pin p (List.mem_append_right _ (List.mem_append_left _ hp))
theorem ps_for {iter : Expr} {body : List Stmt} {wi : TI} {g : TG} {tb : TS} {pos : Pos} (hp : PassesOwn (model X.prog X.w) X.A X.env X.xe) (hc : X.calm = true) (hi : PI X tg iter wi) (hg : PG X tg g) (hb : PSs X body tb)
    (hs : ∀ x, foldedSetIterable iter X.env x = pure x := by intro _; rfl) : PS X (.For tg iter body [] pos) (tFor wi g tb) := by
  intro pins s σ H D I h
  refine wpAny_For (thn (hi pins s σ H _ I h) fun v s1 h1 => thn h1 fun itv s2 h2 => ?_) hs
  obtain ⟨it, fp, tn, J, H2, e, I2, T, st2, f2, W, ⟨m0, w0⟩, turn⟩ := h2
  subst e
  -- what stays true of the iterator's objects through the loop
  have stat : ∀ {H' : Hp}, (∀ b ∈ fp, H' b = none) → ∀ b ∈ fp, FpOk X pins H' b := fun hn b hb => ⟨hn b hb, (f2 b hb).2⟩
  refine codeAny_forLoop_any (fun n s' => ∃ i σ' H', Inv X pins σ' H' s' ∧ tn i s'.heap ∧ (∀ b ∈ fp, H' b = none) ∧ W i n σ' H') ?_ m0 ⟨0, σ, H2, I2, st2, fun b hb => (f2 b hb).1, w0⟩
  rintro n s3 ⟨i, σ3, H3, I3, st3, fr3, w3⟩
  rcases turn i n σ3 H3 w3 with ⟨stop, qn⟩ | ⟨go, N, hN, step⟩
  · refine wpAny_passesOwn hp (thn (T.done X rfl rfl rfl hc i pins s3 σ3 H3 X.xe I3 (stat fr3) st3 stop) fun r s4 ⟨hr, I4⟩ => ?_)
    subst hr
    exact wpAny_execs_nil ⟨σ3, H3, I4, qn⟩
  · refine wpAny_passesOwn hp (thn (T.item X rfl rfl rfl hc i pins s3 σ3 H3 X.xe I3 (stat fr3) st3 go) fun r s4 ⟨u, hr, h4⟩ => ?_)
    subst hr
    refine wpAny_passesOwn hp (thn h4 fun _ s5 ⟨x, H5, I5, r5, y5, st5, fr5⟩ => ?_)
    have I5' := I5.pinned (stat fr5) (T.obj _ _ st5)
    refine wpAny_passesOwn hp (thn (hg _ s5 σ3 H5 x u _ I5' r5 (step x H5 y5)) fun _ s6 ⟨σ6, H6, I6, q6⟩ => ?_)
    refine wpAny_passesOwn hp (thn (hb _ s6 σ6 H6 _ I6 q6) fun f s7 q7 => ?_)
    have again : ∀ {σ7 : St} {H7 : Hp}, Inv X (pins ++ pinsAt fp s5.heap) σ7 H7 s7 → N σ7 H7 → ∃ m, m < n ∧ ∃ i σ' H', Inv X pins σ' H' s7 ∧ tn i s7.heap ∧ (∀ b ∈ fp, H' b = none) ∧ W i m σ' H' := fun {σ7 H7} I7 n7 => by
      obtain ⟨m', hm, w7⟩ := hN σ7 H7 n7
      refine ⟨m', hm, i + 1, σ7, H7, I7.unpinned, T.keep _ _ _ st5 fun b hb o e => (I7.pin (b, o) (List.mem_append_right _ (List.mem_append_right _ (mem_pinsAt hb e)))).1, fun b hb => ?_, w7⟩
      obtain ⟨o, e, d⟩ := T.obj _ _ st5 b hb
      exact (I7.pin (b, o) (List.mem_append_right _ (List.mem_append_right _ (mem_pinsAt hb e)))).2.1
    cases f with
    | next => obtain ⟨σ7, H7, I7, n7⟩ := q7; exact again I7 n7
    | cont => obtain ⟨σ7, H7, I7, n7⟩ := q7; exact again I7 n7
    | brk => obtain ⟨σ7, H7, I7, q7⟩ := q7; exact ⟨σ7, H7, I7.unpinned, q7⟩
    | ret v => obtain ⟨x7, σ7, H7, I7, r7, q7⟩ := q7; exact ⟨x7, σ7, H7, I7.unpinned, r7, q7⟩
end

end L2

namespace L2
open PySem PySem.Spec PyProof.Rows

noncomputable abbrev R2 := V → V → Hp → VK → Prop
/-- a two-place operation on values: f is binaryOp op, inplaceOp op or compareOp op -/
noncomputable def OpR (X : Cx) (f : Value → Value → Sem Value) (r : R2) : Prop :=
  ∀ (pins : List (Addr × Obj)) (s : Shared) (σ : St) (H : Hp) (x y : V) (v u : Value) (Q : VK), Inv X pins σ H s → RelV x v → RelV y u → r x y H Q →
    wpAny (model X.prog X.w) X.A (f v u) (EP X pins σ Q) X.xe s
/-- a call of a value that is known (a builtin, a type) with values -/
noncomputable def CallR (X : Cx) (f : Value) (r : List V → Hp → VK → Prop) : Prop :=
  ∀ (pins : List (Addr × Obj)) (s : Shared) (σ : St) (H : Hp) (xs : List V) (us : List Value) (Q : VK), Inv X pins σ H s → Vals xs us → r xs H Q →
    wpAny (model X.prog X.w) X.A (call f us) (EP X pins σ Q) X.xe s
noncomputable def tOp (r : R2) (ta tb : TE) : TE := fun σ H Q => ta σ H fun x H1 => tb σ H1 fun y H2 => r x y H2 Q
/-- ints in, under C, and a value out -/
noncomputable def rI (C : Int → Int → Prop) (g : Int → Int → V) : R2 := fun x y H Q => ∃ i j, x = .int i ∧ y = .int j ∧ C i j ∧ Q (g i j) H
noncomputable def rI0 (g : Int → Int → V) : R2 := fun x y H Q => ∃ i j, x = .int i ∧ y = .int j ∧ Q (g i j) H
section
variable {X : Cx} {a b c : Expr} {ta tb tc : TE} {pos : Pos}

theorem binT (ha : PE X a ta) (hb : PE X b tb) {pins : List (Addr × Obj)} {s : Shared} {σ : St} {H : Hp} {R : V → V → Hp → Prop} (I : Inv X pins σ H s)
    (h : ta σ H fun x H1 => tb σ H1 fun y H2 => R x y H2) {Q : Value → Shared → Prop} {f : Value → Value → Sem Value}
    (hf : ∀ v u s2 x y H2, Inv X pins σ H2 s2 → RelV x v → RelV y u → R x y H2 → wpAny (model X.prog X.w) X.A (f v u) Q X.xe s2) :
    wpAny (model X.prog X.w) X.A (eval a X.env) (fun v s₁ => wpAny (model X.prog X.w) X.A (eval b X.env) (fun u s₂ => wpAny (model X.prog X.w) X.A (f v u) Q X.xe s₂) X.xe s₁) X.xe s := by
  refine thn (ha pins s σ H _ I h) fun v s1 ⟨x, H1, I1, r1, q1⟩ => ?_
  refine thn (hb pins s1 σ H1 _ I1 q1) fun u s2 ⟨y, H2, I2, r2, q2⟩ => ?_
  exact hf v u s2 x y H2 I2 r1 r2 q2

theorem pe_op {op : Operator} {r : R2} (ho : OpR X (binaryOp op) r) (ha : PE X a ta) (hb : PE X b tb) : PE X (.BinOp a op b pos) (tOp r ta tb) := by
  intro pins s σ H Q I h
  exact wpAny_BinOp (binT ha hb I h fun v u s2 x y H2 I2 rx ry q => ho pins s2 σ H2 x y v u Q I2 rx ry q)
/-! ### ints -/
theorem opI {f : Value → Value → Sem Value} {C : Int → Int → Prop} {g : Int → Int → Int}
    (rule : ∀ (i j : Int) (t u : Tok) (s : Shared) (Q : Value → Shared → Prop) (E : Value → Shared → Prop), C i j → Q (.int (g i j) s.toks) { s with toks := s.toks + 1 } → wpAny (model X.prog X.w) X.A (f (.int i t) (.int j u)) Q E s) :
    OpR X f (rI C fun i j => .int (g i j)) := by
  intro pins s σ H x y v u Q I rx ry h
  obtain ⟨i, j, rfl, rfl, hc, q⟩ := h
  obtain ⟨t, rfl⟩ := rx
  obtain ⟨t', rfl⟩ := ry
  exact rule i j t t' s _ _ hc ⟨.int (g i j), H, I.tok _, ⟨_, rfl⟩, q⟩
theorem opI0 {f : Value → Value → Sem Value} {g : Int → Int → Int}
    (rule : ∀ (i j : Int) (t u : Tok) (s : Shared) (Q : Value → Shared → Prop) (E : Value → Shared → Prop), Q (.int (g i j) s.toks) { s with toks := s.toks + 1 } → wpAny (model X.prog X.w) X.A (f (.int i t) (.int j u)) Q E s) :
    OpR X f (rI0 fun i j => .int (g i j)) := by
  intro pins s σ H x y v u Q I rx ry h
  obtain ⟨i, j, rfl, rfl, q⟩ := h
  obtain ⟨t, rfl⟩ := rx
  obtain ⟨t', rfl⟩ := ry
  exact rule i j t t' s _ _ ⟨.int (g i j), H, I.tok _, ⟨_, rfl⟩, q⟩
theorem opB0 {f : Value → Value → Sem Value} {g : Int → Int → Bool}
    (rule : ∀ (i j : Int) (t u : Tok) (s : Shared) (Q : Value → Shared → Prop) (E : Value → Shared → Prop), Q (.bool (g i j)) s → wpAny (model X.prog X.w) X.A (f (.int i t) (.int j u)) Q E s) :
    OpR X f (rI0 fun i j => .bl (g i j)) := by
  intro pins s σ H x y v u Q I rx ry h
  obtain ⟨i, j, rfl, rfl, q⟩ := h
  obtain ⟨t, rfl⟩ := rx
  obtain ⟨t', rfl⟩ := ry
  exact rule i j t t' s _ _ ⟨.bl (g i j), H, I, rfl, q⟩

noncomputable def CPow (i j : Int) : Prop := 0 ≤ j ∧ j ≤ 1000000 ∧ i.natAbs < 2 ^ 64
noncomputable def CMul (i j : Int) : Prop := (-(2 ^ 64) < i ∧ i < 2 ^ 64) ∨ (-(2 ^ 64) < j ∧ j < 2 ^ 64)
theorem CMul.ok {i j : Int} (h : CMul i j) : IntMulOk i j := by
  rcases h with ⟨h1, h2⟩ | ⟨h1, h2⟩
  · exact .of_left (intBits_le_64 h1 h2)
  · exact .of_right (intBits_le_64 h1 h2)
theorem op_add : OpR X (binaryOp .Add) (rI0 fun i j => .int (i + j)) := opI0 fun _ _ _ _ _ _ _ q => add_int q
theorem op_sub : OpR X (binaryOp .Sub) (rI0 fun i j => .int (i - j)) := opI0 fun _ _ _ _ _ _ _ q => sub_int q
/-- % by a positive divisor of any size -/
theorem op_mod : OpR X (binaryOp .Mod) (rI (fun _ j => 0 < j) fun i j => .int (i % j)) := opI fun i j _ _ _ _ _ hc q => by
  have h1 : (0 : Int) < j := hc
  exact mod_int' (by omega) (by rw [Int.fmod_eq_emod_of_nonneg i (by omega)]; exact q)
theorem op_pow : OpR X (binaryOp .Pow) (rI CPow fun i j => .int (i ^ j.toNat)) := opI fun _ _ _ _ _ _ _ hc q => pow_int_small hc.1 hc.2.1 hc.2.2 q
end

/-! ### comparisons -/
/-- the scalars that == tells apart as data does -/
noncomputable def scal : V → V → Bool
  | .non, .non => true | .non, .int _ => true | .int _, .non => true | .non, .bl _ => true | .bl _, .non => true | .non, .str _ => true | .str _, .non => true
  | .int _, .int _ => true | .bl _, .bl _ => true | .str _, .str _ => true | .byt _, .byt _ => true
  | .int _, .str _ => true | .str _, .int _ => true | .bl _, .str _ => true | .str _, .bl _ => true
  | _, _ => false
noncomputable def rEq : R2 := fun x y H Q => scal x y = true ∧ Q (.bl (decide (x = y))) H
noncomputable def rNe : R2 := fun x y H Q => scal x y = true ∧ Q (.bl (!decide (x = y))) H

theorem dec_int {i j : Int} : decide (V.int i = V.int j) = (i == j) := by
  rw [Bool.eq_iff_iff]
  simp
theorem dec_bl {i j : Bool} : decide (V.bl i = V.bl j) = (i == j) := by
  rw [Bool.eq_iff_iff]
  simp
theorem dec_str {i j : Str} : decide (V.str i = V.str j) = (i == j) := by
  rw [Bool.eq_iff_iff]
  simp
theorem dec_byt {i j : Array UInt8} : decide (V.byt i = V.byt j) = (i.toList == j.toList) := by
  rw [Bool.eq_iff_iff]
  cases i
  cases j
  simp

section
variable {X : Cx} {a b c : Expr} {ta tb tc : TE} {pos : Pos}
theorem fin_bl {pins : List (Addr × Obj)} {σ : St} {H : Hp} {s : Shared} {Q : VK} {k k' : Bool} (I : Inv X pins σ H s) (q : Q (.bl k) H) (e : k = k') : EP X pins σ Q (.bool k') s := by
  subst e
  exact ⟨.bl k, H, I, rfl, q⟩
theorem op_eq : OpR X (compareOp .Eq) rEq := by
  intro pins s σ H x y v u Q I rx ry h
  obtain ⟨hs, q⟩ := h
  cases x with
  | non =>
    cases rx
    cases y with
    | non => cases ry; exact PySem.EqNone.eq_none_none (fin_bl I q (by simp))
    | bl j => cases ry; exact PySem.EqNone.eq_none_bool (fin_bl I q (by simp))
    | int j => obtain ⟨t', rfl⟩ := ry; exact PySem.EqNone.eq_none_int (fin_bl I q (by simp))
    | str j => obtain ⟨t', rfl⟩ := ry; exact PySem.EqNone.eq_none_str (fin_bl I q (by simp))
    | _ => exact absurd (show false = true from hs) Bool.false_ne_true
  | bl i =>
    cases rx
    cases y with
    | non => cases ry; exact PySem.EqNone.eq_bool_none (fin_bl I q (by simp))
    | bl j => cases ry; exact eq_bool (fin_bl I q dec_bl)
    | str j => obtain ⟨t', rfl⟩ := ry; exact PySem.EqMixed.eq_bool_str (fin_bl I q (by simp))
    | _ => exact absurd (show false = true from hs) Bool.false_ne_true
  | int i =>
    obtain ⟨t, rfl⟩ := rx
    cases y with
    | non => cases ry; exact PySem.EqNone.eq_int_none (fin_bl I q (by simp))
    | int j => obtain ⟨t', rfl⟩ := ry; exact eq_int (fin_bl I q dec_int)
    | str j => obtain ⟨t', rfl⟩ := ry; exact PySem.EqMixed.eq_int_str (fin_bl I q (by simp))
    | _ => exact absurd (show false = true from hs) Bool.false_ne_true
  | str i =>
    obtain ⟨t, rfl⟩ := rx
    cases y with
    | non => cases ry; exact PySem.EqNone.eq_str_none (fin_bl I q (by simp))
    | bl j => cases ry; exact PySem.EqMixed.eq_str_bool (fin_bl I q (by simp))
    | int j => obtain ⟨t', rfl⟩ := ry; exact PySem.EqMixed.eq_str_int (fin_bl I q (by simp))
    | str j => obtain ⟨t', rfl⟩ := ry; exact eq_str (fin_bl I q dec_str)
    | _ => exact absurd (show false = true from hs) Bool.false_ne_true
  | byt i =>
    obtain ⟨t, rfl⟩ := rx
    cases y with
    | byt j => obtain ⟨t', rfl⟩ := ry; exact PySem.W.eq_bytes (fin_bl I q dec_byt)
    | _ => exact absurd (show false = true from hs) Bool.false_ne_true
  | _ => cases y <;> exact absurd (show false = true from hs) Bool.false_ne_true
theorem op_ne : OpR X (compareOp .NotEq) rNe := by
  intro pins s σ H x y v u Q I rx ry h
  obtain ⟨hs, q⟩ := h
  cases x with
  | non =>
    cases rx
    cases y with
    | non => cases ry; exact PySem.EqNone.ne_none_none (fin_bl I q (by simp))
    | bl j => cases ry; exact PySem.EqNone.ne_none_bool (fin_bl I q (by simp))
    | int j => obtain ⟨t', rfl⟩ := ry; exact PySem.EqNone.ne_none_int (fin_bl I q (by simp))
    | str j => obtain ⟨t', rfl⟩ := ry; exact PySem.EqNone.ne_none_str (fin_bl I q (by simp))
    | _ => exact absurd (show false = true from hs) Bool.false_ne_true
  | bl i =>
    cases rx
    cases y with
    | non => cases ry; exact PySem.EqNone.ne_bool_none (fin_bl I q (by simp))
    | bl j => cases ry; exact ne_bool (fin_bl I q (congrArg not dec_bl))
    | str j => obtain ⟨t', rfl⟩ := ry; exact PySem.EqMixed.ne_bool_str (fin_bl I q (by simp))
    | _ => exact absurd (show false = true from hs) Bool.false_ne_true
  | int i =>
    obtain ⟨t, rfl⟩ := rx
    cases y with
    | non => cases ry; exact PySem.EqNone.ne_int_none (fin_bl I q (by simp))
    | int j => obtain ⟨t', rfl⟩ := ry; exact ne_int (fin_bl I q (congrArg not dec_int))
    | str j => obtain ⟨t', rfl⟩ := ry; exact PySem.EqMixed.ne_int_str (fin_bl I q (by simp))
    | _ => exact absurd (show false = true from hs) Bool.false_ne_true
  | str i =>
    obtain ⟨t, rfl⟩ := rx
    cases y with
    | non => cases ry; exact PySem.EqNone.ne_str_none (fin_bl I q (by simp))
    | bl j => cases ry; exact PySem.EqMixed.ne_str_bool (fin_bl I q (by simp))
    | int j => obtain ⟨t', rfl⟩ := ry; exact PySem.EqMixed.ne_str_int (fin_bl I q (by simp))
    | str j => obtain ⟨t', rfl⟩ := ry; exact ne_str (fin_bl I q (congrArg not dec_str))
    | _ => exact absurd (show false = true from hs) Bool.false_ne_true
  | byt i =>
    obtain ⟨t, rfl⟩ := rx
    cases y with
    | byt j => obtain ⟨t', rfl⟩ := ry; exact PySem.W.ne_bytes (fin_bl I q (congrArg not dec_byt))
    | _ => exact absurd (show false = true from hs) Bool.false_ne_true
  | _ => cases y <;> exact absurd (show false = true from hs) Bool.false_ne_true

theorem op_lt : OpR X (compareOp .Lt) (rI0 fun i j => .bl (decide (i < j))) := opB0 fun _ _ _ _ _ _ _ q => lt_int q
theorem op_ge : OpR X (compareOp .GtE) (rI0 fun i j => .bl (decide (j ≤ i))) := opB0 fun _ _ _ _ _ _ _ q => ge_int q
/-- two rules for one operation: by cases -/
theorem OpR.or {f : Value → Value → Sem Value} {r r' : R2} (h : OpR X f r) (h' : OpR X f r') : OpR X f (fun x y H Q => r x y H Q ∨ r' x y H Q) := by
  intro pins s σ H x y v u Q I rx ry q
  rcases q with q | q
  · exact h pins s σ H x y v u Q I rx ry q
  · exact h' pins s σ H x y v u Q I rx ry q

theorem nomark (b : Expr) {op : CmpOp} (h : op ≠ .In := by decide) (h2 : op ≠ .NotIn := by decide) : behindInMarks op b = false := by
  have e1 : (op == CmpOp.In) = false := by cases op <;> first | rfl | exact absurd rfl h
  have e2 : (op == CmpOp.NotIn) = false := by cases op <;> first | rfl | exact absurd rfl h2
  cases b <;> simp [behindInMarks, e1, e2]
/-- a comparison as a value; hm: nomark b, or (for in, not in) by with_unfolding_all rfl -/
theorem pe_cmpR {op : CmpOp} {r : R2} (ho : OpR X (compareOp op) r) (ha : PE X a ta) (hb : PE X b tb) (hm : behindInMarks op b = false) : PE X (.Compare a [op] [b] pos) (tOp r ta tb) := by
  intro pins s σ H Q I h
  exact wpAny_Compare1 (binT ha hb I h fun v u s2 x y H2 I2 rx ry q => ho pins s2 σ H2 x y v u Q I2 rx ry q) hm
/-- a reading of a value as a test -/
noncomputable def tTest (t : TE) : TT := fun σ H Q => t σ H fun x H' => ∃ k, x = .bl k ∧ Q k H'
theorem pt_cmpR {op : CmpOp} {r : R2} (ho : OpR X (compareOp op) r) (ha : PE X a ta) (hb : PE X b tb) (hm : behindInMarks op b = false) : PT X (.Compare a [op] [b] pos) (tTest (tOp r ta tb)) := by
  intro pins s σ H Q I h
  refine wpAny_isTrue_Compare1 (thn (ha pins s σ H _ I h) fun v s1 ⟨x, H1, I1, r1, q1⟩ => thn (hb pins s1 σ H1 _ I1 q1) fun u s2 ⟨y, H2, I2, r2, q2⟩ =>
    thn (ho pins s2 σ H2 x y v u _ I2 r1 r2 q2) fun c s3 ⟨z, H3, I3, r3, k, e, q3⟩ => ?_) hm
  subst e
  cases r3
  exact wpAny_truthy_bool ⟨H3, I3, q3⟩
theorem line63 : (sizeLine : Nat) < 2 ^ 63 := by rw [sizeLine_eq]; decide
theorem op_add_str : OpR X (binaryOp .Add) (fun x y H Q => ∃ i j, x = .str i ∧ y = .str j ∧ i.length + j.length ≤ sizeLine ∧ Q (.str (i ++ j)) H) := by
  intro pins s σ H x y v u Q I rx ry h
  obtain ⟨i, j, rfl, rfl, hz, q⟩ := h
  obtain ⟨t, rfl⟩ := rx
  obtain ⟨t', rfl⟩ := ry
  exact add_str (fun t' tk => ⟨.str (i ++ j), H, I.tok _, ⟨_, rfl⟩, q⟩) hz
/-! ### scalar builtins, by CallR -/
theorem vals1 {x : V} {us : List Value} (r : Vals [x] us) : ∃ u, us = [u] ∧ RelV x u := by
  cases r with
  | cons r1 r2 => cases r2; exact ⟨_, rfl, r1⟩
theorem vals2 {x y : V} {us : List Value} (r : Vals [x, y] us) : ∃ u w', us = [u, w'] ∧ RelV x u ∧ RelV y w' := by
  cases r with
  | cons r1 r2 =>
    cases r2 with
    | cons r3 r4 => cases r4; exact ⟨_, _, rfl, r1, r3⟩
theorem call_max2 (hc : X.calm = true) : CallR X (.builtin "max") (fun xs H Q => ∃ i j, xs = [.int i, .int j] ∧ Q (.int (if j > i then j else i)) H) := by
  intro pins s σ H xs us Q I r h
  obtain ⟨i, j, rfl, q⟩ := h
  obtain ⟨u, w', rfl, ⟨t, rfl⟩, ⟨t', rfl⟩⟩ := vals2 r
  refine max_two_ints (I.ok.hd hc) fun h' tk k => ⟨_, H, I.kept k, ?_, q⟩
  by_cases hj : j > i
  · rw [if_pos hj, if_pos hj]; exact ⟨_, rfl⟩
  · rw [if_neg hj, if_neg hj]; exact ⟨_, rfl⟩
theorem call_min2 (hc : X.calm = true) : CallR X (.builtin "min") (fun xs H Q => ∃ i j, xs = [.int i, .int j] ∧ Q (.int (if j < i then j else i)) H) := by
  intro pins s σ H xs us Q I r h
  obtain ⟨i, j, rfl, q⟩ := h
  obtain ⟨u, w', rfl, ⟨t, rfl⟩, ⟨t', rfl⟩⟩ := vals2 r
  refine min_two_ints (I.ok.hd hc) fun h' tk k => ⟨_, H, I.kept k, ?_, q⟩
  by_cases hj : j < i
  · rw [if_pos hj, if_pos hj]; exact ⟨_, rfl⟩
  · rw [if_neg hj, if_neg hj]; exact ⟨_, rfl⟩
theorem call_int1 : CallR X (.type "int") (fun xs H Q => (∃ i, xs = [.int i] ∧ Q (.int i) H) ∨ ∃ k, xs = [.bl k] ∧ Q (.int (if k then 1 else 0)) H) := by
  intro pins s σ H xs us Q I r h
  rcases h with ⟨i, rfl, q⟩ | ⟨k, rfl, q⟩
  · obtain ⟨u, rfl, t, rfl⟩ := vals1 r
    exact call_int_int ⟨.int i, H, I, ⟨_, rfl⟩, q⟩
  · obtain ⟨u, rfl, r1⟩ := vals1 r
    cases r1
    exact call_int_bool ⟨.int (if k then 1 else 0), H, I.tok _, ⟨_, rfl⟩, q⟩
end
end L2

namespace L2
open PySem PySem.Spec PyProof.Rows

/-! ### an instance, its attributes a map -/
structure ObjM (h : Heap) (x dx C : Addr) (mA : Str → Option Value) : Prop where
  obj : h.get? x = some (PySem.W.instObj C dx)
  ns : h.Ns1 dx mA
  ne : dx ≠ x

section
variable {prog : Program} {w : World} {A : Around} {E : Value → Shared → Prop} {s : Shared} {K : PySem.W.Frag} {x dx C f : Addr} {mA : Str → Option Value} {name : Str} {v : Value}

end

theorem RelO.some_of {v : V} {o : Option Value} (r : RelO (some v) o) : ∃ u, o = some u ∧ RelV v u := by
  cases o with
  | none => exact (show False from r).elim
  | some u => exact ⟨u, rfl, r⟩
section
variable {P : Program} {w : World} {H H' : Hp} {h h' : Heap} {a C dx : Addr} {fs fs' : List (Str × V)}
end

/-! ### what of the text a class must have -/
structure Cls (K : PySem.W.Frag) (C : Addr) : Prop where
  pg : PySem.W.plainGet K C Str.empty = true
  hd : PySem.W.hasDictIn K C = true
  po : PySem.W.plainOver K C = true
  sa : PySem.W.findIn K (.ref C) "__setattr__" = some (some (.builtin "object.__setattr__"))
theorem Cls.get {K : PySem.W.Frag} {C : Addr} (c : Cls K C) (f : Str) : PySem.W.plainGet K C f = true := c.pg
/-- a constant of the class -/
structure Con (K : PySem.W.Frag) (C : Addr) (f : Str) (v : V) (u : Value) : Prop where
  at_ : PySem.W.findIn K (.ref C) f = some (some u)
  rel : RelV v u
  get : PySem.W.specialIn K u "__get__" = some none
  cp : PySem.W.copiedNames.contains f = false
/-- a method: a plain def of the class or of one above it -/
structure Meth (K : PySem.W.Frag) (C : Addr) (m : Str) (f : Addr) : Prop where
  at_ : PySem.W.findIn K (.ref C) m = some (some (.ref f))
  fn : PySem.W.isFn K (.ref f) = true
  kp : PySem.W.keepIn K (.ref f) = true

section
variable {X : Cx} {pins : List (Addr × Obj)} {σ : St} {H : Hp} {s : Shared} {a C dx : Addr} {fs : List (Str × V)} {f : Str} {v : V} {A : Around} {E : Value → Shared → Prop}

/-- a new instance, tracked, without attributes -/
theorem Inv.made (I : Inv X pins σ H s) : Inv X pins σ (upd (upd H s.heap.objs.size (.own (s.heap.objs.size + 1))) (s.heap.objs.size + 1) (.ins C s.heap.objs.size []))
    { s with heap := (s.heap.push PySem.W.emptyDict).push (PySem.W.instObj C s.heap.objs.size) } := by
  have e1 : (s.heap.push PySem.W.emptyDict).get? s.heap.objs.size = some PySem.W.emptyDict := Heap.get?_push_size s.heap rfl
  have e2 : ((s.heap.push PySem.W.emptyDict).push (PySem.W.instObj C s.heap.objs.size)).get? (s.heap.objs.size + 1) = some (PySem.W.instObj C s.heap.objs.size) := by
    have := Heap.get?_push_size (s.heap.push PySem.W.emptyDict) (o := PySem.W.instObj C s.heap.objs.size) rfl
    rwa [Heap.size_push] at this
  have e3 : (s.heap.push PySem.W.emptyDict).Ns s.heap.objs.size (fun _ => none) := ⟨PySem.W.emptyDict, #[], _, e1, rfl, (fun e he => absurd he (by simp)), fun _ => rfl⟩
  have I1 := I.laid (a := s.heap.objs.size) (o := .own (s.heap.objs.size + 1)) (h' := s.heap.push PySem.W.emptyDict) (t' := s.toks) (fun b u q => Heap.get?_push_of_some _ q) (Nat.le_refl _) ⟨_, e1⟩
  refine I1.laid (a := s.heap.objs.size + 1) (o := .ins C s.heap.objs.size []) (t' := s.toks) (fun b u q => Heap.get?_push_of_some _ q) (Nat.le_of_eq (Heap.size_push _ _)) ?_
  have ne : s.heap.objs.size ≠ s.heap.objs.size + 1 := Nat.ne_of_lt (Nat.lt_succ_self _)
  refine ⟨by rw [upd_ne ne, upd_same], Nat.zero_le _, ne, e2, fun _ => none, (Heap.Ns1.of_empty e3).at fun o q => Heap.get?_push_of_some _ q, fun _ => True.intro, fun y hy => absurd rfl hy⟩

end

section
variable {X : Cx} {o e value : Expr} {f : Str} {pos pos' tpos : Pos} {ta tv : TE}
end

/-! ### isinstance -/
section
variable {X : Cx} {pins : List (Addr × Obj)} {σ : St} {H : Hp} {s : Shared} {A : Around} {E : Value → Shared → Prop} {Q : Value → Shared → Prop} {c : Value} {b : Bool}
/-- the type of a value, as the fragment's deciders take it; for an instance its class -/
inductive TyOf (K : PySem.W.Frag) (H : Hp) : V → Value → Prop where
  | non : TyOf K H .non (.type "NoneType")
  | bl (x : Bool) : TyOf K H (.bl x) (.type "bool")
  | int (i : Int) : TyOf K H (.int i) (.type "int")
  | str (x : Str) : TyOf K H (.str x) (.type "str")
  | flt (x : UInt64) : TyOf K H (.flt x) (.type "float")
  | lst {a : Addr} {xs : List V} (e : H a = some (.lst xs)) : TyOf K H (.ref a) (.type "list")
  | frz {a : Addr} {o : Obj} {xs : List V} (e : H a = some (.frz o (.lst xs))) : TyOf K H (.ref a) (.type "list")
  | tup {a : Addr} {xs : List V} (e : H a = some (.tup xs)) : TyOf K H (.ref a) (.type "tuple")
  | dK {a : Addr} {kvs : List (Key × V)} (e : H a = some (.dK kvs)) : TyOf K H (.ref a) (.type "dict")
  | dT {a : Addr} {kvs : List (List Key × V)} (e : H a = some (.dT kvs)) : TyOf K H (.ref a) (.type "dict")
  | ins {a C dx : Addr} {fs : List (Str × V)} (e : H a = some (.ins C dx fs)) (cl : Cls K C) (ha : PySem.W.findIn K (.ref C) "__class__" = some (some (.builtin "object.__class__")))
      (hn : PySem.W.specialIn K (.builtin "object.__class__") "__get__" = some (some (.builtin "getset_descriptor.__get__"))) (htk : PySem.W.takesIn K (.builtin "object.__class__") = some true)
      (hm : PySem.W.mroIn K C (.type "object") = some true) : TyOf K H (.ref a) (.ref C)
end
end L2

namespace L2
open PySem PySem.Spec PyProof.Rows

/-! ### room -/
structure Room (k : Nat) (A : Around) : Prop where
  hd : A.handled = none
  dp : A.depth + 3 * k + 5 < recursionLimit
  un : A.units + 16 * k + 200 < cLine
theorem Room.mono {j k : Nat} {A : Around} (r : Room k A) (h : j ≤ k) : Room j A := ⟨r.hd, by have := r.dp; omega, by have := r.un; omega⟩
theorem Room.deeper {k : Nat} {A : Around} (r : Room (k + 1) A) (env : Env) : Room k (A.deeper env) :=
  ⟨r.hd, by have := r.dp; show A.depth + 1 + 3 * k + 5 < _; omega, by have := r.un; show A.units + 3 + 16 * k + 200 < _; omega⟩
theorem Room.in1 {k : Nat} {A : Around} (r : Room (k + 1) A) : Room k A.in1 :=
  ⟨r.hd, by have := r.dp; show A.depth + 3 * k + 5 < _; omega, by have := r.un; show A.units + 1 + 16 * k + 200 < _; omega⟩
theorem Room.depth {k : Nat} {A : Around} (r : Room k A) : A.depth < recursionLimit := by have := r.dp; omega
theorem Room.units {k : Nat} {A : Around} (r : Room k A) : A.units + 64 < cLine := by have := r.un; omega
/-! ### argument lists and displays -/
noncomputable def tNil : TA := fun _ H Q => Q [] H
noncomputable def tCons (ta : TE) (tr : TA) : TA := fun σ H Q => ta σ H fun x H1 => tr σ H1 fun xs H2 => Q (x :: xs) H2
section
variable {X : Cx} {e : Expr} {es : List Expr} {te : TE} {t : TA} {pos : Pos}
theorem pa_nil : PA X [] tNil := fun _ _ _ _ H Q I h => Calls.spliced_nil ⟨[], H, I, .nil, h⟩
theorem pa_cons (ha : PE X e te) (hr : PA X es t) (hs : starEach (e :: es) X.env = (false, eval e X.env) :: starEach es X.env := by rfl) : PA X (e :: es) (tCons te t) := by
  intro pos pins s σ H Q I h
  rw [hs]
  show wpAny _ _ (spliced ((false, eval e X.env) :: backTo pos (starEach es X.env))) _ _ s
  refine Calls.spliced_cons (thn (ha pins s σ H _ I h) fun u s1 ⟨x, H1, I1, r1, q1⟩ => ?_)
  exact thn (hr pos pins s1 σ H1 _ I1 q1) fun us s2 ⟨xs, H2, I2, r2, q2⟩ => ⟨x :: xs, H2, I2, .cons r1 r2, q2⟩

/-- a tuple, a list of written items -/
noncomputable def tTup (t : TA) : TE := fun σ H Q => t σ H fun xs H1 => xs.length ≤ sizeLine ∧ ∀ p, H1 p = none → Q (.ref p) (upd H1 p (.tup xs))
noncomputable def tLst (t : TA) : TE := fun σ H Q => t σ H fun xs H1 => xs.length ≤ sizeLine ∧ ∀ p, H1 p = none → Q (.ref p) (upd H1 p (.lst xs))
theorem pe_tup {x1} (h : PA X es t) : PE X (.Tuple es x1 pos) (tTup t) := by
  intro pins s σ H Q I hq
  refine wpAny_Tuple_spliced (thn (h pos pins s σ H _ I hq) fun us s1 ⟨xs, H1, I1, r, z, q⟩ => ⟨by rw [← r.length]; exact z, ?_⟩)
  have hf : H1 s1.heap.objs.size = none := I1.hok.fresh (Nat.le_refl _)
  refine ⟨.ref s1.heap.objs.size, upd H1 s1.heap.objs.size (.tup xs), I1.laid (t' := s1.toks) (fun b u e => Heap.get?_push_of_some _ e) (Nat.le_refl _) ?_, rfl, q _ hf⟩
  exact ⟨z, us, r, ⟨_, Heap.get?_push_size _ rfl, rfl, _, rfl⟩⟩
theorem pe_lst (h : PA X es t) : PE X (.List es pos) (tLst t) := by
  intro pins s σ H Q I hq
  refine wpAny_List_spliced (thn (h pos pins s σ H _ I hq) fun us s1 ⟨xs, H1, I1, r, z, q⟩ => ⟨by rw [← r.length]; exact z, ?_⟩)
  have hf : H1 s1.heap.objs.size = none := I1.hok.fresh (Nat.le_refl _)
  refine ⟨.ref s1.heap.objs.size, upd H1 s1.heap.objs.size (.lst xs), I1.laid (t' := s1.toks) (fun b u e => Heap.get?_push_of_some _ e) (Nat.le_refl _) ?_, rfl, q _ hf⟩
  exact ⟨z, us, 0, r, Heap.get?_push_size _ rfl⟩
end

/-! ### what a def promises -/
/-- a def's promise: the bound arguments in the parameters' order, the heap, the wanted end, the wanted exception -/
noncomputable abbrev Sp := List V → Hp → VK → XK → Prop
/-- how an exception lies behind a call (file 08 gives it): the callers' frames, abstract heap and state ahead of the call, the wish, the exception, the state -/
noncomputable abbrev CXT := List Env → Hp → Shared → XK → Value → Shared → Prop

/-- the state at a call -/
structure Env0 (P : Program) (w : World) (K : PySem.W.Frag) (mg : Str → Option Value) (base : Heap) (A : Around) (outer : List Env) (s : Shared) (H : Hp) : Prop where
  frames : A.frames = some outer
  mod : Mod K mg base
  bs : ∀ b o, base.get? b = some o → s.heap.get? b = some o ∧ H b = none
  bsz : base.objs.size ≤ s.heap.objs.size
  funs : s.heap.FunFrames base outer
  frf : ∀ b ∈ frs outer, H b = none
  hok : HOk P w H s.heap
  bare : AllBare s.gens
/-- a call's end -/
noncomputable def CE (outer : List Env) (P : Program) (w : World) (H : Hp) (s : Shared) (Q : VK) (u : Value) (s' : Shared) : Prop :=
  ∃ v H', s'.os = s.os ∧ AllBare s'.gens ∧ Un (frs outer) [] H H' s.heap s'.heap ∧ HOk P w H' s'.heap ∧ RelV v u ∧ Q v H'
noncomputable def CR (CX : CXT) (outer : List Env) (P : Program) (w : World) (H : Hp) (s : Shared) (Q : VK) (E : XK) (r : Result) (s' : Shared) : Prop :=
  match r with
  | .ok (.ret u) => CE outer P w H s Q u s'
  | .ok _ => False
  | .error e => CX outer H s E e s'
structure FnOk (P : Program) (w : World) (K : PySem.W.Frag) (mg : Str → Option Value) (base : Heap) (CX : CXT) (k : Nat) (f : Addr) (fd : FuncData) (ps : List Str) (sp : Sp) : Prop where
  len : ∀ vs H Q E, sp vs H Q E → vs.length = ps.length
  run : ∀ (A : Around) (outer : List Env) (s : Shared) (H : Hp) (args : Args) (us : List Value) (vs : List V) (Q : VK) (E : XK), Room k A → Env0 P w K mg base A outer s H → BindsTo s fd args (ps.zip us) → Vals vs us → sp vs H Q E →
    codeAny (model P w) A (.call (.ref f) args) (CR CX outer P w H s Q E) s
theorem FnOk.mono {P : Program} {w : World} {K : PySem.W.Frag} {mg : Str → Option Value} {base : Heap} {CX : CXT} {j k : Nat} {f : Addr} {fd : FuncData} {ps : List Str} {sp : Sp} (F : FnOk P w K mg base CX j f fd ps sp) (h : j ≤ k) :
    FnOk P w K mg base CX k f fd ps sp := ⟨F.len, fun A outer s H args us vs Q E hr => F.run A outer s H args us vs Q E (hr.mono h)⟩
/-- a weaker promise -/
theorem FnOk.imp {P : Program} {w : World} {K : PySem.W.Frag} {mg : Str → Option Value} {base : Heap} {CX : CXT} {k : Nat} {f : Addr} {fd : FuncData} {ps : List Str} {sp sp' : Sp} (F : FnOk P w K mg base CX k f fd ps sp)
    (h : ∀ vs H Q E, sp' vs H Q E → sp vs H Q E) : FnOk P w K mg base CX k f fd ps sp' :=
  ⟨fun vs H Q E q => F.len vs H Q E (h _ _ _ _ q), fun A outer s H args us vs Q E hr he hb hv hs => F.run A outer s H args us vs Q E hr he hb hv (h _ _ _ _ hs)⟩

theorem Env0.in1 {P : Program} {w : World} {K : PySem.W.Frag} {mg : Str → Option Value} {base : Heap} {A : Around} {outer : List Env} {s : Shared} {H : Hp} (e : Env0 P w K mg base A outer s H) :
    Env0 P w K mg base A.in1 outer s H := ⟨e.frames, e.mod, e.bs, e.bsz, e.funs, e.frf, e.hok, e.bare⟩

section
variable {X : Cx} {pins : List (Addr × Obj)} {σ : St} {H : Hp} {s s' : Shared}
/-- from a body: what a callee wants -/
theorem Inv.env0 (I : Inv X pins σ H s) : Env0 X.prog X.w X.K X.mg X.base X.A X.stack s H :=
  ⟨I.ok.frames, I.ok.mod, I.bs, Nat.le_trans I.ok.bsz I.sz, I.stack, I.stkFree, I.hok, I.bare⟩
/-- behind a call -/
theorem Inv.after {Q : VK} {u : Value} (I : Inv X pins σ H s) (h : CE X.stack X.prog X.w H s Q u s') : EP X pins σ Q u s' := by
  obtain ⟨v, H', os, bare, un, hok, r, q⟩ := h
  obtain ⟨hh, g, d, t, os'⟩ := s'
  obtain rfl : os' = s.os := os
  exact ⟨v, H', I.call (h' := hh) (g' := g) (d' := d) (t' := t) (ch := []) un hok bare (fun b z => absurd z (by simp)), r, q⟩
end

/-! ### calls -/
/-- f(..): the written arguments, then the defaults dvs; E: what is wanted of an exception -/
noncomputable def tCall (sp : Sp) (dvs : List V) (E : XK) (t : TA) : TE := fun σ H Q => t σ H fun vs H1 => sp (vs ++ dvs) H1 Q E
/-- how the parameters are bound: us the positional arguments, kw the keywords' values by name, ds the defaults that fill up -/
noncomputable def Binds (K : PySem.W.Frag) (fd : FuncData) (ps : List Str) (ds : List Value) : Prop :=
  ∀ (s : Shared) (us : List Value), K.In s.heap → (us ++ ds).length = ps.length → BindsTo s fd ⟨us, []⟩ (ps.zip (us ++ ds))
/-- every parameter is given -/
theorem Binds.all {K : PySem.W.Frag} {fd : FuncData} {ps : List Str} (h : ∀ us : List Value, us.length = ps.length → bindArgs fd ⟨us, []⟩ = pure (ps.zip us)) : Binds K fd ps [] := fun s us _ hl => by
  rw [List.append_nil] at hl ⊢
  exact .of_eq (h us hl)

/-- an exception of a callee reaches what this body wants of exceptions -/
noncomputable def Passes (CX : CXT) (X : Cx) (E : XK) : Prop := ∀ (pins : List (Addr × Obj)) (σ : St) (H : Hp) (s : Shared) (e : Value) (s' : Shared), Inv X pins σ H s → CX X.stack H s E e s' → X.xe e s'

section
variable {X : Cx} {CX : CXT} {k : Nat} {f C : Addr} {fd : FuncData} {ps : List Str} {sp : Sp} {dvs : List V} {ds : List Value} {E : XK} {x m : Str} {p pos apos : Pos} {e o : Expr} {es : List Expr} {ta : TE} {t : TA}

/-- the callee runs -/
theorem run_fn {pins : List (Addr × Obj)} {σ : St} {H : Hp} {s : Shared} {Q : VK} {us : List Value} {vs : List V} (F : FnOk X.prog X.w X.K X.mg X.base CX k f fd ps sp) (hr : Room k X.A) (hb : Binds X.K fd ps ds) (hd : Vals dvs ds) (hx : Passes CX X E)
    (I : Inv X pins σ H s) (r : Vals vs us) (h : sp (vs ++ dvs) H Q E) : wpAny (model X.prog X.w) X.A (call (.ref f) us) (EP X pins σ Q) X.xe s := by
  have r2 : Vals (vs ++ dvs) (us ++ ds) := r.append hd
  have hl : (us ++ ds).length = ps.length := by rw [← r2.length]; exact F.len _ _ _ _ h
  refine wpAny_call (codeAny_mono (F.run X.A X.stack s H ⟨us, []⟩ (us ++ ds) (vs ++ dvs) Q E hr I.env0 (hb s us I.kIn hl) r2 h) fun r s' hq => ?_)
  cases r with
  | error e => exact hx pins σ H s e s' I hq
  | ok fl =>
    cases fl with
    | ret u => exact I.after hq
    | next => exact False.elim hq
    | brk => exact False.elim hq
    | cont => exact False.elim hq

theorem pe_call (F : FnOk X.prog X.w X.K X.mg X.base CX k f fd ps sp) (hr : Room k X.A) (hg : Gl X x) (hm : X.mg x = some (.ref f)) (hk : PySem.W.keepIn X.K (.ref f) = true) (hb : Binds X.K fd ps ds) (hd : Vals dvs ds) (hx : Passes CX X E)
    (ha : PA X (e :: es) t) (hdb : (x == ("__debug__" : Str)) = false := by decide) (he : starEach (e :: es) X.env = (false, eval e X.env) :: starEach es X.env := by rfl) (hpl : (backTo pos (starEach es X.env)).any (·.1) = false := by rfl) :
    PE X (.Call (.Name x p) (e :: es) [] pos) (tCall sp dvs E t) := by
  intro pins s σ H Q I h
  refine wpAny_Call_Name_kw (ld_glob I hg hm ?_ hdb)
  refine PySem.W.callWith_K (h₀ := X.base) I.ok.mod.kin hk (thn (ha pos pins s σ H _ I h) fun us s1 ⟨vs, H1, I1, r, q⟩ => ⟨I1.kIn, ?_⟩) he hpl
  exact run_fn F hr hb hd hx I1 r q
/-- what a class must have to be made -/
structure Mk (K : PySem.W.Frag) (C f : Addr) : Prop where
  makes : PySem.W.makesIn K C = true
  init : PySem.W.findIn K (.ref C) "__init__" = some (some (.ref f))
  fn : PySem.W.isFn K (.ref f) = true
  kp : PySem.W.keepIn K (.ref C) = true

end

section
variable {X : Cx} {CX : CXT} {k : Nat} {f C : Addr} {fd : FuncData} {ps ks : List Str} {sp : Sp} {E : XK} {x m : Str} {p pos apos kpos : Pos} {e o : Expr} {es : List Expr} {kws : List Keyword} {te ta : TE} {t tk : TA} {nm : Option Str}
/-- how a call with keywords binds: g puts the positional values us and the keywords' values ws (names ks) in the parameters' order, defaults among them -/
structure KBinds (K : PySem.W.Frag) (fd : FuncData) (ps ks : List Str) (g : List Value → List Value → List Value) (gV : List V → List V → List V) : Prop where
  to : ∀ (s : Shared) (us ws : List Value), K.In s.heap → (g us ws).length = ps.length → BindsTo s fd ⟨us, ks.zip ws⟩ (ps.zip (g us ws))
  rel : ∀ {vs : List V} {us : List Value} {zs : List V} {ws : List Value}, Vals vs us → Vals zs ws → Vals (gV vs zs) (g us ws)
variable {g : List Value → List Value → List Value} {gV : List V → List V → List V}
end

/-! ### a def's body keeps its promise -/
/-- names: the parameters first -/
structure FnScope (N P : List Str) (sc : Scope) : Prop where
  kind : sc.kind = .function
  co : sc.isCoroutine = false
  gen : sc.isGenerator = false
  nd : N.Nodup
  pre : N.take P.length = P
  par : ∀ x ∈ P, sc.names.lookup x = some .local ∨ sc.names.lookup x = some .cell
  nofree : ∀ y ∈ sc.names, y.2 ≠ .free

theorem bindL_out {kindOf : Str → Option NameKind} {x : Str} : ∀ {binds : List (Str × Value)} {m : Str → Option Value}, (∀ v, (x, v) ∉ binds) → bindL kindOf binds m x = m x
  | [], _, _ => rfl
  | (n, v) :: r, m, h => by
    unfold bindL
    rw [bindL_out fun w hw => h w (List.mem_cons_of_mem _ hw)]
    split
    · have : x ≠ n := by rintro rfl; exact h v List.mem_cons_self
      simp [this]
    · rfl
theorem bindC_out {kindOf : Str → Option NameKind} {x : Str} : ∀ {binds : List (Str × Value)} {m : Str → Option Value}, (∀ v, (x, v) ∉ binds) → bindC kindOf binds m x = m x
  | [], _, _ => rfl
  | (n, v) :: r, m, h => by
    unfold bindC
    rw [bindC_out fun w hw => h w (List.mem_cons_of_mem _ hw)]
    split
    · rfl
    · have : x ≠ n := by rintro rfl; exact h v List.mem_cons_self
      simp [this]
theorem bindL_get {kindOf : Str → Option NameKind} {x : Str} {v : Value} : ∀ {P : List Str} {vs : List Value} {i : Nat} {m : Str → Option Value}, P.Nodup → P[i]? = some x → vs[i]? = some v → kindOf x = some .local →
    bindL kindOf (P.zip vs) m x = some v
  | [], _, _, _, _, h, _, _ => by simp at h
  | _ :: _, [], _, _, _, _, h, _ => by simp at h
  | p :: P, w :: vs, 0, m, nd, h1, h2, hk => by
    simp at h1 h2; subst h1; subst h2
    show bindL kindOf ((p, w) :: P.zip vs) m p = _
    unfold bindL
    rw [bindL_out fun v hv => (List.nodup_cons.mp nd).1 (List.of_mem_zip hv).1, if_pos hk]
    simp
  | p :: P, w :: vs, i + 1, m, nd, h1, h2, hk => by
    show bindL kindOf ((p, w) :: P.zip vs) m x = _
    unfold bindL
    exact bindL_get (i := i) (List.nodup_cons.mp nd).2 (by simpa using h1) (by simpa using h2) hk
theorem bindC_get {kindOf : Str → Option NameKind} {x : Str} {v : Value} : ∀ {P : List Str} {vs : List Value} {i : Nat} {m : Str → Option Value}, P.Nodup → P[i]? = some x → vs[i]? = some v → kindOf x ≠ some .local →
    bindC kindOf (P.zip vs) m x = some v
  | [], _, _, _, _, h, _, _ => by simp at h
  | _ :: _, [], _, _, _, _, h, _ => by simp at h
  | p :: P, w :: vs, 0, m, nd, h1, h2, hk => by
    simp at h1 h2; subst h1; subst h2
    show bindC kindOf ((p, w) :: P.zip vs) m p = _
    unfold bindC
    rw [bindC_out fun v hv => (List.nodup_cons.mp nd).1 (List.of_mem_zip hv).1, if_neg hk]
    simp
  | p :: P, w :: vs, i + 1, m, nd, h1, h2, hk => by
    show bindC kindOf ((p, w) :: P.zip vs) m x = _
    unfold bindC
    exact bindC_get (i := i) (List.nodup_cons.mp nd).2 (by simpa using h1) (by simpa using h2) hk

/-- the names' values at the entry -/
noncomputable def start (N : List Str) (vs : List V) : St := vs.map some ++ List.replicate (N.length - vs.length) none

/-- the context of a def's body, at its entry; an exception leaves the frame, then lies as CX says -/
noncomputable def cxOf (CX : CXT) (P : Program) (w : World) (K : PySem.W.Frag) (mg : Str → Option Value) (base : Heap) (N : List Str) (qual : Str) (scope : Scope) (f : Addr) (cd : Value) (A : Around) (outer : List Env) (s : Shared) (H : Hp) (E : XK) : Cx where
  prog := P
  w := w
  K := K
  mg := mg
  base := base
  A := A.deeper (envOfC qual scope s.heap.objs.size f cd)
  N := N
  s₀ := s
  H₀ := H
  env := envOfC qual scope s.heap.objs.size f cd
  outer := outer
  stack := envOfC qual scope s.heap.objs.size f cd :: outer
  ex := []
  calm := true
  fn := fun _ => true
  pn := []
  xe := fun e s' => wpAny (model P w) (A.deeper (envOfC qual scope s.heap.objs.size f cd)) (leaving (envOfC qual scope s.heap.objs.size f cd) e) (fun _ s'' => CX outer H s E e s'') (fun e' s'' => CX outer H s E e' s'') s'

theorem cell_has {sc : Scope} {n : Nat} {x : Str} (h : sc.names.lookup x = some .cell) : ∃ c, (cellsFrom n sc.names []).lookup x = some c := by
  have q := PySem.W.cellsFrom_some sc.names n [] (.inl h)
  exact Option.isSome_iff_exists.mp q

theorem inv_start {CX : CXT} {P : Program} {w : World} {K : PySem.W.Frag} {mg : Str → Option Value} {base : Heap} {N ps : List Str} {qual : Str} {scope : Scope} {f : Addr} {cd : Value} {A : Around} {outer : List Env} {s s1 : Shared} {H : Hp} {E : XK} {us : List Value} {vs : List V}
    (S : FnScope N ps scope) (hd : A.handled = none) (e0 : Env0 P w K mg base A outer s H) (hl : vs.length = ps.length) (r : Vals vs us)
    (x : InCallC s s.heap.objs.size (bindL (envOfC qual scope s.heap.objs.size f cd).kindOf (ps.zip us) fun _ => none) (cellsFrom (s.heap.objs.size + 1) scope.names []) (bindC (envOfC qual scope s.heap.objs.size f cd).kindOf (ps.zip us) fun _ => none) s1) :
    Inv (cxOf CX P w K mg base N qual scope f cd A outer s H E) [] (start N vs) H s1 := by
  have hpl : ps.length ≤ N.length := by have := congrArg List.length S.pre; rw [List.length_take] at this; omega
  obtain ⟨h1, tk, rfl, hk⟩ := x.done
  have noA : ∀ b : Addr, b ∉ (cxOf CX P w K mg base N qual scope f cd A outer s H E).ex := fun b z => absurd (show b ∈ ([] : List Addr) from z) (by simp)
  refine ⟨⟨e0.mod, S.kind, rfl, rfl, Nat.le_refl _, fun y z c h1 h2 => ?_, fun y hy => ?_, fun y c _ h => ?_, fun _ => hd, Around.frames_deeper e0.frames, .inr ⟨rfl, rfl⟩, fun b z => absurd z (noA b), e0.bs, e0.bsz, fun b _ _ => noA b, fun b z => absurd z (noA b), e0.funs, e0.frf⟩,
    rfl, e0.bare, Un.kept hk, ⟨_, x.toInCall.ns, fun i y v h1 h2 h3 => ?_⟩, fun y c h => ⟨_, x.cell y c h⟩, e0.hok.fresh (Nat.le_refl _), fun y c h => ?_, fun p hp => absurd (show p ∈ ([] : List (Addr × Obj)) from hp) (by simp), e0.hok.kept hk, ?_⟩
  · exact name_of_addr x.apart (PySem.mem_of_lookup h1) (PySem.mem_of_lookup h2)
  · have hy : scope.names.lookup y = some .cell ∨ scope.names.lookup y = some .free := hy
    rcases hy with hy | hy
    · exact cell_has hy
    · exact absurd rfl (S.nofree _ (PySem.mem_of_lookup hy))
  · exact Nat.le_of_lt (x.above y c (PySem.mem_of_lookup h))
  · have hi : i < vs.length := by
      unfold start at h2
      by_cases hi : i < vs.length
      · exact hi
      · rw [List.getElem?_append_right (by simpa using hi)] at h2
        rw [List.getElem?_replicate] at h2
        split at h2 <;> cases h2
    have ha : vs[i]? = some v := by
      unfold start at h2
      rw [List.getElem?_append_left (by simpa using hi), List.getElem?_map] at h2
      cases e : vs[i]? with
      | none => rw [e] at h2; cases h2
      | some a => rw [e] at h2; cases h2; rfl
    obtain ⟨u, hu, rv⟩ := r.get ha
    have hp : ps[i]? = some y := by
      rw [← S.pre, List.getElem?_take_of_lt (by omega)]; exact h1
    have ndP : ps.Nodup := by rw [← S.pre]; exact S.nd.sublist (List.take_sublist _ _)
    refine ⟨u, rv, ?_⟩
    rcases S.par y (List.mem_of_getElem? hp) with k | k
    · exact .inl ⟨k, bindL_get ndP hp hu k⟩
    · obtain ⟨c, e⟩ := cell_has (n := s.heap.objs.size + 1) k
      refine .inr ⟨.inl k, c, e, ?_⟩
      have q := x.cell y c e
      rw [bindC_get ndP hp hu (by show scope.names.lookup y ≠ _; rw [k]; decide)] at q
      exact q
  · exact e0.hok.fresh (Nat.le_of_lt (x.above y c (PySem.mem_of_lookup h)))
  · unfold start
    show _ = N.length
    rw [List.length_append, List.length_map, List.length_replicate]
    omega

/-- THE RULE: a def (or a method) of the text, by its body. The body's reading t is chosen for each entry; it is run at the parameters' values -/
theorem fn_of {CX : CXT} {P : Program} {w : World} {K : PySem.W.Frag} {mg : Str → Option Value} {base : Heap} {k : Nat} {f : Addr} {name qual : Str} {params : Arguments} {body : List Stmt} {scope : Scope} {dV kV doc pm cdv ct oc : Value} {an od : Option Addr}
    {osl : Array (Option Value)} {N ps : List Str} {sp : Sp} (lk : K.lookup f = some ⟨oc, od, .func (PySem.W.fnOf name qual params body scope dV kV doc pm an cdv ct), osl⟩) (hcd : PySem.W.codeIn K cdv qual = true) (S : FnScope N ps scope)
    (len : ∀ vs H Q E, sp vs H Q E → vs.length = ps.length)
    (hbody : ∀ (A : Around) (outer : List Env) (s : Shared) (H : Hp) (vs : List V) (Q : VK) (E : XK), Room k (A.deeper (envOfC qual scope s.heap.objs.size f cdv)) → sp vs H Q E →
      ∃ t, PSs (cxOf CX P w K mg base N qual scope f cdv A outer s H E) body t ∧ t { nx := fun _ H' => Q .non H', rt := Q } (start N vs) H) :
    FnOk P w K mg base CX (k + 1) f (PySem.W.fnOf name qual params body scope dV kV doc pm an cdv ct) ps sp := by
  refine ⟨len, fun A outer s H args us vs Q E hr e0 hb r hsp => ?_⟩
  have hl := len _ _ _ _ hsp
  have KX : K.In s.heap := e0.mod.kin.keeps fun b o e => (e0.bs b o e).1
  have lim : s.heap.NoLimit := e0.mod.nolimit.keeps fun b o e => (e0.bs b o e).1
  have hkind : ∀ y ∈ ps.zip us, scope.names.lookup y.1 = some .local ∨ (scope.names.lookup y.1 = some .cell ∧ ((cellsFrom (s.heap.objs.size + 1) scope.names []).lookup y.1).isSome = true) := fun ⟨n, v⟩ hy => by
    rcases S.par n (List.of_mem_zip hy).1 with q | q
    · exact .inl q
    · exact .inr ⟨q, PySem.W.cellsFrom_some _ _ _ (.inl q)⟩
  refine codeAny_call_function hr.depth (KX _ _ lk) rfl S.co S.gen rfl (PySem.W.codeRec_of KX hcd) (hb _ _ _ _ ?_)
  refine wpAny_newFunctionEnv_cells S.kind hkind fun env he s1 x => ?_
  subst he
  refine ⟨lim.keeps x.toInCall.keep, codeAny_func ?_⟩
  obtain ⟨t, ht, hq⟩ := hbody A outer s H vs Q E (hr.deeper _) hsp
  have I : Inv (cxOf CX P w K mg base N qual scope f cdv A outer s H E) [] (start N vs) H s1 := inv_start S hr.hd e0 hl r x
  refine wpAny_mono (ht [] s1 (start N vs) H _ I hq) (fun fl s' hs => ?_) fun e s' hs => hs
  have fin : ∀ {σ' : St} {H' : Hp} {v : V} {u : Value}, Inv (cxOf CX P w K mg base N qual scope f cdv A outer s H E) [] σ' H' s' → RelV v u → Q v H' → CE outer P w H s Q u s' :=
    fun {σ' H' v u} J rv q => ⟨v, H', J.os, J.bare, J.base, J.hok, rv, q⟩
  cases fl with
  | ret u =>
    obtain ⟨v, σ', H', J, rv, q⟩ := hs
    exact fin J rv q
  | next =>
    obtain ⟨σ', H', J, q⟩ := hs
    exact fin (v := V.non) (u := Value.none) J rfl q
  | brk =>
    obtain ⟨_, _, _, q⟩ := hs
    exact False.elim q
  | cont =>
    obtain ⟨_, _, _, q⟩ := hs
    exact False.elim q
end L2

namespace L2
open PySem PySem.Spec PyProof.Rows
section
variable {X : Cx} {x : Str} {p pos : Pos} {e : Expr} {es : List Expr} {t : TA} {id T : String} {r : List V → Hp → VK → Prop}

noncomputable def tCB (r : List V → Hp → VK → Prop) (t : TA) : TE := fun σ H Q => t σ H fun vs H1 => r vs H1 Q
/-- f(e, ..), f a built-in function -/
theorem pe_callB (hc : CallR X (.builtin id) r) (hg : Gl X x) (hm : X.mg x = none) (hv : bootBuiltins x = some (.builtin id)) (ha : PA X (e :: es) t) (hn : x ≠ "__name__" := by decide) (hdb : (x == ("__debug__" : Str)) = false := by decide)
    (he : starEach (e :: es) X.env = (false, eval e X.env) :: starEach es X.env := by rfl) (hpl : (backTo pos (starEach es X.env)).any (·.1) = false := by rfl) : PE X (.Call (.Name x p) (e :: es) [] pos) (tCB r t) := by
  intro pins s σ H Q I h
  refine wpAny_Call_Name_kw (ld_blt I hg hm hv ?_ hn hdb)
  exact PyProof.Rows.callWith_builtin1 (thn (ha pos pins s σ H _ I h) fun us s1 ⟨vs, H1, I1, r1, q1⟩ => hc pins s1 σ H1 vs us Q I1 r1 q1) he hpl
/-- T(e, ..), T a built-in type -/
theorem pe_callTy (hc : CallR X (.type T) r) (hg : Gl X x) (hm : X.mg x = none) (hv : bootBuiltins x = some (.type T)) (ha : PA X (e :: es) t) (hn : x ≠ "__name__" := by decide) (hdb : (x == ("__debug__" : Str)) = false := by decide)
    (he : starEach (e :: es) X.env = (false, eval e X.env) :: starEach es X.env := by rfl) (hpl : (backTo pos (starEach es X.env)).any (·.1) = false := by rfl) : PE X (.Call (.Name x p) (e :: es) [] pos) (tCB r t) := by
  intro pins s σ H Q I h
  refine wpAny_Call_Name_kw (ld_blt I hg hm hv ?_ hn hdb)
  exact PyProof.Rows.callWith_type1 (thn (ha pos pins s σ H _ I h) fun us s1 ⟨vs, H1, I1, r1, q1⟩ => hc pins s1 σ H1 vs us Q I1 r1 q1) he hpl
end
end L2

namespace HT
open PySem PyProof.Rows

section
open PySem.SeqAt
open PySem.AutoSeq1 (wpAny_loadPart')
open PySem.MeetsSeq PySem.MeetsSeq2 PySem.MeetsSeq3

end

section
variable {prog : Program} {w : World} {A : Around} {E : Value → Shared → Prop} {s : Shared}

/-- t + u, t not empty -/
theorem cat_tup {t b : Addr} {vs ws : List Value} {Q : Value → Shared → Prop} (ht : IsTup s.heap t vs.toArray) (hb : IsTup s.heap b ws.toArray) (hv : vs ≠ [])
    (h1 : ws = [] → Q (.ref t) s) (h2 : ws ≠ [] → Q (.ref s.heap.objs.size) { s with heap := s.heap.push { cls := .type "tuple", data := .seq (vs ++ ws).toArray } })
    (hsz : vs.length + ws.length ≤ sizeLine) : wpAny (model prog w) A (binaryOp .Add (.ref t) (.ref b)) Q E s := by
  obtain ⟨⟨cls, dd, data, sl⟩, ho, hc, n, hd⟩ := id ht
  obtain ⟨⟨cls2, dd2, data2, sl2⟩, ho2, hc2, n2, hd2⟩ := id hb
  simp only at hc hd hc2 hd2
  subst hc hd hc2 hd2
  have e : vs.toArray ++ ws.toArray = (vs ++ ws).toArray := by simp
  by_cases hw : ws = []
  · exact concat_meets ⟨_, ho, rfl⟩ ⟨_, ho2, rfl⟩ noFill_tuple_add seq_tuple_add PySem.F.slot_tuple_add PySem.F.entry_tuple_add (PySem.F.args_tuple_add_2 _ _)
      (tuple_addW1 t b vs.toArray ws.toArray n n2 dd dd2 sl sl2 (by simpa using hv) (by simp [hw])) ⟨ho, ho2, h1 hw⟩
  · refine concat_meets ⟨_, ho, rfl⟩ ⟨_, ho2, rfl⟩ noFill_tuple_add seq_tuple_add PySem.F.slot_tuple_add PySem.F.entry_tuple_add (PySem.F.args_tuple_add_2 _ _)
      (tuple_addW2 t b vs.toArray ws.toArray n n2 dd dd2 sl sl2 (by simpa using hv) (by simpa using hw) (by rw [List.size_toArray, List.size_toArray]; exact hsz)) ⟨ho, ho2, ?_⟩
    rw [e]
    exact h2 hw

end
end HT

namespace L2
open PySem PySem.Spec PyProof.Rows

/-! ### the parts of a slice -/
noncomputable abbrev TO := St → Hp → (Option Int → Hp → Prop) → Prop
theorem intsAre_of {ns : List Int} : ∀ {us : List Value}, Vals (ns.map V.int) us → IntsAre us ns := by
  induction ns with
  | nil => intro us r; rw [List.map_nil] at r; cases r; exact .nil
  | cons n ns ih =>
    intro us r
    rw [List.map_cons] at r
    cases r with
    | cons r1 r2 =>
      obtain ⟨t, e⟩ := r1
      subst e
      exact .cons n t (ih r2)

section
variable {X : Cx} {e : Expr} {te : TE} {lo hi : Option Expr} {tl th : TO} {pos p2 : Pos}

/-- what a slice of a value is, by values: the slice object stands at sl -/
noncomputable def SlR (X : Cx) (r : V → Option Int → Option Int → Hp → VK → Prop) : Prop :=
  ∀ (pins : List (Addr × Obj)) (s : Shared) (σ : St) (H : Hp) (x : V) (v vl vu : Value) (lo hi : Option Int) (sl : Addr) (Q : VK), Inv X pins σ H s → RelV x v → s.heap.IsSliceOf sl vl vu .none → IsPart vl lo → IsPart vu hi → r x lo hi H Q →
    ∃ T id, typeLookup (.type T) "__getitem__" = pure (some (.builtin id)) ∧ s.TypeIs v T ∧ wpAny (model X.prog X.w) X.A (getItem v (.ref sl)) (EP X pins σ Q) X.xe s
theorem SlR.or {r r' : V → Option Int → Option Int → Hp → VK → Prop} (h : SlR X r) (h' : SlR X r') : SlR X (fun x lo hi H Q => r x lo hi H Q ∨ r' x lo hi H Q) := by
  intro pins s σ H x v vl vu lo hi sl Q I rx hs pl pu q
  rcases q with q | q
  · exact h pins s σ H x v vl vu lo hi sl Q I rx hs pl pu q
  · exact h' pins s σ H x v vl vu lo hi sl Q I rx hs pl pu q
/-- t + u, t not empty: u empty gives t itself -/
noncomputable def rCatT (K : PySem.W.Frag) : R2 := fun x y H Q => ∃ a b xs ys, x = .ref a ∧ y = .ref b ∧ SqT K H a xs ∧ SqT K H b ys ∧ xs ≠ [] ∧ xs.length + ys.length ≤ sizeLine ∧
  (ys = [] → Q (.ref a) H) ∧ (ys ≠ [] → ∀ p, H p = none → Q (.ref p) (upd H p (.tup (xs ++ ys))))
theorem Vals.nil_iff {xs : List V} {us : List Value} (r : Vals xs us) : us = [] ↔ xs = [] := by
  cases r with
  | nil => simp
  | cons _ _ => simp
theorem op_catT : OpR X (binaryOp .Add) (rCatT X.K) := by
  intro pins s σ H x y v u Q I rx ry h
  obtain ⟨a, b, xs, ys, rfl, rfl, ha, hb, hx, hz, q1, q2⟩ := h
  cases rx
  cases ry
  obtain ⟨its, r1, p1, _⟩ := I.tuple ha
  obtain ⟨its2, r2, p2, _⟩ := I.tuple hb
  refine HT.cat_tup p1 p2 (fun z => hx (r1.nil_iff.mp z)) (fun z => ⟨.ref a, H, I, rfl, q1 (r2.nil_iff.mp z)⟩) (fun z => ?_) (by rw [← r1.length, ← r2.length]; exact hz)
  refine ⟨.ref s.heap.objs.size, _, I.laid (t' := s.toks) (o := .tup (xs ++ ys)) (fun b ob q => Heap.get?_push_of_some _ q) (Nat.le_refl _) ?_, rfl, q2 (fun w => z (r2.nil_iff.mpr w)) _ (I.hok.fresh (Nat.le_refl _))⟩
  exact ⟨by rw [List.length_append]; exact hz, _, r1.append r2, IsTup.new _ _⟩
end
end L2

namespace L2
open PySem PySem.Spec PyProof.Rows

/-! ### places -/
/-- the place that an index of any sign means -/
noncomputable def ixN (n : Nat) (i : Int) : Option Nat := if 0 ≤ i then (if i < n then some i.toNat else none) else if -(n : Int) ≤ i then some (i + n).toNat else none
noncomputable def atI {α : Type} (xs : List α) (i : Int) : Option α := (ixN xs.length i).bind fun j => xs[j]?
theorem ixN_seq {n : Nat} {i : Int} {j : Nat} (h : ixN n i = some j) : seqIndex? i n = some j ∧ j < n ∧ -(n : Int) ≤ i ∧ i < n := by
  unfold ixN at h
  by_cases h0 : 0 ≤ i
  · rw [if_pos h0] at h
    by_cases h1 : i < n
    · rw [if_pos h1] at h
      have e : i.toNat = j := Option.some.inj h
      exact ⟨by rw [seqIndex_of h0 h1, e], by omega, by omega, h1⟩
    · rw [if_neg h1] at h; cases h
  · rw [if_neg h0] at h
    by_cases h1 : -(n : Int) ≤ i
    · rw [if_pos h1] at h
      have e : (i + n).toNat = j := Option.some.inj h
      exact ⟨by rw [seqIndex_neg (by omega) h1, e], by omega, h1, by omega⟩
    · rw [if_neg h1] at h; cases h
theorem atI_get {α : Type} {xs : List α} {i : Int} {v : α} (h : atI xs i = some v) : ∃ j, seqIndex? i xs.length = some j ∧ xs[j]? = some v ∧ j < xs.length ∧ -(xs.length : Int) ≤ i ∧ i < xs.length := by
  unfold atI at h
  cases e : ixN xs.length i with
  | none => rw [e] at h; cases h
  | some j =>
    rw [e] at h
    obtain ⟨h1, h2, h3, h4⟩ := ixN_seq e
    exact ⟨j, h1, h, h2, h3, h4⟩
/-! ### what may be subscripted -/
/-- what stands as an index of a plain subscript -/
noncomputable def PlainIx (b : Expr) : Prop := ∀ o i, subscripted b false o i = operate [o, i] (getItem o i)
/-- a subscript by values -/
noncomputable def IxR (X : Cx) (r : R2) : Prop :=
  ∀ (value slice : Expr) (pins : List (Addr × Obj)) (s : Shared) (σ : St) (H : Hp) (x y : V) (v u : Value) (Q : VK), Inv X pins σ H s → RelV x v → RelV y u → r x y H Q →
    subscripted slice false v u = operate [v, u] (getItem v u) → wpAny (model X.prog X.w) X.A (subscriptTail value slice v u) (EP X pins σ Q) X.xe s
/-- a call of a builtin's method by values: the receiver, the arguments -/
noncomputable def MtR (X : Cx) (id : String) (r : V → List V → Hp → VK → Prop) : Prop :=
  ∀ (pins : List (Addr × Obj)) (s : Shared) (σ : St) (H : Hp) (x : V) (xs : List V) (v : Value) (us : List Value) (Q : VK), Inv X pins σ H s → RelV x v → Vals xs us → r x xs H Q →
    wpAny (model X.prog X.w) X.A (call (.builtin id) (v :: us)) (EP X pins σ Q) X.xe s
section
variable {X : Cx} {a b : Expr} {ta tb : TE} {pos : Pos}
theorem IxR.or {r r' : R2} (h : IxR X r) (h' : IxR X r') : IxR X (fun x y H Q => r x y H Q ∨ r' x y H Q) := by
  intro value slice pins s σ H x y v u Q I rx ry q hs
  rcases q with q | q
  · exact h value slice pins s σ H x y v u Q I rx ry q hs
  · exact h' value slice pins s σ H x y v u Q I rx ry q hs
theorem MtR.or {id : String} {r r' : V → List V → Hp → VK → Prop} (h : MtR X id r) (h' : MtR X id r') : MtR X id (fun x xs H Q => r x xs H Q ∨ r' x xs H Q) := by
  intro pins s σ H x xs v us Q I rx rs q
  rcases q with q | q
  · exact h pins s σ H x xs v us Q I rx rs q
  · exact h' pins s σ H x xs v us Q I rx rs q
/-- a[b] -/
theorem pe_ix {r : R2} (hr : IxR X r) (ha : PE X a ta) (hb : PE X b tb) (hs : PlainIx b) : PE X (.Subscript a b pos) (tOp r ta tb) := by
  intro pins s σ H Q I h
  exact Subscript_ (binT ha hb I h fun v u s2 x y H2 I2 rx ry q => hr a b pins s2 σ H2 x y v u Q I2 rx ry q (hs _ _))

noncomputable def rIxL (K : PySem.W.Frag) : R2 := fun x y H Q => ∃ p xs i v, x = .ref p ∧ y = .int i ∧ SqL K H p xs ∧ atI xs i = some v ∧ Q v H
noncomputable def rIxT (K : PySem.W.Frag) : R2 := fun x y H Q => ∃ p xs i v, x = .ref p ∧ y = .int i ∧ SqT K H p xs ∧ atI xs i = some v ∧ Q v H
theorem ix_list : IxR X (rIxL X.K) := by
  intro value slice pins s σ H x y v u Q I rx ry h hs
  obtain ⟨p, xs, i, z, rfl, rfl, hq, he, q⟩ := h
  cases rx
  obtain ⟨t, rfl⟩ := ry
  obtain ⟨its, r, pl, hz⟩ := I.list hq
  obtain ⟨j, h1, h2, h3, h4, h5⟩ := atI_get he
  obtain ⟨w, ew, rw'⟩ := r.get h2
  have hl := r.length
  have hn := line63
  have fin : EP X pins σ Q w s := ⟨z, H, I, rw', q⟩
  by_cases h0 : 0 ≤ i
  · have hj : i.toNat = j := by
      rw [seqIndex_of h0 h5] at h1
      exact Option.some.inj h1
    exact item_listR pl.isList h0 (by omega) (by rw [hj]; simpa using ew) fin hs
  · have hj : (i + (its.toArray.size : Int)).toNat = j := by
      rw [seqIndex_neg (by omega) h4] at h1
      rw [List.size_toArray, ← hl]
      exact Option.some.inj h1
    exact subscriptTail_builtinR (x := w) pl.isList.typeIs slot_list_getitem.lookup
      (wpAny_getItem_list_neg (Q := fun r s' => r = w ∧ EP X pins σ Q r s') pl.isList (by omega) (by rw [List.size_toArray] <;> omega) (by omega) (by rw [hj]; simpa using ew) ⟨rfl, fin⟩) hs
theorem ix_tup : IxR X (rIxT X.K) := by
  intro value slice pins s σ H x y v u Q I rx ry h hs
  obtain ⟨p, xs, i, z, rfl, rfl, hq, he, q⟩ := h
  cases rx
  obtain ⟨t, rfl⟩ := ry
  obtain ⟨its, r, pl, hz⟩ := I.tuple hq
  obtain ⟨j, h1, h2, h3, h4, h5⟩ := atI_get he
  obtain ⟨w, ew, rw'⟩ := r.get h2
  have hl := r.length
  have hn := line63
  have fin : EP X pins σ Q w s := ⟨z, H, I, rw', q⟩
  exact subscriptTail_builtinR (x := w) pl.typeIs slot_tuple_getitem.lookup
    (getItem_tuple (j := j) (Q := fun r s' => r = w ∧ EP X pins σ Q r s') pl (by omega) (by omega) (by rw [List.size_toArray, ← hl]; exact h1) (by simpa using ew) ⟨rfl, fin⟩) hs
/-! ### xs[i] = v, any sign -/
/-- the list's object behind a store -/
theorem mapSeq_set (its : List Value) (n j : Nat) (u : Value) : Obj.mapSeq (·.setIfInBounds j u) { cls := .type "list", data := .seq its.toArray n } = { cls := .type "list", data := .seq (its.set j u).toArray n } := by
  simp [Obj.mapSeq]
theorem Inv.lst {pins : List (Addr × Obj)} {σ : St} {H : Hp} {s : Shared} {p : Addr} {xs : List V} (I : Inv X pins σ H s) (h : H p = some (.lst xs)) :
    ∃ (its : List Value) (n : Nat), Vals xs its ∧ s.heap.get? p = some { cls := .type "list", data := .seq its.toArray n } ∧ xs.length ≤ sizeLine := by
  obtain ⟨z, its, n, r, e⟩ := I.hok p _ h
  exact ⟨its, n, r, e, z⟩
/-- the list at p is written by an update of its object -/
theorem Inv.lstUpd {pins : List (Addr × Obj)} {σ : St} {H : Hp} {s : Shared} {p : Addr} {xs ys : List V} {its its' : List Value} {n n' : Nat} {f : Obj → Obj} (I : Inv X pins σ H s) (h : H p = some (.lst xs))
    (ho : s.heap.get? p = some { cls := .type "list", data := .seq its.toArray n }) (hf : f { cls := .type "list", data := .seq its.toArray n } = { cls := .type "list", data := .seq its'.toArray n' }) (r : Vals ys its') (hz : ys.length ≤ sizeLine) (t : Nat) :
    Inv X pins σ (upd H p (.lst ys)) { s with heap := s.heap.update p f, toks := t } := by
  have e : (s.heap.update p f).get? p = some { cls := .type "list", data := .seq its'.toArray n' } := by
    rw [Heap.get?_update_self f ho (by rw [hf] <;> rfl), hf]
  refine I.write (x := p) (e := p) (by rw [h]; trivial) (.inl rfl) (fun b u hb q => (Heap.get?_update_other _ _ (Ne.symm hb)).trans q) ⟨_, e⟩ ?_
  exact ⟨hz, its', n', r, e⟩
noncomputable def rSetL : V → V → V → Hp → (Hp → Prop) → Prop := fun o i v H Q => ∃ p xs k j, o = .ref p ∧ i = .int k ∧ H p = some (.lst xs) ∧ ixN xs.length k = some j ∧ Q (upd H p (.lst (xs.set j v)))
theorem set_list : PSet X rSetL := by
  intro pins s σ H o i v ov iv u Q I ro ri rv h
  obtain ⟨p, xs, k, j, rfl, rfl, hp, hj, q⟩ := h
  cases ro
  obtain ⟨t, rfl⟩ := ri
  obtain ⟨its, n, r, ho, hz⟩ := I.lst hp
  obtain ⟨h1, h2, h3, h4⟩ := ixN_seq hj
  have hl := r.length
  have hn := line63
  have I' : Inv X pins σ (upd H p (.lst (xs.set j v))) { s with heap := s.heap.update p (Obj.mapSeq (·.setIfInBounds j u)) } :=
    I.lstUpd hp ho (mapSeq_set its n j u) (r.set rv j) (by rw [List.length_set]; exact hz) s.toks
  by_cases h0 : 0 ≤ k
  · have hk : k.toNat = j := by
      rw [seqIndex_of h0 h4] at h1
      exact Option.some.inj h1
    exact PySem.W.ki_setAt ho h0 (by omega) (by rw [List.size_toArray, ← hl]; exact h4) (by rw [hk]; exact ⟨_, I', q⟩)
  · have hk : (k + (its.toArray.size : Int)).toNat = j := by
      rw [seqIndex_neg (by omega) h3] at h1
      rw [List.size_toArray, ← hl]
      exact Option.some.inj h1
    exact PySem.W.ki_setBack ho (by omega) (by rw [List.size_toArray, ← hl]; exact h3) (by omega) (by rw [hk]; exact ⟨_, I', q⟩)

/-! ### in, not in: flat items -/
noncomputable def flatV : V → Bool
  | .non => true
  | .bl _ => true
  | .int _ => true
  | .str _ => true
  | _ => false
/-- == of flat values -/
noncomputable def eqV : V → V → Bool
  | .non, .non => true
  | .bl a, .bl b => a == b
  | .bl a, .int b => (if a then 1 else 0) == b
  | .int a, .bl b => a == (if b then 1 else 0)
  | .int a, .int b => a == b
  | .str a, .str b => a == b
  | _, _ => false
theorem eqAt_V {A : Around} {s : Shared} {y x : V} {u v : Value} (ry : RelV y u) (rx : RelV x v) (fy : flatV y = true) (fx : flatV x = true) : SeqAt.EqAt A s u v (eqV y x) := by
  cases y with
  | non =>
    cases ry
    cases x with
    | non => cases rx; exact SeqAt.EqAt.same _
    | bl b => cases rx; exact SeqAt.EqAt.none_bool b
    | int b => obtain ⟨t, rfl⟩ := rx; exact SeqAt.EqAt.none_int b t
    | str b => obtain ⟨t, rfl⟩ := rx; exact SeqAt.EqAt.none_str b t
    | _ => exact absurd (show false = true from fx) Bool.false_ne_true
  | bl a =>
    cases ry
    cases x with
    | non => cases rx; exact SeqAt.EqAt.bool_none a
    | bl b => cases rx; exact SeqAt.EqAt.bool_bool a b
    | int b => obtain ⟨t, rfl⟩ := rx; exact SeqAt.EqAt.bool_int a b t
    | str b => obtain ⟨t, rfl⟩ := rx; exact SeqAt.EqAt.bool_str a b t
    | _ => exact absurd (show false = true from fx) Bool.false_ne_true
  | int a =>
    obtain ⟨t', rfl⟩ := ry
    cases x with
    | non => cases rx; exact SeqAt.EqAt.int_none a t'
    | bl b => cases rx; exact SeqAt.EqAt.int_bool a t' b
    | int b => obtain ⟨t, rfl⟩ := rx; exact SeqAt.EqAt.int_int a t' b t
    | str b => obtain ⟨t, rfl⟩ := rx; exact SeqAt.EqAt.int_str a t' b t
    | _ => exact absurd (show false = true from fx) Bool.false_ne_true
  | str a =>
    obtain ⟨t', rfl⟩ := ry
    cases x with
    | non => cases rx; exact SeqAt.EqAt.str_none a t'
    | bl b => cases rx; exact SeqAt.EqAt.str_bool a t' b
    | int b => obtain ⟨t, rfl⟩ := rx; exact SeqAt.EqAt.str_int a t' b t
    | str b => obtain ⟨t, rfl⟩ := rx; exact SeqAt.EqAt.str_str a t' b t
    | _ => exact absurd (show false = true from fx) Bool.false_ne_true
  | _ => exact absurd (show false = true from fy) Bool.false_ne_true
/-- the items' answers, read off the values (a value's own answer does not lean on its token) -/
noncomputable def eqU (x : V) (u : Value) : Bool := match u with
  | .none => eqV .non x
  | .bool b => eqV (.bl b) x
  | .int i _ => eqV (.int i) x
  | .str z _ => eqV (.str z) x
  | _ => false
theorem eqU_of {x y : V} {u : Value} (r : RelV y u) (f : flatV y = true) : eqU x u = eqV y x := by
  cases y with
  | non => cases r; rfl
  | bl b => cases r; rfl
  | int i => obtain ⟨t, rfl⟩ := r; rfl
  | str z => obtain ⟨t, rfl⟩ := r; rfl
  | _ => exact absurd (show false = true from f) Bool.false_ne_true
theorem any_eqU {x : V} : ∀ {xs : List V} {us : List Value}, Vals xs us → xs.all flatV = true → us.any (eqU x) = xs.any fun y => eqV y x
  | _, _, .nil, _ => rfl
  | y :: xs, u :: us, .cons r t, f => by
    rw [List.all_cons, Bool.and_eq_true] at f
    rw [List.any_cons, List.any_cons, eqU_of r f.1, any_eqU t f.2]
theorem mem_eqAt {A : Around} {s : Shared} {x : V} {v : Value} (rx : RelV x v) (fx : flatV x = true) : ∀ {xs : List V} {us : List Value}, Vals xs us → xs.all flatV = true → ∀ u ∈ us, SeqAt.EqAt A s u v (eqU x u)
  | _, _, .nil, _ => fun u hu => by cases hu
  | y :: xs, u :: us, .cons r t, f => fun u' hu => by
    rw [List.all_cons, Bool.and_eq_true] at f
    rcases List.mem_cons.mp hu with rfl | hu
    · rw [eqU_of r f.1]; exact eqAt_V r rx f.1 fx
    · exact mem_eqAt rx fx t f.2 u' hu
noncomputable def inV (x : V) (xs : List V) : Bool := xs.any fun y => eqV y x
/-- x in a list or tuple of flat items -/
noncomputable def rIn (K : PySem.W.Frag) (neg : Bool) : R2 := fun x y H Q => ∃ p xs, y = .ref p ∧ (SqL K H p xs ∨ SqT K H p xs) ∧ flatV x = true ∧ xs.all flatV = true ∧ Q (.bl (if neg then !inV x xs else inV x xs)) H
theorem op_notIn_seq : OpR X (compareOp .NotIn) (rIn X.K true) := by
  intro pins s σ H x y v u Q I rx ry h
  obtain ⟨p, xs, rfl, hq, fx, fs, q⟩ := h
  cases ry
  rcases hq with hq | hq
  · obtain ⟨its, r, pl, hz⟩ := I.list hq
    refine SeqAt.notIn_listAt (eqU x) pl.isList (fun w hw => mem_eqAt rx fx r fs w (by simpa using hw)) ⟨.bl _, H, I, rfl, ?_⟩
    rw [show its.toArray.any (eqU x) = its.any (eqU x) by simp, any_eqU r fs]
    exact q
  · obtain ⟨its, r, pl, hz⟩ := I.tuple hq
    refine SeqAt.notIn_tupleAt (eqU x) pl (fun w hw => mem_eqAt rx fx r fs w (by simpa using hw)) ⟨.bl _, H, I, rfl, ?_⟩
    rw [show its.toArray.any (eqU x) = its.any (eqU x) by simp, any_eqU r fs]
    exact q
theorem op_notIn_str : OpR X (compareOp .NotIn) (fun x y H Q => ∃ i j, x = .str i ∧ y = .str j ∧ Q (.bl (!(!(Builtin.Str.occurrences j i 0 j.length 1).isEmpty))) H) := by
  intro pins s σ H x y v u Q I rx ry h
  obtain ⟨i, j, rfl, rfl, q⟩ := h
  obtain ⟨t, rfl⟩ := rx
  obtain ⟨t', rfl⟩ := ry
  exact notIn_str ⟨.bl _, H, I, rfl, q⟩

/-! ### len, list(x), tuple(x) of any list or tuple that is read -/
theorem call_len_seq : CallR X (.builtin "len") (fun xs H Q => ∃ p ys, xs = [.ref p] ∧ (SqL X.K H p ys ∨ SqT X.K H p ys) ∧ Q (.int ys.length) H) := by
  intro pins s σ H xs us Q I r h
  obtain ⟨p, ys, rfl, hq, q⟩ := h
  obtain ⟨u, rfl, rx⟩ := vals1 r
  cases rx
  have hn := line63
  rcases hq with hq | hq
  · obtain ⟨its, r', pl, hz⟩ := I.list hq
    have hlen := r'.length
    exact Calls.call_len_list pl.isList (by simp only [List.size_toArray] <;> omega) ⟨.int ys.length, H, I.tok _, ⟨s.toks + 1, by rw [List.size_toArray, hlen]⟩, q⟩
  · obtain ⟨its, r', pl, hz⟩ := I.tuple hq
    have hlen := r'.length
    exact len_tuple pl (by simp only [List.size_toArray] <;> omega) ⟨.int ys.length, H, I.tok _, ⟨s.toks + 1, by rw [List.size_toArray, hlen]⟩, q⟩
theorem call_len_str : CallR X (.builtin "len") (fun xs H Q => ∃ z, xs = [.str z] ∧ z.length ≤ sizeLine ∧ Q (.int z.length) H) := by
  intro pins s σ H xs us Q I r h
  obtain ⟨z, rfl, hz, q⟩ := h
  obtain ⟨u, rfl, t, rfl⟩ := vals1 r
  have hn := line63
  exact len_str (by omega) ⟨.int z.length, H, I.tok _, ⟨_, rfl⟩, q⟩
theorem CallR.or {f : Value} {r r' : List V → Hp → VK → Prop} (h : CallR X f r) (h' : CallR X f r') : CallR X f (fun xs H Q => r xs H Q ∨ r' xs H Q) := by
  intro pins s σ H xs us Q I rs q
  rcases q with q | q
  · exact h pins s σ H xs us Q I rs q
  · exact h' pins s σ H xs us Q I rs q
theorem call_list_of : CallR X (.type "list") (fun xs H Q => ∃ p ys, xs = [.ref p] ∧ (SqL X.K H p ys ∨ SqT X.K H p ys) ∧ ∀ l, H l = none → Q (.ref l) (upd H l (.lst ys))) := by
  intro pins s σ H xs us Q I r h
  obtain ⟨p, ys, rfl, hq, q⟩ := h
  obtain ⟨u, rfl, rx⟩ := vals1 r
  cases rx
  have fin : ∀ (its : List Value), Vals ys its → ys.length ≤ sizeLine → ∀ (h' : Heap) (c' : Nat), (∀ b o', s.heap.get? b = some o' → h'.get? b = some o') →
      h'.get? s.heap.objs.size = some { cls := .type "list", dict := none, data := .seq its.toArray c', slots := #[] } → EP X pins σ Q (.ref s.heap.objs.size) { s with heap := h' } := fun its r' hz h' c' kp e =>
    ⟨.ref s.heap.objs.size, _, I.laid (t' := s.toks) kp (Nat.le_refl _) (show ObjOk X.prog X.w _ h' _ (.lst ys) from ⟨hz, its, c', r', e⟩), rfl, q _ (I.hok.fresh (Nat.le_refl _))⟩
  rcases hq with hq | hq
  · obtain ⟨its, r', pl, hz⟩ := I.list hq
    have hlen := r'.length
    obtain ⟨o, ho, hc, n, hd⟩ := pl.isList
    exact call_list_seq p (.inl rfl) ho hc hd (fun h' c' kp e => fin its r' hz h' c' kp e) (by simp only [List.size_toArray] <;> omega)
  · obtain ⟨its, r', pl, hz⟩ := I.tuple hq
    have hlen := r'.length
    obtain ⟨o, ho, hc, n, hd⟩ := pl
    exact call_list_seq p (.inr rfl) ho hc hd (fun h' c' kp e => fin its r' hz h' c' kp e) (by simp only [List.size_toArray] <;> omega)
theorem call_tuple_of : CallR X (.type "tuple") (fun xs H Q => ∃ p ys, xs = [.ref p] ∧ ((SqL X.K H p ys ∧ ∀ l, H l = none → Q (.ref l) (upd H l (.tup ys))) ∨ (SqT X.K H p ys ∧ Q (.ref p) H))) := by
  intro pins s σ H xs us Q I r h
  obtain ⟨p, ys, rfl, h⟩ := h
  obtain ⟨u, rfl, rx⟩ := vals1 r
  cases rx
  rcases h with ⟨hq, q⟩ | ⟨hq, q⟩
  · obtain ⟨its, r', pl, hz⟩ := I.list hq
    have hlen := r'.length
    refine call_tuple_list pl.isList (fun h' kp => ?_) (by simp only [List.size_toArray] <;> omega)
    have I1 : Inv X pins σ H { s with heap := h' } := I.kept (t' := s.toks) kp
    have I2 : Inv X pins σ (upd H h'.objs.size (.tup ys)) { s with heap := h'.push { cls := .type "tuple", data := .seq its.toArray } } :=
      I1.laid (t' := s.toks) (fun b o e => Heap.get?_push_of_some _ e) (Nat.le_refl _) (show ObjOk X.prog X.w _ _ _ (.tup ys) from ⟨hz, its, r', IsTup.new _ _⟩)
    exact ⟨.ref h'.objs.size, _, I2, rfl, q _ (I1.hok.fresh (Nat.le_refl _))⟩
  · obtain ⟨its, r', pl, hz⟩ := I.tuple hq
    exact call_tuple_same pl ⟨.ref p, H, I, rfl, q⟩

/-! ### the call of a builtin's method: o.m(..) -/
/-- the value is of that builtin type -/
noncomputable def tyV (K : PySem.W.Frag) (T : String) (x : V) (H : Hp) : Prop := match x with
  | .str _ => T = "str"
  | .int _ => T = "int"
  | .ref p => (T = "list" ∧ ∃ xs, SqL K H p xs) ∨ (T = "tuple" ∧ ∃ o, K.lookup p = some o ∧ o.cls = .type "tuple" ∧ o.dict = none) ∨
      (T = "dict" ∧ ((∃ kvs, H p = some (.dK kvs)) ∨ ∃ kvs, H p = some (.dT kvs))) ∨ (T = "set" ∧ ∃ S n, H p = some (.set S n))
  | _ => False
theorem tyV_is {pins : List (Addr × Obj)} {σ : St} {H : Hp} {s : Shared} {T : String} {x : V} {v : Value} (I : Inv X pins σ H s) (r : RelV x v) (ty : tyV X.K T x H) :
    s.TypeIs v T ∧ ∀ a, v = .ref a → ∃ ob, s.heap.get? a = some ob ∧ ob.dict = none := by
  cases x with
  | str z =>
    obtain ⟨t, rfl⟩ := r
    cases (show T = "str" from ty)
    exact ⟨typeIs_str s z t, fun _ e => nomatch e⟩
  | int i =>
    obtain ⟨t, rfl⟩ := r
    cases (show T = "int" from ty)
    exact ⟨typeIs_int s i t, fun _ e => nomatch e⟩
  | ref p =>
    cases r
    rcases ty with ⟨rfl, xs, hq⟩ | ⟨rfl, o, hk, hc, hd⟩ | ⟨rfl, hk⟩ | ⟨rfl, S, n, hk⟩
    · obtain ⟨its, _, pl, _⟩ := I.list hq
      refine ⟨pl.isList.typeIs, fun a e => ?_⟩
      cases e
      obtain ⟨o, n, e, c, hd, _⟩ := pl
      exact ⟨o, e, hd⟩
    · refine ⟨⟨o, I.kIn p o hk, hc⟩, fun a e => ?_⟩
      cases e
      exact ⟨o, I.kIn _ o hk, hd⟩
    · have z : ∃ o, s.heap.get? p = some o ∧ o.ExactDict := by
        rcases hk with ⟨kvs, hk⟩ | ⟨kvs, hk⟩
        · obtain ⟨_, _, _, _, o, _, _, e, ex, _⟩ := I.hok p _ hk
          exact ⟨o, e, ex⟩
        · obtain ⟨_, _, _, _, o, _, _, e, ex, _⟩ := I.hok p _ hk
          exact ⟨o, e, ex⟩
      obtain ⟨o, e, ex⟩ := z
      refine ⟨⟨o, e, ex.1⟩, fun a e2 => ?_⟩
      cases e2
      exact ⟨o, e, ex.2.1⟩
    · obtain ⟨o, _, _, _, e, ex, _⟩ := I.hok p _ hk
      refine ⟨⟨o, e, ex.1⟩, fun a e2 => ?_⟩
      cases e2
      exact ⟨o, e, ex.2.1⟩
  | _ => exact False.elim ty
noncomputable def tBM (K : PySem.W.Frag) (T : String) (r : V → List V → Hp → VK → Prop) (to : TE) (t : TA) : TE := fun σ H Q => to σ H fun x H1 => tyV K T x H1 ∧ t σ H1 fun xs H2 => r x xs H2 Q
variable {o e : Expr} {es : List Expr} {to : TE} {t : TA} {name : Str} {apos cpos : Pos} {T id : String} {r : V → List V → Hp → VK → Prop}
theorem pe_bm (pa : PlainAttrs T) (slot : Slot T name id) (hty : typeOf (.builtin id) = pure (.type "method_descriptor")) (hm : MtR X id r) (ho : PE X o to) (ha : PA X (e :: es) t)
    (hbase : attributeBase o name X.env (eval o X.env) = eval o X.env := by rfl)
    (hfew : ((backTo cpos (starEach (e :: es) X.env)).all (fun x => !x.1) && (backToKw cpos (keywordEach [] X.env)).all (fun x => x.1.isSome)
      && decide ((e :: es).length + ([] : List Keyword).length + (if ([] : List Keyword).isEmpty then 0 else 1) < 30)) = true := by rfl)
    (hline : (apos.endLine == cpos.line) = true := by rfl) (hs : starEach (e :: es) X.env = (false, eval e X.env) :: starEach es X.env := by rfl) (hplain : (backTo cpos (starEach es X.env)).any (·.1) = false := by rfl) :
    PE X (.Call (.Attribute o name apos) (e :: es) [] cpos) (tBM X.K T r to t) := by
  intro pins s σ H Q I h
  refine wpAny_Call_method_late hbase hfew hline rfl (thn (ho pins s σ H _ I h) fun v s1 ⟨x, H1, I1, r1, ty, q1⟩ => ?_)
  obtain ⟨h1, h2⟩ := tyV_is I1 r1 ty
  refine ⟨T, id, pa, slot, hty, h1, h2, ?_⟩
  have hA := ha cpos pins s1 σ H1 _ I1 q1
  rw [hs] at hA ⊢
  refine Calls.callWith_builtin (by show (false || (backTo cpos (starEach es X.env)).any (·.1)) = false; rw [hplain] <;> rfl) (Calls.evalArgs_plain ?_)
  exact thn hA fun us s2 ⟨vs, H2, I2, r2, q2⟩ => hm pins s2 σ H2 x vs v us Q I2 r1 r2 q2
/- xs.append(e), list.index on a module's tuple .. are MtR facts of 06m -/
end
end L2

namespace L2
open PySem PySem.Spec PyProof.Rows

noncomputable def MtM (X : Cx) (id : String) (r : V → List V → Hp → VK → Prop) : Prop :=
  ∀ (pins : List (Addr × Obj)) (s : Shared) (σ : St) (H : Hp) (x : V) (xs : List V) (v : Value) (us : List Value) (Q : VK), Inv X pins σ H s → RelV x v → Vals xs us → r x xs H Q →
    wpAny (model X.prog X.w) X.A (call (.builtin id) (v :: us)) (EP X pins σ Q) X.xe s

/-! ### lists of values -/
theorem Vals.one : ∀ {x : V} {us : List Value}, Vals [x] us → ∃ u, us = [u] ∧ RelV x u
  | _, _, .cons r .nil => ⟨_, rfl, r⟩
theorem Vals.two : ∀ {x y : V} {us : List Value}, Vals [x, y] us → ∃ u v, us = [u, v] ∧ RelV x u ∧ RelV y v
  | _, _, _, .cons r (.cons q .nil) => ⟨_, _, rfl, r, q⟩
theorem Vals.zero : ∀ {us : List Value}, Vals [] us → us = []
  | _, .nil => rfl
theorem Vals.reverse {xs : List V} {us : List Value} (h : Vals xs us) : Vals xs.reverse us.reverse := by
  induction h with
  | nil => exact .nil
  | cons r t ih => rw [List.reverse_cons, List.reverse_cons]; exact Vals.append ih (.cons r .nil)
theorem Vals.rep {xs : List V} {us : List Value} (h : Vals xs us) : ∀ k : Nat, Vals (List.replicate k xs).flatten (List.replicate k us).flatten
  | 0 => .nil
  | k + 1 => by
    rw [List.replicate_succ, List.replicate_succ, List.flatten_cons, List.flatten_cons]
    exact Vals.append h (Vals.rep h k)
theorem foldl_rep (its : List Value) : ∀ (k : Nat) (acc : List Value),
    List.foldl (fun x1 x2 => x1 ++ x2) acc.toArray (List.replicate k its.toArray) = (acc ++ (List.replicate k its).flatten).toArray
  | 0, acc => by simp
  | k + 1, acc => by
    have e : acc.toArray ++ its.toArray = (acc ++ its).toArray := by simp
    have e2 : (acc ++ its) ++ (List.replicate k its).flatten = acc ++ (List.replicate (k + 1) its).flatten := by
      rw [List.replicate_succ, List.flatten_cons, List.append_assoc]
    rw [← e2, ← foldl_rep its k (acc ++ its), ← e, List.replicate_succ, List.foldl_cons]

section
variable {X : Cx} {pins : List (Addr × Obj)} {σ : St} {H : Hp} {s : Shared} {l b : Addr} {xs ys zs : List V}

/-! ### the two steps: a tracked list is rewritten, a new list is laid -/
theorem Inv.lset {its its' : List Value} {n : Nat} {f : Array Value → Array Value} {t' : Nat} (I : Inv X pins σ H s) (hH : H l = some (.lst xs))
    (e : s.heap.get? l = some { cls := .type "list", data := .seq its.toArray n }) (hf : f its.toArray = its'.toArray) (hv : Vals ys its') (hz : ys.length ≤ sizeLine) :
    Inv X pins σ (upd H l (.lst ys)) { s with heap := s.heap.update l (Obj.mapSeq f), toks := t' } := by
  have q := PySem.IsL.update e f
  rw [hf] at q
  refine I.write (x := l) (e := l) (by rw [hH]; exact trivial) (.inl rfl) (fun b' u hb hu => (Heap.get?_update_other s.heap (Obj.mapSeq f) (Ne.symm hb)).trans hu) ⟨_, q⟩ ?_
  exact ⟨hz, its', _, hv, q⟩
theorem Inv.lnew {its : List Value} {t' : Nat} (I : Inv X pins σ H s) (hv : Vals ys its) (hz : ys.length ≤ sizeLine) :
    Inv X pins σ (upd H s.heap.objs.size (.lst ys)) { s with heap := s.heap.push { cls := .type "list", data := .seq its.toArray }, toks := t' } :=
  I.laid (fun _ _ q => Heap.get?_push_of_some _ q) (Nat.le_refl _) ⟨hz, its, 0, hv, Heap.get?_push_size _ rfl⟩
theorem Inv.fresh (I : Inv X pins σ H s) : H s.heap.objs.size = none := I.hok.fresh (Nat.le_refl _)
theorem Inv.lstM (I : Inv X pins σ H s) (hH : H l = some (.lst xs)) : xs.length ≤ sizeLine ∧ ∃ (its : List Value) (n : Nat), Vals xs its ∧ xs.length = its.length ∧ s.heap.get? l = some { cls := .type "list", data := .seq its.toArray n } := by
  obtain ⟨z, its, n, r, e⟩ := I.hok l _ hH
  exact ⟨z, its, n, r, r.length, e⟩

theorem notLongL {n : Nat} (h : n ≤ sizeLine) : Builtin.List.listTooLong n = false := by
  unfold Builtin.List.listTooLong
  exact decide_eq_false (by omega)
end

section
variable {X : Cx}

/-! ### methods -/
noncomputable def rAppend : V → List V → Hp → VK → Prop := fun x vs H Q => ∃ l xs y, x = .ref l ∧ vs = [y] ∧ H l = some (.lst xs) ∧ xs.length < sizeLine ∧ Q .non (upd H l (.lst (xs ++ [y])))
theorem mt_append : MtM X "list.append" rAppend := by
  intro pins s σ H x vs v us Q I rx rv h
  obtain ⟨l, xs, y, rfl, rfl, hH, hz, q⟩ := h
  cases rx
  obtain ⟨u, rfl, ru⟩ := rv.one
  obtain ⟨z, its, n, r, hl, e⟩ := I.lstM hH
  refine call_meets F.slot_list_append ⟨_, e, rfl⟩ F.entry_list_append (F.args_list_append_2 _ _) (PySem.list_append l its.toArray n u (by rw [List.size_toArray]; omega)) ⟨e, ?_⟩
  refine ⟨.non, _, I.lset (its' := its ++ [u]) hH e (by simp) (r.append (.cons ru .nil)) ?_, rfl, q⟩
  rw [List.length_append, List.length_singleton]
  omega

noncomputable def rExtend : V → List V → Hp → VK → Prop := fun x vs H Q => ∃ l b xs zs, x = .ref l ∧ vs = [.ref b] ∧ H l = some (.lst xs) ∧ H b = some (.lst zs) ∧ xs.length + zs.length ≤ sizeLine ∧ Q .non (upd H l (.lst (xs ++ zs)))
theorem mt_extend : MtM X "list.extend" rExtend := by
  intro pins s σ H x vs v us Q I rx rv h
  obtain ⟨l, b, xs, zs, rfl, rfl, hH, hB, hz, q⟩ := h
  cases rx
  obtain ⟨u, rfl, ru⟩ := rv.one
  cases ru
  obtain ⟨z, its, n, r, hl, e⟩ := I.lstM hH
  obtain ⟨z2, its2, n2, r2, hl2, e2⟩ := I.lstM hB
  have hsz : its.toArray.size + its2.toArray.size ≤ sizeLine := by rw [List.size_toArray, List.size_toArray]; omega
  have hlong : ¬ (!its.toArray.isEmpty && Builtin.List.listTooLong (its.toArray.size + its2.toArray.size)) = true := by
    rw [notLongL hsz, Bool.and_false]
    exact Bool.false_ne_true
  refine call_meets F.slot_list_extend ⟨_, e, rfl⟩ F.entry_list_extend (F.args_list_extend_2 _ _)
    (AutoSeq1.list_extend_list_list_0 l its.toArray n b its2.toArray n2 hlong (by rw [List.size_toArray]; omega) (by omega)) ⟨e, e2, ?_⟩
  refine ⟨.non, _, I.lset (its' := its ++ its2) hH e (by simp) (r.append r2) ?_, rfl, q⟩
  rw [List.length_append]
  omega

/-! ### list + list, list += list, list * int -/
noncomputable def rCat : R2 := fun x y H Q => ∃ l b xs zs, x = .ref l ∧ y = .ref b ∧ H l = some (.lst xs) ∧ H b = some (.lst zs) ∧ xs.length + zs.length ≤ sizeLine ∧ ∀ p, H p = none → Q (.ref p) (upd H p (.lst (xs ++ zs)))
theorem op_cat : OpR X (binaryOp .Add) rCat := by
  intro pins s σ H x y v u Q I rx ry h
  obtain ⟨l, b, xs, zs, rfl, rfl, hH, hB, hz, q⟩ := h
  cases rx
  cases ry
  obtain ⟨z, its, n, r, hl, e⟩ := I.lstM hH
  obtain ⟨z2, its2, n2, r2, hl2, e2⟩ := I.lstM hB
  refine PySem.P.add_list e e2 ?_ (by rw [List.size_toArray, List.size_toArray]; omega)
  have ea : its.toArray ++ its2.toArray = (its ++ its2).toArray := by simp
  rw [ea]
  exact ⟨.ref _, _, I.lnew (t' := s.toks) (r.append r2) (by rw [List.length_append]; omega), rfl, q _ I.fresh⟩
/-- a list times an int (a negative one is nothing) -/
noncomputable def rRep : R2 := fun x y H Q => ∃ l k xs, x = .ref l ∧ y = .int k ∧ H l = some (.lst xs) ∧ -(2 ^ 63) ≤ k ∧ k < 2 ^ 63 ∧ xs.length * k.toNat ≤ sizeLine ∧
  ∀ p, H p = none → Q (.ref p) (upd H p (.lst (List.replicate k.toNat xs).flatten))
theorem len_rep {α : Type} (xs : List α) (k : Nat) : (List.replicate k xs).flatten.length = k * xs.length := by
  induction k with
  | zero => simp
  | succ k ih => rw [List.replicate_succ, List.flatten_cons, List.length_append, ih, Nat.succ_mul, Nat.add_comm]
theorem op_rep : OpR X (binaryOp .Mult) rRep := by
  intro pins s σ H x y v u Q I rx ry h
  obtain ⟨l, k, xs, rfl, rfl, hH, h1, h2, hz, q⟩ := h
  cases rx
  obtain ⟨t, rfl⟩ := ry
  obtain ⟨z, its, n, r, hl, e⟩ := I.lstM hH
  have hlen : its.toArray.size * k.toNat ≤ sizeLine := by rw [List.size_toArray, ← hl]; exact hz
  have hcap : ¬ its.toArray.size * k.toNat > (2 ^ 63 - 1) / 8 := by
    have : (sizeLine : Nat) ≤ (2 ^ 63 - 1) / 8 := by decide
    omega
  have hfit : ¬ (!Builtin.List.listFitsIndex k) = true := by
    rw [fitsIndex_both h1 h2]
    exact Bool.false_ne_true
  have hlong : ¬ Builtin.List.listTooLong (its.toArray.size * k.toNat) = true := by
    rw [notLongL hlen]
    exact Bool.false_ne_true
  have hnew : List.foldl (fun x1 x2 => x1 ++ x2) #[] (List.replicate (if its.toArray.isEmpty = true then 0 else k.toNat) its.toArray) = (List.replicate k.toNat its).flatten.toArray := by
    have f0 : ∀ m : Nat, List.foldl (fun x1 x2 => x1 ++ x2) #[] (List.replicate m its.toArray) = (List.replicate m its).flatten.toArray := fun m => by
      have := foldl_rep its m []
      rw [List.nil_append] at this
      exact this
    rw [f0]
    cases its with
    | nil => simp
    | cons a r' => rw [if_neg (by simp)]
  refine wpAny_binaryOp_repeat_ref (T := "list") (U := "int") (by decide) ⟨_, e, rfl⟩ (fun s' => typeIs_int s' k t) noFill_list_mul F.fills_int_mul F.slot_int_rmul repeat_list F.slot_int_index.lookup
    (call_meets F.slot_int_rmul (typeIs_int s k t) F.entry_int_rmul (F.args_int_rmul_2 _ _) (int___rmul___int_list k t l its.toArray n)
      ⟨e, rfl, ⟨_, e, rfl⟩, call_meets F.slot_list_mul ⟨_, e, rfl⟩ F.entry_list_mul (F.args_list_mul_2 _ _) (AutoListH.list___mul___list_int_3 l its.toArray n k t hfit hcap hlong) ⟨e, ?_⟩⟩)
  rw [hnew]
  exact ⟨.ref _, _, I.lnew (t' := s.toks) (r.rep k.toNat) (by rw [len_rep, Nat.mul_comm]; exact hz), rfl, q _ I.fresh⟩

end

/-! ### xs[a:b] = ys -/
section
variable {prog : Program} {w : World} {A : Around} {E : Value → Shared → Prop} {s : Shared}
end

section
variable {X : Cx}
end
end L2

namespace Att
open PySem PySem.W PySem.Calls PyProof.Rows

/-! ### the script -/
theorem ints_of_wellAll {P : Params} {h : Heap} : ∀ (ns : List Int) (vs : List Value), WellAll P h vs (ns.map WData.int) → IntsAre vs ns := by
  intro ns
  induction ns with
  | nil =>
    intro vs w
    rw [List.map_nil] at w
    cases w
    exact .nil
  | cons n ns ih =>
    intro vs w
    rw [List.map_cons] at w
    cases w with
    | cons a b =>
      cases a
      exact .cons _ _ (ih _ b)

theorem script_of {l : OpenLaw} {n : Nat} (hn : l.most = some n) {P : Params} {h : Heap} {args : List WData} {vals : List Value}
    (hpre : l.row.toRowW.claim.pre args = true) (hwl : WellAll P h vals args) :
    ∃ a vs ns, vals = [Value.ref a] ∧ args = [WData.list (ns.map WData.int)] ∧ h.get? a = some { cls := .type "list", data := .seq vs.toArray } ∧ IntsAre vs ns ∧ ns.length ≤ n := by
  have hsh : WShape.hasAll [] args [.list .int] = true := (pre_splitW hpre).1
  have hc : l.pre.holds [] { args := args } = true := (pre_splitW hpre).2
  obtain ⟨d, r, rfl, h1, h2⟩ := hasAllW_cons hsh
  obtain rfl := hasAllW_nil h2
  obtain ⟨xs, rfl, h3⟩ := hasW_list h1
  obtain ⟨ns, rfl⟩ := items_int h3
  have hlen : ns.length ≤ n := by
    unfold OpenLaw.pre at hc
    have h4 : (WTm.not (.lt (.lit (.int (n : Int))) (.len (.arg 0)))).holds [] { args := [.list (ns.map .int)] } = true := by
      have h4 := (holds_andW hc).1
      rw [hn] at h4
      exact h4
    have h5 := condW_of h4 (w_not (w_lt w_lit (w_len_list (w_arg rfl))))
    rw [List.length_map] at h5
    refine Nat.le_of_not_lt fun q => ?_
    have q' : (n : Int) < ((ns.length : Nat) : Int) := by omega
    first
      | (rw [decide_eq_true q'] at h5; exact absurd h5 (by decide))
      | (simp at h5; omega)
  cases hwl with
  | cons w1 w2 =>
    cases w2
    cases w1 with
    | list ho hall => exact ⟨_, _, ns, rfl, rfl, ho, ints_of_wellAll ns _ hall, hlen⟩

theorem post_true (l : OpenLaw) (args : List WData) : l.row.toRowW.claim.post args (.bool true) args = true :=
  postW_of (r := l.row.toRowW) (X := (true == true))
    (show WShape.has [] (.bool true) .bool = true by first | rfl | decide | simp [WShape.has, WShape.arms, WShape.armsAll])
    (show (WTm.eq .res (.lit (.bool true))).value [] { args := args, res := some (.bool true), after := args } = some (.bool (true == true)) from w_eq_bool (w_res rfl) w_lit) rfl

/-- the same from a codeAny of the CALL (for a layer whose function contracts speak of calls) -/
theorem attach_call {l : OpenLaw} {n : Nat} {q : Program} {loose : List Str} {XP : (Str → Option Value) → Heap → Prop} {YP : World → Heap → Prop} {d : DefRec}
    (hn : l.most = some n) (hdf : d.params.defaults = [])
    (call : ∀ (w : World) (s₀ s₁ : Shared) (mg mb : Str → Option Value) (fa : Addr) (o : Obj) (pm cd doc : Value) (a : Addr) (vs : List Value) (ns : List Int),
      Ground q loose [] XP w s₀ mg mb s₁.heap → YP w s₁.heap →
      s₁.heap.get? fa = some o → o.data = .func (docDef d.name d.params d.body d.scope pm cd doc) → s₁.heap.CodeRec cd d.name → mg d.name = some (.ref fa) →
      s₁.heap.get? a = some { cls := .type "list", data := .seq vs.toArray } → IntsAre vs ns → ns.length ≤ n → s₁.gens = #[] →
      codeAny (model l.prog w) callerA (.call (.ref fa) ⟨[.ref a], []⟩) (fun r s' => r = .ok (.ret (.bool true)) ∧ OldK s₁.heap s'.heap ∧ s'.os = s₁.os ∧ AllBare s'.gens) s₁) :
    WalkO q loose XP YP l.row.toRowW d [] (fun f vs => PySem.call f vs) := by
  intro w s₀ s₁ mg mb G Y fa o pm cd doc dV kV ho hd hcd hD hmg hg args vals as hpre hlay hrd hwl hlo
  obtain rfl : dV = .none := Dflts.none hD hdf
  obtain rfl : kV = .none := Dflts.noKw hD
  obtain ⟨a, vs, ns, rfl, rfl, hobj, hints, hlen⟩ := script_of hn hpre hwl
  refine enter_call (codeAny_mono (call w s₀ s₁ mg mb fa o pm cd doc a vs ns G Y ho (fd_plain hd) hcd hmg hobj hints hlen hg) fun r s' hq => ?_)
  obtain ⟨rfl, h2, h3, h4⟩ := hq
  exact ⟨.inl ⟨.bool true, .bool true, [], rfl, fun _ => rfl, .bool true, post_true l _, fun _ => ⟨List.Pairwise.nil, fun _ hm => (nomatch hm)⟩⟩, h2, h3, h4⟩

/-! ### rules over ANY heap (no ledger) from facts about the written part K: the library's own take a ledger (News) for what they write -/
section
variable {prog : Program} {w : World} {A : Around} {E : Value → Shared → Prop} {s : Shared} {K : Frag}

noncomputable def ledger (h : Heap) (L d : Addr) : List (Addr × Obj) := (List.range h.objs.size).filterMap fun a => if a = L ∨ a = d then none else (h.get? a).map fun o => (a, o)
end
end Att

namespace L2
open PySem PySem.Spec PyProof.Rows

theorem vals_ints : ∀ {vs : List Value} {ns : List Int}, IntsAre vs ns → Vals (ns.map V.int) vs
  | _, _, .nil => .nil
  | _, _, .cons n t h => .cons ⟨t, rfl⟩ (vals_ints h)

/-- nothing is tracked but the script, known to the object (or it is an object of the module) -/
noncomputable def Only (H : Hp) : Prop := ∀ b, H b = none ∨ ∃ o xs, H b = some (.frz o (.lst xs))

/-- THE HEAD: the law's promise, at the heap behind the top. F, the promise of the law's def, may use that base is part of the heap (so K.In base, base.Ns mainGlobals mg stand in Mod) -/
theorem law_call {P : Program} {w : World} {K : PySem.W.Frag} {mg mb : Str → Option Value} {CX : CXT} {k : Nat} {fa a : Addr} {fd : FuncData} {x : Str} {sp : Sp} {s₁ : Shared} {vs : List Value} {ns : List Int}
    (KX : K.In s₁.heap) (hns : s₁.heap.Ns mainGlobals mg) (hb : s₁.heap.Ns builtinsNs mb) (hbb : ∀ x : Str, x ≠ "__name__" → mb x = bootBuiltins x) (hlim : s₁.heap.NoLimit) (hg : s₁.gens = #[])
    (ha : s₁.heap.get? a = some { cls := .type "list", data := .seq vs.toArray }) (hi : IntsAre vs ns) (hl : ns.length ≤ sizeLine) (hr : Room k callerA)
    (F : ∀ base : Heap, K.In base → base.Ns mainGlobals mg → FnOk P w K mg base CX k fa fd [x] sp) (hbind : ∀ (s : Shared) (u : Value), BindsTo s fd ⟨[u], []⟩ [(x, u)])
    (hsp : ∀ H : Hp, Only H → SqL K H a (ns.map V.int) → sp [.ref a] H (fun v _ => v = .bl true) fun _ _ _ => False)
    (hCX : ∀ H e s', CX [] H s₁ (fun _ _ _ => False) e s' → False) :
    codeAny (model P w) callerA (.call (.ref fa) ⟨[.ref a], []⟩) (fun r s' => r = .ok (.ret (.bool true)) ∧ OldK s₁.heap s'.heap ∧ s'.os = s₁.os ∧ AllBare s'.gens) s₁ := by
  have rv := vals_ints hi
  have lenV := hi.length
  -- from an abstract heap in which nothing but the script may be tracked
  have core : ∀ H : Hp, Only H → SqL K H a (ns.map V.int) → HOk P w H s₁.heap → (∀ b, H b ≠ none → b = a) → (H a ≠ none → K.lookup a = none) →
      codeAny (model P w) callerA (.call (.ref fa) ⟨[.ref a], []⟩) (fun r s' => r = .ok (.ret (.bool true)) ∧ OldK s₁.heap s'.heap ∧ s'.os = s₁.os ∧ AllBare s'.gens) s₁ := by
    intro H hO hS hok hA hK
    have base_of : ∀ {b : Addr} {o : Obj}, s₁.heap.get? b = some o → H b = none → (hidT s₁.heap H).get? b = some o := fun e n => hidT_get e n
    have noA : ∀ {b : Addr} {o : Obj} {es : Array DictEntry} {ep : Nat}, s₁.heap.get? b = some o → o.data = .dict es ep → H b = none := fun {b o es ep} e d => by
      cases q : H b with
      | none => rfl
      | some u =>
        have e' : b = a := hA b (by rw [q]; simp)
        subst e'
        rw [ha] at e; cases e
        have d' : Data.seq vs.toArray _ = Data.dict es ep := d
        cases d'
    have nsK : ∀ {b : Addr} {m : Str → Option Value}, s₁.heap.Ns b m → (hidT s₁.heap H).Ns b m := fun {b m} ⟨o, es, ep, e, d, r⟩ => ⟨o, es, ep, base_of e (noA e d), d, r⟩
    have hKb : K.In (hidT s₁.heap H) := fun b o e => base_of (KX b o e) (by
      cases q : H b with
      | none => rfl
      | some u =>
        have e' : b = a := hA b (by rw [q]; simp)
        subst e'
        rw [hK (by rw [q]; simp)] at e; cases e)
    have hM : Mod K mg (hidT s₁.heap H) := ⟨hKb, nsK hns, ⟨mb, nsK hb, hbb⟩, let ⟨mc, h1, h2⟩ := hlim; ⟨mc, nsK h1, h2⟩⟩
    have e0 : Env0 P w K mg (hidT s₁.heap H) callerA [] s₁ H := ⟨rfl, hM, fun b o e => of_hidT e, Nat.le_of_eq (hidT_size _ _), trivial, fun b hb => absurd (show b ∈ ([] : List Addr) from hb) (by simp), hok, .of_eq hg⟩
    refine codeAny_mono ((F _ hKb (nsK hns)).run callerA [] s₁ H ⟨[.ref a], []⟩ [.ref a] [.ref a] _ _ hr e0 (hbind s₁ (.ref a)) (.cons rfl .nil) (hsp H hO hS)) fun r s' h => ?_
    cases r with
    | error e => exact (hCX H e s' h).elim
    | ok fl =>
      cases fl with
      | next => exact False.elim h
      | brk => exact False.elim h
      | cont => exact False.elim h
      | ret u =>
        obtain ⟨v, H', os, bare, un, hok', r', q⟩ := h
        have q' : v = .bl true := q
        subst q'
        obtain rfl : u = Value.bool true := r'
        refine ⟨rfl, OldK.of_keep fun b o e => ?_, os, bare⟩
        cases q : H b with
        | none => exact un.keep b o e q (by intro z; exact absurd (show b ∈ ([] : List Addr) from z) (by simp)) (by simp)
        | some u =>
          rcases hO b with z | ⟨ob, xs, z⟩
          · rw [q] at z; cases z
          · have z2 := un.frzs b ob _ z
            obtain ⟨e1, _⟩ := hok b _ z
            obtain ⟨e2, _⟩ := hok' b _ z2
            rw [e] at e1; cases e1
            exact e2
  cases hk : K.lookup a with
  | some o =>
    -- the script is one of the module's own objects
    have e := KX a o hk
    rw [ha] at e
    cases e
    refine core (fun _ => none) (fun _ => .inl rfl) (.inr ⟨_, vs.toArray, _, hk, rfl, rfl, rfl, by rw [List.size_toArray, lenV]; exact hl, by simpa using rv⟩) (fun b u z => by have z' : (none : Option HO) = some u := z; cases z') (fun b z => absurd rfl z) fun z => absurd rfl z
  | none =>
    refine core (fun b => if b = a then some (.frz { cls := .type "list", data := .seq vs.toArray } (.lst (ns.map V.int))) else none) (fun b => ?_) (.inl (.inr ⟨{ cls := .type "list", data := .seq vs.toArray }, if_pos rfl⟩)) (fun b u z => ?_) (fun b z => ?_) fun _ => hk
    · by_cases hb : b = a
      · exact .inr ⟨_, _, if_pos hb⟩
      · exact .inl (if_neg hb)
    · by_cases hb : b = a
      · have z' := (if_pos hb).symm.trans z
        cases z'
        subst hb
        exact ⟨ha, by rw [List.length_map]; exact hl, vs, _, rv, ha⟩
      · have z' := (if_neg hb).symm.trans z
        cases z'
    · by_cases hb : b = a
      · exact hb
      · exact absurd (if_neg hb) z
end L2

namespace L2
open PySem PySem.Spec PyProof.Rows

noncomputable abbrev KOf {K : PySem.W.Frag} {h : Heap} (_ : K.In h) : PySem.W.Frag := K

/-- the goal that k_head leaves (case hc), from the law's promise. F gives the function object fd (K's own) once, then the promise over every base -/
theorem walk_of {l : PySem.W.OpenLaw} {n k : Nat} {q : Program} {loose : List Str} {XP : (Str → Option Value) → Heap → Prop} {YP : World → Heap → Prop} {d : DefRec} {K : Params → PySem.W.Frag} {CX : World → CXT} {sp : World → Sp} {x : Str}
    (hn : l.most = some n) (hn2 : n ≤ sizeLine) (hdf : d.params.defaults = []) (hr : Room k callerA)
    (hY : ∀ (w : World) (h : Heap), YP w h → (K w.params).In h)
    (F : ∀ (w : World) (mg : Str → Option Value) (fa : Addr) (h : Heap), (K w.params).In h → h.Ns mainGlobals mg → mg d.name = some (.ref fa) →
      ∃ fd : FuncData, (∀ (s : Shared) (u : Value), BindsTo s fd ⟨[u], []⟩ [(x, u)]) ∧
        ∀ base : Heap, (K w.params).In base → base.Ns mainGlobals mg → FnOk l.prog w (K w.params) mg base (CX w) k fa fd [x] (sp w))
    (hsp : ∀ (w : World) (H : Hp) (a : Addr) (ns : List Int), ns.length ≤ n → Only H → SqL (K w.params) H a (ns.map V.int) → sp w [.ref a] H (fun v _ => v = .bl true) fun _ _ _ => False)
    (hCX : ∀ (w : World) (H : Hp) (s : Shared) (e : Value) (s' : Shared), CX w [] H s (fun _ _ _ => False) e s' → False) :
    PySem.W.WalkO q loose XP YP l.row.toRowW d [] (fun f vs => PySem.call f vs) := by
  refine Att.attach_call hn hdf fun w s₀ s₁ mg mb fa o pm cd doc a vs ns G Y ho hd hcd hmg hobj hints hlen hg => ?_
  have KX := hY w _ Y
  obtain ⟨fd, hb, hF⟩ := F w mg fa _ KX G.T.g hmg
  exact law_call KX G.T.g G.T.b G.T.builtins G.T.nolimit hg hobj hints (Nat.le_trans hlen hn2) hr hF hb (fun H hO hS => hsp w H a ns hlen hO hS) fun H e s' => hCX w H s₁ e s'
end L2

/- THE LAST THEOREM (shape; LID, My.* are yours):
   My.Adr: a structure of the addresses that your layer names (classes, functions); My.Txt K t: a structure (Prop) of the equations over K;
   My.txt_mk : {K} {implicit addresses ..} (e1 : nsIn K mainGlobals "law" = some (some (.ref f))) (e2 : K.lookup f = some ⟨oc, od, .func (fnOf "law" "law" params body scope dV kV doc pm an cdv ct), sl⟩) (e3 : codeIn K cdv "law" = true) .. : ∃ t, My.Txt K t

theorem PySem.Challenge.cw_LID_holds : PySem.Challenge.rw_LID.Holds := by
  w_on; o_law; k_head; (case hw => w_witness2)
  k_fill
  refine L2.walk_of (l := PySem.Challenge.rw_LID) (n := 63) (k := 40) (x := "script") (CX := fun w => ..) (sp := fun _ => My.sp_law) rfl (by decide) rfl ⟨rfl, by decide, by decide⟩ (fun w h Y => PySem.W.kIn_of Y) ?F ?S ?C
  case F =>
    intro w mg fa h KX G hmg
    have T : ∃ t, My.Txt (L2.KOf KX) t := by
      dsimp only [L2.KOf]                          -- K must stand as «<heap const> w.params» for k_is
      refine' My.txt_mk ?e1 ?e2 ?e3 ..
      (case e1 => PySem.W.k_is)                    -- in the order: a name -> its address -> its object -> its parts
      (case e2 => PySem.W.k_is)
      ..
    obtain ⟨t, T⟩ := T
    have e0 := hmg.symm.trans (PySem.W.mg_of KX G T.law)
    cases e0                                       -- fa is the law's own address
    exact ⟨_, fun s u => .of_eq rfl, fun base kb nb => My.law_fn T kb nb⟩     -- if «.of_eq rfl» comes too early: refine' ⟨_, ?b, fun base kb nb => My.law_fn T kb nb⟩; exact fun s u => .of_eq rfl
  case S => exact fun w H a ns hl hO hS => ..
  case C => exact ..
(the tactic k_is has no namespace: write k_is) -/

/-! SHORT WORDS over the layer: a def of the text, its body, what a loop and a test want. -/
namespace L2
open PySem PySem.Spec PyProof.Rows

noncomputable def defArgs (s : Stmt) : Arguments := match s with
  | .FunctionDef _ a _ _ _ _ _ _ _ _ => a
  | _ => { posonlyargs := [], args := [], vararg := none, kwonlyargs := [], kw_defaults := [], kwarg := none, defaults := [] }
noncomputable def defBody (s : Stmt) : List Stmt := match s with
  | .FunctionDef _ _ b _ _ _ _ _ _ _ => b
  | _ => []
noncomputable def defScope (s : Stmt) : Scope := match s with
  | .FunctionDef _ _ _ _ _ _ sc _ _ _ => sc
  | _ => { kind := .function, names := [], isGenerator := false, isCoroutine := false }

/-! ### no exception leaves a def -/
noncomputable abbrev CX0 : CXT := fun _ _ _ _ _ _ => False
noncomputable abbrev E0 : XK := fun _ _ _ => False
theorem pass0 {X : Cx} : Passes CX0 X E0 := fun _ _ _ _ _ _ _ h => h.elim

/-! ### a def (or method) of the text as it stands behind the top -/
structure Fun (K : PySem.W.Frag) (x qual : Str) (st : Stmt) (f : Addr) (fd : FuncData) : Prop where
  ex : ∃ (oc : Value) (od : Option Addr) (kV doc pm : Value) (an : Option Addr) (cdv ct : Value) (osl : Array (Option Value)),
    fd = PySem.W.fnOf x qual (defArgs st) (defBody st) (defScope st) .none kV doc pm an cdv ct ∧ K.lookup f = some ⟨oc, od, .func fd, osl⟩ ∧ PySem.W.codeIn K cdv qual = true
  kp : PySem.W.keepIn K (.ref f) = true
section
variable {P : Program} {w : World} {K : PySem.W.Frag} {mg : Str → Option Value} {base : Heap}
/-- THE RULE for a def: its body as a term of rules, and the reading of that term -/
theorem Fun.ok {x qual : Str} {st : Stmt} {f : Addr} {fd : FuncData} {N ps : List Str} {k : Nat} {sp : Sp} (F : Fun K x qual st f fd) (S : FnScope N ps (defScope st)) (len : ∀ vs H Q E, sp vs H Q E → vs.length = ps.length)
    (hbody : ∀ (cdv : Value) (A : Around) (outer : List Env) (s : Shared) (H : Hp) (vs : List V) (Q : VK) (E : XK), Room k (A.deeper (envOfC qual (defScope st) s.heap.objs.size f cdv)) → sp vs H Q E →
      ∃ t, PSs (cxOf CX0 P w K mg base N qual (defScope st) f cdv A outer s H E).nox (defBody st) t ∧ t { nx := fun _ H' => Q .non H', rt := Q } (start N vs) H) : FnOk P w K mg base CX0 (k + 1) f fd ps sp := by
  obtain ⟨oc, od, kV, doc, pm, an, cdv, ct, osl, rfl, lk, hcd⟩ := F.ex
  refine fn_of lk hcd S len fun A outer s H vs Q E hr hsp => ?_
  obtain ⟨t, h, q⟩ := hbody cdv A outer s H vs Q E hr hsp
  exact ⟨t, h.nox, q⟩
/-- how its arguments bind (no defaults): h is «fun _ _ _ _ _ _ us hl => match us, hl with | [_, _], _ => rfl», one _ a parameter -/
theorem Fun.binds {x qual : Str} {st : Stmt} {f : Addr} {fd : FuncData} {ps : List Str} (F : Fun K x qual st f fd)
    (h : ∀ (kV doc pm : Value) (an : Option Addr) (cdv ct : Value) (us : List Value), us.length = ps.length → bindArgs (PySem.W.fnOf x qual (defArgs st) (defBody st) (defScope st) .none kV doc pm an cdv ct) ⟨us, []⟩ = pure (ps.zip us)) : Binds K fd ps [] := by
  obtain ⟨oc, od, kV, doc, pm, an, cdv, ct, osl, rfl, lk, hcd⟩ := F.ex
  exact .all (h kV doc pm an cdv ct)
theorem fun_mk {x qual : Str} {st : Stmt} {f : Addr} {oc : Value} {od an : Option Addr} {osl : Array (Option Value)} {kV doc pm cdv ct : Value} (l : K.lookup f = some ⟨oc, od, .func (PySem.W.fnOf x qual (defArgs st) (defBody st) (defScope st) .none kV doc pm an cdv ct), osl⟩)
    (c : PySem.W.codeIn K cdv qual = true) (k : PySem.W.keepIn K (.ref f) = true) : Fun K x qual st f (PySem.W.fnOf x qual (defArgs st) (defBody st) (defScope st) .none kV doc pm an cdv ct) := ⟨⟨oc, od, kV, doc, pm, an, cdv, ct, osl, rfl, l, c⟩, k⟩
end
/-! ### expressions in short: the name that stands in the i-th slot -/
section
variable {X : Cx}
theorem pv (i : Nat) {x : Str} {pos : Pos} (hN : X.N[i]? = some x := by rfl) (hv : Vis X.env.scope x := by first | exact Or.inl rfl | exact Or.inr (Or.inl rfl) | exact Or.inr (Or.inr rfl)) (hd : (x == ("__debug__" : Str)) = false := by decide)
    (hcd : (x == ("__classdict__" : Str)) = false := by decide) : PE X (.Name x pos) (tVar i) := pe_var hN hv hd hcd
end

/-! ### heaps -/
/-- all that was tracked is as it was -/
noncomputable def Same (H H' : Hp) : Prop := ∀ b o, H b = some o → H' b = some o
theorem Same.refl (H : Hp) : Same H H := fun _ _ h => h
theorem Same.trans {H H1 H2 : Hp} (a : Same H H1) (b : Same H1 H2) : Same H H2 := fun c o h => b c o (a c o h)
theorem Same.free {H H' : Hp} (e : Same H H') {l : Addr} (h : H' l = Option.none) : H l = Option.none := by
  cases q : H l with
  | none => rfl
  | some o =>
    rw [e l o q] at h
    cases h
theorem Same.seq {K : PySem.W.Frag} {H H' : Hp} {a : Addr} {xs : List V} (e : Same H H') (h : SqL K H a xs) : SqL K H' a xs := by
  rcases h with (h | ⟨o, h⟩) | h
  · exact .inl (.inl (e _ _ h))
  · exact .inl (.inr ⟨o, e _ _ h⟩)
  · exact .inr h

end L2

namespace L2
open PySem PySem.Spec PyProof.Rows

/-! ### lists of pairs as tables -/
section
variable {κ : Type} [DecidableEq κ]
noncomputable def valV (kvs : List (κ × V)) (k : κ) : Option V := (kvs.find? fun kv => decide (kv.1 = k)).map (·.2)
/-- in its place, or at the end -/
noncomputable def putK (kvs : List (κ × V)) (k : κ) (v : V) : List (κ × V) :=
  if (kvs.any fun kv => decide (kv.1 = k)) = true then kvs.map (fun kv => if kv.1 = k then (kv.1, v) else kv) else kvs ++ [(k, v)]
noncomputable def dropK (kvs : List (κ × V)) (k : κ) : List (κ × V) := kvs.filter fun kv => decide (kv.1 ≠ k)

theorem valV_pos {p : κ × V} {r : List (κ × V)} {k : κ} (e : p.1 = k) : valV (p :: r) k = some p.2 := by simp [valV, List.find?_cons, e]
theorem valV_neg {p : κ × V} {r : List (κ × V)} {k : κ} (e : ¬ p.1 = k) : valV (p :: r) k = valV r k := by simp [valV, List.find?_cons, e]
theorem valV_any (k : κ) : ∀ kvs : List (κ × V), (kvs.any fun kv => decide (kv.1 = k)) = (valV kvs k).isSome
  | [] => rfl
  | p :: r => by
    rw [List.any_cons]
    by_cases e : p.1 = k
    · simp only [valV_pos e, decide_eq_true e, Bool.true_or, Option.isSome_some]
    · rw [valV_neg e, decide_eq_false e, Bool.false_or]; exact valV_any k r
theorem length_putK (kvs : List (κ × V)) (k : κ) (v : V) : (putK kvs k v).length ≤ kvs.length + 1 := by
  unfold putK
  split
  · rw [List.length_map]; omega
  · rw [List.length_append, List.length_cons, List.length_nil]; omega
theorem RelO.isSome_eq {o : Option V} {u : Option Value} (r : RelO o u) : o.isSome = u.isSome := by
  cases o with
  | none => cases u with
    | none => rfl
    | some _ => exact (show False from r).elim
  | some _ => cases u with
    | none => exact (show False from r).elim
    | some _ => rfl
theorem RelO.getD {o : Option V} {u : Option Value} {d : V} {d' : Value} (r : RelO o u) (rd : RelV d d') : RelV (o.getD d) (u.getD d') := by
  cases o with
  | none => cases u with
    | none => exact rd
    | some _ => exact (show False from r).elim
  | some _ => cases u with
    | none => exact (show False from r).elim
    | some _ => exact r

/-- raw tables of the same keys -/
theorem KV.val {kvs : List (κ × V)} {vs : List (κ × Value)} (r : KV kvs vs) (k : κ) : RelO (valV kvs k) (valueAt vs k) := by
  unfold KV at r
  induction r with
  | nil => exact True.intro
  | @cons p q ps qs h t ih =>
    obtain ⟨h1, h2⟩ := h
    by_cases e : p.1 = k
    · have e' : q.1 = k := h1.symm.trans e
      have b : valueAt (q :: qs) k = some q.2 := by simp [valueAt, List.find?_cons, e']
      rw [valV_pos e, b]; exact h2
    · have e' : ¬ q.1 = k := fun z => e (h1.trans z)
      have b : valueAt (q :: qs) k = valueAt qs k := by simp [valueAt, List.find?_cons, e']
      rw [valV_neg e, b]; exact ih
theorem KV.any {kvs : List (κ × V)} {vs : List (κ × Value)} (r : KV kvs vs) (k : κ) : (kvs.any fun kv => decide (kv.1 = k)) = vs.any fun kv => decide (kv.1 = k) := by
  unfold KV at r
  induction r with
  | nil => rfl
  | cons h t ih => rw [List.any_cons, List.any_cons, ih, h.1]
theorem KV.repl {kvs : List (κ × V)} {vs : List (κ × Value)} (r : KV kvs vs) (k : κ) {y : V} {u : Value} (ry : RelV y u) :
    KV (kvs.map fun kv => if kv.1 = k then (kv.1, y) else kv) (vs.map fun kv => if kv.1 = k then (kv.1, u) else kv) := by
  unfold KV at r ⊢
  induction r with
  | nil => exact .nil
  | @cons p q ps qs h t ih =>
    rw [List.map_cons, List.map_cons]
    refine .cons ?_ ih
    obtain ⟨h1, h2⟩ := h
    by_cases e : p.1 = k
    · rw [if_pos e, if_pos (h1.symm.trans e)]; exact ⟨h1, ry⟩
    · rw [if_neg e, if_neg (fun z => e (h1.trans z))]; exact ⟨h1, h2⟩
theorem KV.put {kvs : List (κ × V)} {vs : List (κ × Value)} (r : KV kvs vs) (k : κ) {y : V} {u : Value} (ry : RelV y u) : KV (putK kvs k y) (stored vs k u) := by
  unfold putK stored
  rw [r.any k]
  by_cases e : (vs.any fun kv => decide (kv.1 = k)) = true
  · rw [if_pos e, if_pos e]; exact r.repl k ry
  · rw [if_neg e, if_neg e]; exact Paired.snoc r ⟨rfl, ry⟩
theorem KV.drop {kvs : List (κ × V)} {vs : List (κ × Value)} (r : KV kvs vs) (k : κ) : KV (dropK kvs k) (without vs k) := by
  unfold KV at r ⊢
  unfold dropK without
  induction r with
  | nil => exact .nil
  | @cons p q ps qs h t ih =>
    obtain ⟨h1, h2⟩ := h
    rw [List.filter_cons, List.filter_cons]
    by_cases e : p.1 = k
    · have a : ¬ decide (p.1 ≠ k) = true := by simp [e]
      have b : ¬ decide (q.1 ≠ k) = true := by simp [h1.symm.trans e]
      rw [if_neg a, if_neg b]; exact ih
    · have e' : ¬ q.1 = k := fun z => e (h1.trans z)
      have a : decide (p.1 ≠ k) = true := by simp [e]
      have b : decide (q.1 ≠ k) = true := by simp [e']
      rw [if_pos a, if_pos b]; exact .cons ⟨h1, h2⟩ ih
theorem KV.keys {kvs : List (κ × V)} {vs : List (κ × Value)} (r : KV kvs vs) : kvs.map (·.1) = vs.map (·.1) := by
  unfold KV at r
  induction r with
  | nil => rfl
  | cons h t ih => rw [List.map_cons, List.map_cons, ih, h.1]
theorem KV.length {kvs : List (κ × V)} {vs : List (κ × Value)} (r : KV kvs vs) : kvs.length = vs.length := Paired.length r
end


/-! ### a tracked dict, its keys ints and texts or tuples of these -/
theorem kV_is {P : Program} {w : World} {k : Key} {u : Value} (r : RelV (kV k) u) : (mixKind P w).is k u = true := by
  cases k with
  | inl i => obtain ⟨t, e⟩ := (show ∃ t, u = Value.int i t from r); subst e; exact mixKind_int P w i t
  | inr x => obtain ⟨t, e⟩ := (show ∃ t, u = Value.str x t from r); subst e; exact mixKind_str P w x t
theorem items_are {P : Program} {w : World} : ∀ {ks : List Key} {us : List Value}, Vals (ks.map kV) us → ItemsAre (mixKind P w) ks us
  | [], _, r => by rw [List.map_nil] at r; cases r; exact .nil
  | k :: ks, _, r => by
    rw [List.map_cons] at r
    cases r with
    | cons h t => exact .cons (kV_is h) (items_are t)

/-- raw entries of a dict with tuple keys -/
noncomputable abbrev KT (H : Hp) : List (List Key × V) → List (List Key × Addr × Value) → Prop := Paired fun p q => p.1 = q.1 ∧ H q.2.1 = some (.tup (p.1.map kV)) ∧ RelV p.2 q.2.2
theorem KT.val {H : Hp} {kvs : List (List Key × V)} {xs : List (List Key × Addr × Value)} (r : KT H kvs xs) (k : List Key) : RelO (valV kvs k) ((atKey xs k).map (·.2)) := by
  induction r with
  | nil => exact True.intro
  | @cons p q ps qs h t ih =>
    obtain ⟨h1, _, h2⟩ := h
    by_cases e : p.1 = k
    · have e' : q.1 = k := h1.symm.trans e
      have b : atKey (q :: qs) k = some q.2 := by simp [atKey, List.find?_cons, e']
      rw [valV_pos e, b]; exact h2
    · have e' : ¬ q.1 = k := fun z => e (h1.trans z)
      have b : atKey (q :: qs) k = atKey qs k := by simp [atKey, List.find?_cons, e']
      rw [valV_neg e, b]; exact ih
theorem KT.repl {H : Hp} {kvs : List (List Key × V)} {xs : List (List Key × Addr × Value)} (r : KT H kvs xs) (k : List Key) {y : V} {u : Value} (ry : RelV y u) :
    KT H (kvs.map fun kv => if kv.1 = k then (kv.1, y) else kv) (xs.map (putAt k u)) := by
  induction r with
  | nil => exact .nil
  | @cons p q ps qs h t ih =>
    rw [List.map_cons, List.map_cons]
    refine .cons ?_ ih
    obtain ⟨h1, h2, h3⟩ := h
    unfold putAt
    by_cases e : p.1 = k
    · rw [if_pos e, if_pos (h1.symm.trans e)]; exact ⟨h1, h2, ry⟩
    · rw [if_neg e, if_neg (fun z => e (h1.trans z))]; exact ⟨h1, h2, h3⟩
theorem KT.put {H : Hp} {kvs : List (List Key × V)} {xs : List (List Key × Addr × Value)} (r : KT H kvs xs) (k : List Key) {b : Addr} {y : V} {u : Value} (hb : H b = some (.tup (k.map kV))) (ry : RelV y u) :
    KT H (putK kvs k y) (storedH xs k b u) := by
  have e : (kvs.any fun kv => decide (kv.1 = k)) = (atKey xs k).isSome := by
    rw [valV_any, (r.val k).isSome_eq, Option.isSome_map]
  unfold putK storedH
  rw [e]
  by_cases q : (atKey xs k).isSome = true
  · rw [if_pos q, if_pos q]; exact r.repl k ry
  · rw [if_neg q, if_neg q]; exact Paired.snoc r ⟨rfl, hb, ry⟩
theorem KT.keeps {H H' : Hp} {kvs : List (List Key × V)} {xs : List (List Key × Addr × Value)} (r : KT H kvs xs) (ht : ∀ b ys, H b = some (.tup ys) → H' b = some (.tup ys)) : KT H' kvs xs :=
  Paired.mapP r fun _ _ z => ⟨z.1, ht _ _ z.2.1, z.2.2⟩

/-! a dict and its epoch -/
section
variable {prog : Program} {w : World} {K : Type} [DecidableEq K] {knd : HeapKind prog w K} {A : Around} {E : Value → Shared → Prop} {s : Shared}
noncomputable def DHe (knd : HeapKind prog w K) (h : Heap) (d : Addr) (xs : List (K × Addr × Value)) (ep : Nat) : Prop :=
  ∃ o es, h.get? d = some o ∧ o.ExactDict ∧ o.data = .dict es ep ∧ es.toList = xs.map (entryOfKey knd) ∧ (∀ x ∈ xs, knd.is h x.1 x.2.1) ∧ (xs.map (·.1)).Nodup
theorem DHe.of {h : Heap} {d : Addr} {xs : List (K × Addr × Value)} {ep : Nat} (x : DHe knd h d xs ep) : h.DictOfH knd d xs := by
  obtain ⟨o, es, a⟩ := x; exact ⟨o, es, ep, a⟩
theorem DHe.new {d a : Addr} {xs : List (K × Addr × Value)} {k : K} {v : Value} {o : Obj} {es : Array DictEntry} {ep : Nat} {hs : Int} (ho : s.heap.get? d = some o) (hc : o.ExactDict) (hd : o.data = .dict es ep) (he : es.toList = xs.map (entryOfKey knd))
    (his : ∀ x ∈ xs, knd.is s.heap x.1 x.2.1) (hn : (xs.map (·.1)).Nodup) (hkey : knd.is s.heap k a) (hno : ∀ (j : Nat) (p : Addr × Value), xs[j]? ≠ some (k, p)) (eh : entryOfKey knd (k, a, v) = ⟨hs, .ref a, v⟩) :
    DHe knd (s.heap.update d (Obj.mapDictKeys (·.push ⟨hs, .ref a, v⟩))) d (storedH xs k a v) (ep + 1) := by
  have hnot : k ∉ xs.map (·.1) := not_mem_keys_of_get hno
  rw [storedH_new (atKey_none_of_get hno)]
  refine ⟨_, _, Heap.get?_update_self _ ho (Obj.isFreed_of_dict (Obj.data_mapDictKeys hd _)), hc.mapDictKeys _, Obj.data_mapDictKeys hd _, by simp [he, eh], fun c mc => ?_, ?_⟩
  · rcases List.mem_append.mp mc with mc | mc; · exact knd.keeps (his c mc) ho hd (Heap.SameBut.update ..)
    rw [List.mem_singleton] at mc; subst mc; exact knd.keeps hkey ho hd (Heap.SameBut.update ..)
  · rw [List.map_append, List.nodup_append]; refine ⟨hn, by simp, fun c mc c' mc' => ?_⟩
    have e' : c' = k := by simpa using mc'
    subst e'; exact fun e => hnot (e ▸ mc)
theorem set_ep {d a : Addr} {xs : List (K × Addr × Value)} {k : K} {v : Value} {ep : Nat} {Q : Unit → Shared → Prop} (hu : knd.room A.in1) (hkey : knd.is s.heap k a) (hm : DHe knd s.heap d xs ep) (hsz : xs.length ≤ sizeLine)
    (hQ : ∀ h' ep', ep' = (if (atKey xs k).isSome then ep else ep + 1) → DHe knd h' d (storedH xs k a v) ep' → Heap.SameBut d s.heap h' → Q () { s with heap := h', toks := s.toks + knd.draws k }) :
    wpAny (model prog w) A (setItem (.ref d) (.ref a) v) Q E s := by
  have ty := hm.of.typeIs
  obtain ⟨o, es, ho, hc, hd, he, his, hn⟩ := hm
  unfold setItem; try with_reducible refine wpAny_holding ?_
  refine wpAny_bind (wpAny_sequenceKey ty (by decide) (wpAny_bind (wpAny_callSpecial?_slot (name := Str.ofString "__setitem__") ty slot_dict_setitem (wpAny_call_entry slot_dict_setitem ty entry_dict_setitem ?_ (args_dict_setitem _ _ _)))))
  refine (show wpAny _ _ (Builtin.Dict.notOrdered "__setitem__" ⟨[.ref d, .ref a, v], []⟩ >>= _) _ _ s from wpAny_bind (wpAny_notOrdered_dict ty ?_))
  refine (show wpAny _ _ (dictSet d (.ref a) v >>= _) _ _ s from wpAny_bind ?_)
  unfold dictSet; try with_reducible refine wpAny_holding ?_
  refine wpAny_bind (knd.pyHash hu hkey ?_); unfold dictSetHashed; try with_reducible refine wpAny_holding ?_
  refine wpAny_bind (wpAny_dictFind_heap (s := { s with toks := s.toks + knd.draws k }) hu hkey ho hd he his hn (fun hno => ?_) fun j p hj => ?_)
  · refine wpAny_bind (wpAny_rule (wpAny_updateDictKeys (hz := by have e := size_of_entries he; omega) (s := { s with toks := s.toks + knd.draws k }) ho hd (wpAny_pure ⟨.none, rfl, wpAny_pure (hQ _ (ep + 1) (by rw [atKey_none_of_get hno]; rfl) (DHe.new ho hc hd he his hn hkey hno rfl) (Heap.SameBut.update ..))⟩)))
  · have ak := atKey_of_get hn hj
    refine wpAny_bind (wpAny_rule (wpAny_bind (wpAny_updateDict (s := { s with toks := s.toks + knd.draws k }) ho hd (wpAny_point (wpAny_pure ⟨.none, rfl, wpAny_pure (hQ _ ep (by rw [ak]; rfl) ⟨_, _, Heap.get?_update_self _ ho (Obj.isFreed_of_dict (Obj.data_mapDict hd _)), hc.mapDict _, Obj.data_mapDict hd _, ?_, ?_, ?_⟩ (Heap.SameBut.update ..))⟩)))))
    · rw [storedH_old ak]; have z := modify_map_putAt (entryOfKey knd) (fun e : DictEntry => { e with val := v }) k v (fun _ _ => rfl) hn hj
      rw [← he] at z; obtain ⟨l⟩ := es; simpa using z
    · rw [storedH_old ak]; intro c mc; obtain ⟨y, my, rfl⟩ := List.mem_map.mp mc; unfold putAt; split <;> exact knd.keeps (his y my) ho hd (Heap.SameBut.update ..)
    · rw [storedH_old ak, keys_map_putAt]; exact hn
theorem setdef_ep {d a : Addr} {xs : List (K × Addr × Value)} {k : K} {v : Value} {ep : Nat} {Q : Value → Shared → Prop} (hu : knd.room A) (hkey : knd.is s.heap k a) (hm : DHe knd s.heap d xs ep) (hsz : xs.length ≤ sizeLine)
    (h1 : ∀ p, atKey xs k = some p → Q p.2 { s with toks := s.toks + knd.draws k })
    (h2 : atKey xs k = none → ∀ h', DHe knd h' d (storedH xs k a v) (ep + 1) → Heap.SameBut d s.heap h' → Q v { s with heap := h', toks := s.toks + knd.draws k }) :
    wpAny (model prog w) A (dictSetDefault d (.ref a) v) Q E s := by
  obtain ⟨o, es, ho, hc, hd, he, his, hn⟩ := hm
  unfold dictSetDefault; try with_reducible refine wpAny_holding ?_
  refine wpAny_bind (knd.pyHash hu hkey (wpAny_bind (wpAny_dictFind_heap (s := { s with toks := s.toks + knd.draws k }) hu hkey ho hd he his hn (fun hno => ?_) fun j p hj => ?_)))
  · exact wpAny_bind (wpAny_rule (wpAny_bind (wpAny_updateDictKeys (hz := by have e := size_of_entries he; omega) (s := { s with toks := s.toks + knd.draws k }) ho hd (wpAny_pure (h2 (atKey_none_of_get hno) _ (DHe.new ho hc hd he his hn hkey hno rfl) (Heap.SameBut.update ..))))))
  · refine wpAny_bind (wpAny_dictEntries (s := { s with toks := s.toks + knd.draws k }) ho hd ?_); rw [entry_at he j, hj]
    exact wpAny_bind (wpAny_rule (wpAny_pure (h1 p (atKey_of_get hn hj))))
end

theorem len_put {κ : Type} [DecidableEq κ] (kvs : List (κ × V)) (k : κ) (v : V) : (putK kvs k v).length = if (valV kvs k).isSome then kvs.length else kvs.length + 1 := by
  unfold putK; rw [valV_any]; split <;> simp
section
variable {P : Program} {w : World} {H : Hp} {h : Heap} {a : Addr}
theorem rd_of {u : HO} (ok : HOk P w H h) (e : Rd H a u) : ObjOk P w H h a u := e.ok ok
theorem dk_rd {kvs : List (Key × V)} (ok : HOk P w H h) (e : Rd H a (.dK kvs)) : kvs.length ≤ sizeLine ∧ (a == sysModules) = false ∧ ∃ vs, KV kvs vs ∧ h.DictOf (mixKind P w) a vs :=
  show ObjOk P w H h a (.dK kvs) from rd_of ok e
theorem dk_of {kvs : List (Key × V)} (ok : HOk P w H h) (e : H a = some (.dK kvs)) : kvs.length ≤ sizeLine ∧ (a == sysModules) = false ∧ ∃ vs, KV kvs vs ∧ h.DictOf (mixKind P w) a vs := dk_rd ok (.inl e)
/-- a tracked tuple of ints and texts is a key -/
theorem key_of {ks : List Key} (ok : HOk P w H h) (e : H a = some (.tup (ks.map kV))) : (tupleKind (mixKind P w)).is h ks a := by
  obtain ⟨_, its, r, o, h1, h2, n, h3⟩ := (show ObjOk P w H h a (.tup (ks.map kV)) from ok a _ e)
  exact ⟨o, its.toArray, n, h1, h2, h3, by simpa using items_are r⟩
theorem dt_ep {kvs : List (List Key × V)} (ok : HOk P w H h) (e : Rd H a (.dT kvs)) : kvs.length ≤ sizeLine ∧ (a == sysModules) = false ∧
    ∃ xs, KT H kvs xs ∧ DHe (tupleKind (mixKind P w)) h a xs kvs.length := by
  obtain ⟨z, y, xs, r, o, es, ep, h1, h2, h3, h4, h5, h6⟩ := (show ObjOk P w H h a (.dT kvs) from rd_of ok e)
  subst h6
  refine ⟨z, y, xs, r, o, es, h1, h2, h3, h4, fun x hx => ?_, h5⟩
  have all : ∀ {l : List (List Key × V)} {m : List (List Key × Addr × Value)}, KT H l m → ∀ x ∈ m, (tupleKind (mixKind P w)).is h x.1 x.2.1 := by
    intro l m q
    induction q with
    | nil => intro x hx; exact nomatch hx
    | @cons p q ps qs hq t ih =>
      intro x hx
      rcases List.mem_cons.mp hx with e | hx
      · subst e
        exact key_of ok (by rw [← hq.1]; exact hq.2.1)
      · exact ih x hx
  exact all r x hx
theorem dt_rd {kvs : List (List Key × V)} (ok : HOk P w H h) (e : Rd H a (.dT kvs)) : kvs.length ≤ sizeLine ∧ (a == sysModules) = false ∧ ∃ xs, KT H kvs xs ∧ h.DictOfH (tupleKind (mixKind P w)) a xs := by
  obtain ⟨z, y, xs, r, d⟩ := dt_ep ok e; exact ⟨z, y, xs, r, d.of⟩
end

/-- what the dict at a holds at the key y -/
noncomputable def DGet (H : Hp) (a : Addr) (y : V) (r : Option V) : Prop :=
  (∃ kvs k, Rd H a (.dK kvs) ∧ y = kV k ∧ r = valV kvs k) ∨ ∃ kvs k b, Rd H a (.dT kvs) ∧ y = .ref b ∧ H b = some (.tup (k.map kV)) ∧ r = valV kvs k
/-- the heap behind a[y] = v -/
noncomputable def DPut (H : Hp) (a : Addr) (y v : V) (H' : Hp) : Prop :=
  (∃ kvs k, H a = some (.dK kvs) ∧ y = kV k ∧ kvs.length < sizeLine ∧ H' = upd H a (.dK (putK kvs k v))) ∨
  ∃ kvs k b, H a = some (.dT kvs) ∧ y = .ref b ∧ H b = some (.tup (k.map kV)) ∧ kvs.length < sizeLine ∧ H' = upd H a (.dT (putK kvs k v))
theorem DGet.k {H : Hp} {a : Addr} {kvs : List (Key × V)} {k : Key} (e : H a = some (.dK kvs)) : DGet H a (kV k) (valV kvs k) := .inl ⟨kvs, k, .inl e, rfl, rfl⟩
theorem DGet.t {H : Hp} {a b : Addr} {kvs : List (List Key × V)} {k : List Key} (e : H a = some (.dT kvs)) (eb : H b = some (.tup (k.map kV))) : DGet H a (.ref b) (valV kvs k) := .inr ⟨kvs, k, b, .inl e, rfl, eb, rfl⟩
theorem DPut.k {H : Hp} {a : Addr} {kvs : List (Key × V)} {k : Key} {v : V} (e : H a = some (.dK kvs)) (hl : kvs.length < sizeLine) : DPut H a (kV k) v (upd H a (.dK (putK kvs k v))) := .inl ⟨kvs, k, e, rfl, hl, rfl⟩
theorem DPut.t {H : Hp} {a b : Addr} {kvs : List (List Key × V)} {k : List Key} {v : V} (e : H a = some (.dT kvs)) (eb : H b = some (.tup (k.map kV))) (hl : kvs.length < sizeLine) :
    DPut H a (.ref b) v (upd H a (.dT (putK kvs k v))) := .inr ⟨kvs, k, b, e, rfl, eb, hl, rfl⟩


section
variable {X : Cx} {pins : List (Addr × Obj)} {σ : St} {H : Hp} {s : Shared} {a : Addr} {y v : V} {u r : Value} {o : Option V} {A : Around} {E : Value → Shared → Prop}

theorem Inv.big (I : Inv X pins σ H s) : sysModules < s.heap.objs.size := by
  have h : mainGlobals < s.heap.objs.size := (I.mod.glob.keeps I.bk).lt
  exact Nat.lt_trans (by decide) h

/-- d[y], there -/
theorem d_getItem {Q : Value → Shared → Prop} (hu : A.units + 1 < cLine) (I : Inv X pins σ H s) (g : DGet H a y (some v)) (ry : RelV y u) (h : ∀ w' s', Inv X pins σ H s' → RelV v w' → Q w' s') :
    wpAny (model X.prog X.w) A (getItem (.ref a) u) Q E s := by
  rcases g with ⟨kvs, k, e, ey, l⟩ | ⟨kvs, k, b, e, ey, eb, l⟩
  · subst ey
    obtain ⟨z, hd, vs, rel, dd⟩ := dk_rd I.hok e
    obtain ⟨w', hw, rw'⟩ := RelO.some_of (v := v) (o := valueAt vs k) (by rw [l]; exact rel.val k)
    exact wpAny_getItem_of (kV_is ry) dd.mapOf hw (h w' _ (I.tok _) rw')
  · subst ey
    cases (show u = Value.ref b from ry)
    obtain ⟨z, hd, xs, rel, dd⟩ := dt_rd I.hok e
    obtain ⟨w', hw, rw'⟩ := RelO.some_of (v := v) (o := (atKey xs k).map (·.2)) (by rw [l]; exact rel.val k)
    obtain ⟨p, hp, hp2⟩ := Option.map_eq_some_iff.mp hw
    refine wpAny_getItem_heap (tupleKind_room_in1 hu) (key_of I.hok eb) dd hp ?_
    rw [hp2]
    exact h w' _ (I.tok _) rw'
/-- y in d -/
theorem d_in {Q : Value → Shared → Prop} (hu : A.units + 1 < cLine) (I : Inv X pins σ H s) (g : DGet H a y o) (ry : RelV y u) (h : ∀ s', Inv X pins σ H s' → Q (.bool o.isSome) s') :
    wpAny (model X.prog X.w) A (compareOp .In u (.ref a)) Q E s := by
  rcases g with ⟨kvs, k, e, ey, l⟩ | ⟨kvs, k, b, e, ey, eb, l⟩
  · subst ey
    obtain ⟨z, hd, vs, rel, dd⟩ := dk_rd I.hok e
    refine wpAny_in_of (kV_is ry) hd dd.mapOf ?_
    rw [← (rel.val k).isSome_eq, ← l]
    exact h _ (I.tok _)
  · subst ey
    cases (show u = Value.ref b from ry)
    obtain ⟨z, hd, xs, rel, dd⟩ := dt_rd I.hok e
    refine wpAny_in_heap (tupleKind_room_in1 hu) (key_of I.hok eb) hd dd ?_
    have q := (rel.val k).isSome_eq
    rw [Option.isSome_map] at q
    rw [← q, ← l]
    exact h _ (I.tok _)
theorem d_notIn {Q : Value → Shared → Prop} (hu : A.units + 1 < cLine) (I : Inv X pins σ H s) (g : DGet H a y o) (ry : RelV y u) (h : ∀ s', Inv X pins σ H s' → Q (.bool (!o.isSome)) s') :
    wpAny (model X.prog X.w) A (compareOp .NotIn u (.ref a)) Q E s := by
  rcases g with ⟨kvs, k, e, ey, l⟩ | ⟨kvs, k, b, e, ey, eb, l⟩
  · subst ey
    obtain ⟨z, hd, vs, rel, dd⟩ := dk_rd I.hok e
    refine wpAny_notIn_of (kV_is ry) hd dd.mapOf ?_
    rw [← (rel.val k).isSome_eq, ← l]
    exact h _ (I.tok _)
  · subst ey
    cases (show u = Value.ref b from ry)
    obtain ⟨z, hd, xs, rel, dd⟩ := dt_rd I.hok e
    refine wpAny_notIn_heap (tupleKind_room_in1 hu) (key_of I.hok eb) hd dd ?_
    have q := (rel.val k).isSome_eq
    rw [Option.isSome_map] at q
    rw [← q, ← l]
    exact h _ (I.tok _)
/-- a dict's object is replaced -/
theorem d_write {h' : Heap} {t' : Nat} {ob : HO} (I : Inv X pins σ H s) (mu : Mut (H a)) (hs : Heap.SameBut a s.heap h') (he : ∃ q, h'.get? a = some q) (new : ObjOk X.prog X.w (upd H a ob) h' a ob) :
    Inv X pins σ (upd H a ob) { s with heap := h', toks := t' } :=
  I.write (x := a) (e := a) mu (.inl rfl) (fun b q hb z => (hs.2 b hb).trans z) he new
theorem dk_new {P : Program} {w : World} {H' : Hp} {h' : Heap} {kvs : List (Key × V)} {vs : List (Key × Value)} (z : kvs.length ≤ sizeLine) (hd : (a == sysModules) = false) (rel : KV kvs vs) (dd : h'.DictOf (mixKind P w) a vs) :
    ObjOk P w H' h' a (.dK kvs) := ⟨z, hd, vs, rel, dd⟩
/-- d[y] = v -/
theorem d_setItem {H' : Hp} {Q : Unit → Shared → Prop} (hu : A.units + 1 < cLine) (I : Inv X pins σ H s) (g : DPut H a y v H') (ry : RelV y u) (rv : RelV v r) (h : ∀ s', Inv X pins σ H' s' → Q () s') :
    wpAny (model X.prog X.w) A (setItem (.ref a) u r) Q E s := by
  rcases g with ⟨kvs, k, e, ey, l, eH⟩ | ⟨kvs, k, b, e, ey, eb, l, eH⟩
  · subst ey eH
    obtain ⟨z, hd, vs, rel, dd⟩ := dk_of I.hok e
    have hz : vs.length ≤ sizeLine := by rw [← rel.length]; exact z
    have hl : (putK kvs k v).length ≤ sizeLine := by have := length_putK kvs k v; omega
    refine wpAny_setItem_pairs (hsz := hz) (kV_is ry) dd fun h' dd' hs => h _ ?_
    have he : ∃ q, h'.get? a = some q := let ⟨q, _, _, hq, _⟩ := dd'; ⟨q, hq⟩
    exact d_write I (by rw [e]; exact True.intro) hs he (dk_new hl hd (rel.put k rv) dd')
  · subst ey eH
    cases (show u = Value.ref b from ry)
    obtain ⟨z, hd, xs, rel, dd⟩ := dt_ep I.hok (.inl e)
    have hz : xs.length ≤ sizeLine := by rw [← Paired.length rel]; exact z
    have hl : (putK kvs k v).length ≤ sizeLine := by have := length_putK kvs k v; omega
    refine set_ep (tupleKind_room_in1 hu) (key_of I.hok eb) dd hz fun h' ep' e1 dd' hs => h _ ?_
    obtain ⟨q, es, hq, h2, h3, h4, _, h5⟩ := dd'
    have e2 : ep' = (putK kvs k v).length := by rw [e1, len_put, (rel.val k).isSome_eq, Option.isSome_map]
    refine d_write I (by rw [e]; exact True.intro) hs ⟨q, hq⟩ ⟨hl, hd, _, (rel.put k eb rv).keeps fun c ys ec => ?_, q, es, ep', hq, h2, h3, h4, h5, e2⟩
    rw [upd_ne (ne_of ec e (fun z => nomatch z))]
    exact ec
end

section
variable {X : Cx} {pins : List (Addr × Obj)} {σ : St} {H : Hp} {s : Shared} {a : Addr} {kvs : List (Key × V)} {k : Key} {u : Value} {A : Around} {E : Value → Shared → Prop}
end


/-! ### readings and rules -/
/-- the element of a subscription, not a slice -/
noncomputable def NoSl (i : Expr) : Prop := ∀ ov iv, subscripted i false ov iv = operate [ov, iv] (getItem ov iv)
theorem subD_of {prog : Program} {w : World} {A : Around} {E : Value → Shared → Prop} {s : Shared} {env : Env} {value slice : Expr} {pos : Pos} {T id : String} {Q : Value → Shared → Prop}
    (hl : typeLookup (.type T) "__getitem__" = pure (some (.builtin id))) (hs : NoSl slice)
    (h : wpAny (model prog w) A (eval value env) (fun o s₁ => wpAny (model prog w) A (eval slice env) (fun i s₂ => s₂.TypeIs o T ∧ wpAny (model prog w) A (getItem o i) Q E s₂) E s₁) E s) :
    wpAny (model prog w) A (eval (.Subscript value slice pos) env) Q E s := by
  refine Subscript_ (wpAny_mono h (fun o s₁ h₁ => wpAny_mono h₁ (fun i s₂ h₂ => ?_) fun _ _ x => x) fun _ _ x => x)
  obtain ⟨hT, h₂⟩ := h₂
  unfold subscriptTail
  refine wpAny_bind ?_
  rw [getitemInPython_of_ne hT.not_modules]
  refine wpAny_bind (wpAny_specialOf hT hl ?_)
  have fin : wpAny (model prog w) A (subscripted slice false o i) (fun r s₃ => wpAny (model prog w) A (letTemporaryGo value o r >>= fun _ => pure r) Q E s₃) E s₂ := by
    rw [hs o i]
    exact wpAny_operating (wpAny_mono h₂ (fun r s₃ h₃ => wpAny_bind (wpAny_letTemporaryGo (wpAny_pure h₃))) fun _ _ x => x)
  first
    | exact wpAny_pure (wpAny_bind fin)
    | exact wpAny_bind (wpAny_pure (wpAny_bind fin))
    | exact wpAny_bind fin

theorem dict_typeIs {X : Cx} {pins : List (Addr × Obj)} {σ : St} {H : Hp} {s : Shared} {a : Addr} {y : V} {o : Option V} (I : Inv X pins σ H s) (g : DGet H a y o) : s.TypeIs (.ref a) "dict" := by
  rcases g with ⟨kvs, k, e, _, _⟩ | ⟨kvs, k, b, e, _, _, _⟩
  · obtain ⟨_, _, vs, _, dd⟩ := dk_rd I.hok e
    exact dd.typeIs
  · obtain ⟨_, _, xs, _, dd⟩ := dt_rd I.hok e
    exact dd.typeIs
/-- d[y] -/
noncomputable def tDGet (td ty : TE) : TE := fun σ H Q => td σ H fun x H1 => ty σ H1 fun y H2 => ∃ a v, x = .ref a ∧ DGet H2 a y (some v) ∧ Q v H2
/-- d[y] = v -/
noncomputable def sDPut (td ty tv : TE) : TS := fun D σ H => tv σ H fun v H1 => td σ H1 fun x H2 => ty σ H2 fun y H3 => ∃ a H4, x = .ref a ∧ DPut H3 a y v H4 ∧ D.nx σ H4
section
variable {X : Cx} {o i e value : Expr} {pos pos' tpos : Pos} {td ty tv : TE}
theorem pe_dget (hu : X.A.units + 1 < cLine) (ho : PE X o td) (hi : PE X i ty) (hs : NoSl i) : PE X (.Subscript o i pos) (tDGet td ty) := by
  intro pins s σ H Q I h
  refine subD_of PySem.F.slot_dict_getitem.lookup hs (thn (ho pins s σ H _ I h) fun u s1 ⟨x, H1, I1, rx, q1⟩ => thn (hi pins s1 σ H1 _ I1 q1) fun iv s2 ⟨y, H2, I2, ry, a, v, ex, g, q2⟩ => ?_)
  subst ex
  obtain rfl : u = Value.ref a := rx
  exact ⟨dict_typeIs I2 g, d_getItem hu I2 g ry fun w' s3 I3 rw' => ⟨v, H2, I3, rw', q2⟩⟩
theorem ps_dput (hu : X.A.units + 1 < cLine) (ho : PE X o td) (hi : PE X i ty) (hv : PE X value tv) (hs : swapsWith value (some (.Subscript o i pos')) pos.line X.env = pure false) :
    PS X (.Assign [.Subscript o i pos'] value pos) (sDPut td ty tv) := by
  intro pins s σ H D I h
  refine wpAny_Assign_Subscript (thn (hv pins s σ H _ I h) fun r s1 ⟨v, H1, I1, rv, q1⟩ => thn (ho pins s1 σ H1 _ I1 q1) fun u s2 ⟨x, H2, I2, rx, q2⟩ => thn (hi pins s2 σ H2 _ I2 q2) fun iv s3 ⟨y, H3, I3, ry, a, H4, ex, g, q3⟩ => ?_) hs
  subst ex
  obtain rfl : u = Value.ref a := rx
  exact d_setItem hu I3 g ry rv fun s4 I4 => ⟨σ, H4, I4, q3⟩
end


theorem dt_empty {P : Program} {w : World} {H : Hp} (h : Heap) (hb : sysModules < h.objs.size) : ObjOk P w H (h.push { cls := .type "dict", data := .dict #[] }) h.objs.size (.dT []) :=
  ⟨Nat.zero_le _, beq_eq_false_iff_ne.mpr (Ne.symm (Nat.ne_of_lt hb)), [], .nil, _, #[], 0, Heap.get?_push_size _ rfl, ⟨rfl, rfl, rfl⟩, rfl, rfl, List.nodup_nil, rfl⟩
noncomputable def tDNewT : TE := fun _ H Q => ∀ p, H p = none → Q (.ref p) (upd H p (.dT []))
section
variable {X : Cx} {pos : Pos}
theorem pe_dnewT : PE X (.Dict [] [] pos) tDNewT := fun pins s σ H Q I h =>
  wpAny_Dict_empty ⟨.ref s.heap.objs.size, _, I.laid (a := s.heap.objs.size) (o := .dT []) (t' := s.toks) (fun _ _ q => Heap.get?_push_of_some _ q) (Nat.le_refl _) (dt_empty s.heap I.big), rfl, h _ (I.hok.fresh (Nat.le_refl _))⟩
end

noncomputable def mergeK (kvs more : List (Key × V)) : List (Key × V) := more.foldl (fun acc kv => putK acc kv.1 kv.2) kvs
theorem KV.merge : ∀ {more : List (Key × V)} {rs : List (Key × Value)} {kvs : List (Key × V)} {vs : List (Key × Value)}, KV more rs → KV kvs vs → KV (mergeK kvs more) (merged vs rs) := by
  intro more rs kvs vs r
  unfold KV at r
  induction r generalizing kvs vs with
  | nil => intro q; exact q
  | @cons p q ps qs h t ih =>
    intro r0
    have e : KV (putK kvs p.1 p.2) (stored vs q.1 q.2) := by
      have := r0.put p.1 h.2
      rw [← h.1]; exact this
    exact ih e
/-! ### methods -/
/-- a method call o.m(e) of a built-in, with one argument: what must be seen of the text -/
structure M1 (X : Cx) (o : Expr) (m : Str) (apos : Pos) (e : Expr) (cpos : Pos) : Prop where
  base : attributeBase o m X.env (eval o X.env) = eval o X.env
  few : ((backTo cpos (starEach [e] X.env)).all (fun x => !x.1) && (backToKw cpos (keywordEach [] X.env)).all (fun x => x.1.isSome)
    && decide (([e] : List Expr).length + ([] : List Keyword).length + (if ([] : List Keyword).isEmpty then 0 else 1) < 30)) = true
  line : (apos.endLine == cpos.line) = true
  trees : backTo cpos (starEach [e] X.env) = [(false, eval e X.env)]
structure M2 (X : Cx) (o : Expr) (m : Str) (apos : Pos) (e f : Expr) (cpos : Pos) : Prop where
  base : attributeBase o m X.env (eval o X.env) = eval o X.env
  few : ((backTo cpos (starEach [e, f] X.env)).all (fun x => !x.1) && (backToKw cpos (keywordEach [] X.env)).all (fun x => x.1.isSome)
    && decide (([e, f] : List Expr).length + ([] : List Keyword).length + (if ([] : List Keyword).isEmpty then 0 else 1) < 30)) = true
  line : (apos.endLine == cpos.line) = true
  trees : backTo cpos (starEach [e, f] X.env) = [(false, eval e X.env), (false, eval f X.env)]

section
variable {X : Cx} {pins : List (Addr × Obj)} {σ : St} {H : Hp} {s : Shared} {a : Addr} {y d : V} {u r : Value} {o : Option V} {A : Around} {E : Value → Shared → Prop}
end

section
variable {X : Cx} {o e f : Expr} {apos cpos : Pos} {td ty tx : TE}
end

/-! ### dict(d): a copy -/
section
variable {X : Cx} {pins : List (Addr × Obj)} {σ : St} {H : Hp} {s : Shared} {a : Addr} {kvs : List (Key × V)} {A : Around} {E : Value → Shared → Prop}
end


section
variable {X : Cx} {pins : List (Addr × Obj)} {σ : St} {H : Hp} {s : Shared} {a : Addr} {y : V} {u : Value} {A : Around} {E : Value → Shared → Prop}
end
end L2

namespace Pv
open PySem

/-- a value without addresses of tuples: a tuple is its items; fls: a list that is never written (the script, a module's list) -/
inductive D where
  | non | bl (b : Bool) | int (i : Int) | str (x : Str) | tup (l : List D) | fls (l : List D) | ref (a : Addr) | ty (n : String) | exc (c : Str)
  /-- a tuple of the module -/
  | ktp (l : List D)
inductive MO where
  | lst (xs : List D)
  | ins (c : Str) (fs : List (Str × D))
  /-- a dict by tuples of three ints -/
  | dct (kvs : List ((Int × Int × Int) × D))
  /-- a dict by tuples of ints -/
  | dcl (kvs : List (List Int × D))
noncomputable abbrev Mu := Addr → Option MO
noncomputable def updM (μ : Mu) (a : Addr) (o : MO) : Mu := fun b => if b = a then some o else μ b
theorem updM_same {μ : Mu} {a : Addr} {o : MO} : updM μ a o a = some o := by unfold updM; rw [if_pos rfl]
theorem updM_ne {μ : Mu} {a b : Addr} {o : MO} (h : b ≠ a) : updM μ a o b = μ b := by unfold updM; rw [if_neg h]
/-- lists may have come, those there stay -/
noncomputable def Ext (μ μ' : Mu) : Prop := ∀ a o, μ a = some o → μ' a = some o
theorem Ext.refl (μ : Mu) : Ext μ μ := fun _ _ h => h
theorem Ext.trans {a b c : Mu} (h : Ext a b) (k : Ext b c) : Ext a c := fun x o q => k x o (h x o q)
theorem Ext.new {μ : Mu} {p : Addr} {o : MO} (h : μ p = none) : Ext μ (updM μ p o) := fun a u q => by
  rw [updM_ne]; exact q
  intro e; subst e; rw [h] at q; cases q
theorem Ext.free {μ μ' : Mu} {p : Addr} (e : Ext μ μ') (h : μ' p = none) : μ p = none := by
  cases q : μ p with
  | none => rfl
  | some o => rw [e p o q] at h; cases h
/-- all but the list at p -/
noncomputable def ExtB (p : Addr) (μ μ' : Mu) : Prop := ∀ a o, a ≠ p → μ a = some o → μ' a = some o
theorem ExtB.refl (p : Addr) (μ : Mu) : ExtB p μ μ := fun _ _ _ h => h
theorem ExtB.trans {p : Addr} {a b c : Mu} (h : ExtB p a b) (k : ExtB p b c) : ExtB p a c := fun x o n q => k x o n (h x o n q)
theorem Ext.b {μ μ' : Mu} (p : Addr) (e : Ext μ μ') : ExtB p μ μ' := fun a o _ q => e a o q
theorem ExtB.upd {μ : Mu} {p : Addr} {o : MO} : ExtB p μ (updM μ p o) := fun a u n q => by rw [updM_ne n]; exact q
theorem ne_free {μ : Mu} {p q : Addr} {o : MO} (h : μ p = some o) (k : μ q = none) : p ≠ q := by
  intro e; subst e; rw [h] at k; cases k

noncomputable abbrev St3 := List (Option D)
noncomputable def getI : St3 → Nat → Option D
  | [], _ => none
  | o :: _, 0 => o
  | _ :: r, i + 1 => getI r i
theorem getI_eq : ∀ (ρ : St3) (i : Nat), getI ρ i = (ρ[i]?).getD none
  | [], i => by simp [getI]
  | o :: _, 0 => by simp [getI]
  | _ :: r, i + 1 => by simp [getI, getI_eq r i]
noncomputable abbrev VK3 := D → Mu → Prop
noncomputable abbrev TE3 := St3 → Mu → VK3 → Prop
noncomputable abbrev TT3 := St3 → Mu → (Bool → Mu → Prop) → Prop
noncomputable abbrev TA3 := St3 → Mu → (List D → Mu → Prop) → Prop
structure Ends3 where
  nx : St3 → Mu → Prop
  rt : VK3
  bk : St3 → Mu → Prop := fun _ _ => False
  ct : St3 → Mu → Prop := fun _ _ => False
noncomputable abbrev TS3 := Ends3 → St3 → Mu → Prop
noncomputable abbrev R3 := D → D → Mu → VK3 → Prop
noncomputable abbrev Sp3 := List D → Mu → VK3 → Prop
noncomputable abbrev C3 := List D → Mu → VK3 → Prop
noncomputable abbrev TG3 := D → St3 → Mu → (St3 → Mu → Prop) → Prop
noncomputable abbrev TGs3 := List D → St3 → Mu → (St3 → Mu → Prop) → Prop
noncomputable abbrev TI3 := St3 → Mu → (List D → (Mu → Prop) → Mu → Prop) → Prop

/-! ### expressions -/
noncomputable def v3 (i : Nat) : TE3 := fun ρ μ Q => match getI ρ i with
  | some d => Q d μ
  | none => False
noncomputable def c3 (d : D) : TE3 := fun _ μ Q => Q d μ
noncomputable def o3 (r : R3) (ta tb : TE3) : TE3 := fun ρ μ Q => ta ρ μ fun x μ1 => tb ρ μ1 fun y μ2 => r x y μ2 Q
noncomputable def un3 (r : D → Mu → VK3 → Prop) (ta : TE3) : TE3 := fun ρ μ Q => ta ρ μ fun x μ1 => r x μ1 Q
noncomputable def b3 (t : TE3) : TT3 := fun ρ μ Q => t ρ μ fun d μ1 => match d with
  | .bl c => Q c μ1
  | _ => False
noncomputable def and3 (t u : TT3) : TT3 := fun ρ μ Q => t ρ μ fun c μ1 => if c = true then u ρ μ1 Q else Q false μ1
noncomputable def or3 (t u : TT3) : TT3 := fun ρ μ Q => t ρ μ fun c μ1 => if c = true then Q true μ1 else u ρ μ1 Q
noncomputable def not3 (t : TT3) : TT3 := fun ρ μ Q => t ρ μ fun c μ1 => Q (!c) μ1
noncomputable def andV3 (t u : TE3) : TE3 := fun ρ μ Q => t ρ μ fun d μ1 => match d with
  | .bl c => if c = true then u ρ μ1 Q else Q (.bl false) μ1
  | _ => False
noncomputable def orV3 (t u : TE3) : TE3 := fun ρ μ Q => t ρ μ fun d μ1 => match d with
  | .bl c => if c = true then Q (.bl true) μ1 else u ρ μ1 Q
  | _ => False
noncomputable def notV3 (t : TE3) : TE3 := fun ρ μ Q => t ρ μ fun d μ1 => match d with
  | .bl c => Q (.bl (!c)) μ1
  | _ => False
noncomputable def if3 (c : TT3) (t u : TE3) : TE3 := fun ρ μ Q => c ρ μ fun b μ1 => if b = true then t ρ μ1 Q else u ρ μ1 Q
noncomputable def nil3 : TA3 := fun _ μ Q => Q [] μ
noncomputable def cons3 (t : TE3) (u : TA3) : TA3 := fun ρ μ Q => t ρ μ fun d μ1 => u ρ μ1 fun ds μ2 => Q (d :: ds) μ2
noncomputable def tup3 (t : TA3) : TE3 := fun ρ μ Q => t ρ μ fun ds μ1 => ds.length ≤ sizeLine ∧ Q (.tup ds) μ1
noncomputable def lst3 (t : TA3) : TE3 := fun ρ μ Q => t ρ μ fun ds μ1 => ds.length ≤ sizeLine ∧ ∀ p, μ1 p = none → Q (.ref p) (updM μ1 p (.lst ds))
noncomputable def call3 (sp : Sp3) (t : TA3) : TE3 := fun ρ μ Q => t ρ μ fun ds μ1 => sp ds μ1 Q
noncomputable def mt3 (r : D → List D → Mu → VK3 → Prop) (to : TE3) (t : TA3) : TE3 := fun ρ μ Q => to ρ μ fun x μ1 => match x with
  | .ref p => match μ1 p with
    | some (.lst _) => t ρ μ1 fun ds μ2 => r (.ref p) ds μ2 Q
    | _ => False
  | _ => False

/-- a slice's parts -/
noncomputable abbrev TO3 := St3 → Mu → (Option Int → Mu → Prop) → Prop
noncomputable def np3 : TO3 := fun _ μ Q => Q none μ
noncomputable def pt3 (t : TE3) : TO3 := fun ρ μ Q => t ρ μ fun d μ1 => match d with
  | .int i => Q (some i) μ1
  | _ => False
noncomputable def sl3 (r : D → Option Int → Option Int → Mu → VK3 → Prop) (te : TE3) (tl th : TO3) : TE3 := fun ρ μ Q => te ρ μ fun x μ1 => tl ρ μ1 fun l μ2 => th ρ μ2 fun u μ3 => r x l u μ3 Q
/-- the place that a slice's bound means among n -/
noncomputable def sIx3 (n d : Nat) : Option Int → Nat
  | none => d
  | some v => if v < 0 then (v + (n : Int)).toNat else min v.toNat n
noncomputable def cut3 {α : Type} (xs : List α) (lo hi : Option Int) : List α := (xs.drop (sIx3 xs.length 0 lo)).take (sIx3 xs.length xs.length hi - sIx3 xs.length 0 lo)
noncomputable def slR : D → Option Int → Option Int → Mu → VK3 → Prop := fun x lo hi μ Q => match x with
  | .tup l => Q (.tup (cut3 l lo hi)) μ
  | .str z => z.length ≤ sizeLine ∧ Q (.str ⟨(cut3 z.cps.toList lo hi).toArray⟩) μ
  | .ref p => match μ p with
    | some (.lst l) => ∀ r, μ r = none → Q (.ref r) (updM μ r (.lst (cut3 l lo hi)))
    | _ => False
  | .fls l => ∀ r, μ r = none → Q (.ref r) (updM μ r (.lst (cut3 l lo hi)))
  | _ => False
/-! ### statements -/
noncomputable def next3 : TS3 := fun D ρ μ => D.nx ρ μ
noncomputable def never3 : TS3 := fun _ _ _ => False
noncomputable def brk3 : TS3 := fun D ρ μ => D.bk ρ μ
noncomputable def cnt3 : TS3 := fun D ρ μ => D.ct ρ μ
noncomputable def seq3 (t u : TS3) : TS3 := fun D ρ μ => t { D with nx := u D } ρ μ
noncomputable def drop3 (t : TE3) : TS3 := fun D ρ μ => t ρ μ fun _ μ1 => D.nx ρ μ1
noncomputable def ret3 (t : TE3) : TS3 := fun D ρ μ => t ρ μ D.rt
noncomputable def retN3 : TS3 := fun D _ μ => D.rt .non μ
noncomputable def ifs3 (c : TT3) (t u : TS3) : TS3 := fun D ρ μ => c ρ μ fun b μ1 => if b = true then t D ρ μ1 else u D ρ μ1
noncomputable def gn3 (i : Nat) : TG3 := fun d ρ μ Q => Q (ρ.set i (some d)) μ
noncomputable def gnil3 : TGs3 := fun ds ρ μ Q => match ds with
  | [] => Q ρ μ
  | _ => False
noncomputable def gcons3 (t : TG3) (u : TGs3) : TGs3 := fun ds ρ μ Q => match ds with
  | d :: r => t d ρ μ fun ρ1 μ1 => u r ρ1 μ1 Q
  | [] => False
noncomputable def gtup3 (n : Nat) (t : TGs3) : TG3 := fun d ρ μ Q => match d with
  | .tup l => l.length = n ∧ t l ρ μ Q
  | _ => False
noncomputable def set3 (i : Nat) (t : TE3) : TS3 := fun D ρ μ => t ρ μ fun d μ1 => D.nx (ρ.set i (some d)) μ1
noncomputable def asg3 (t : TE3) (g : TG3) : TS3 := fun D ρ μ => t ρ μ fun d μ1 => g d ρ μ1 D.nx
noncomputable def par3 (i j : Nat) (t : TA3) : TS3 := fun D ρ μ => t ρ μ fun ds μ1 => match ds with
  | [v, w] => D.nx ((ρ.set i (some v)).set j (some w)) μ1
  | _ => False
noncomputable def ixN (n : Nat) (i : Int) : Option Nat := if 0 ≤ i then (if i < n then some i.toNat else none) else if -(n : Int) ≤ i then some (i + n).toNat else none
noncomputable def atI {α : Type} (xs : List α) (i : Int) : Option α := (ixN xs.length i).bind fun j => xs[j]?
noncomputable def sub3 (to ti : TE3) : TG3 := fun d ρ μ Q => to ρ μ fun o μ1 => ti ρ μ1 fun i μ2 => match o, i with
  | .ref p, .int k => match μ2 p with
    | some (.lst xs) => match ixN xs.length k with
      | some j => Q ρ (updM μ2 p (.lst (xs.set j d)))
      | none => False
    | _ => False
  | _, _ => False
/-- a loop over items: S must stay true while they are walked -/
noncomputable def forS3 (S : Mu → Prop) (g : TG3) (tb : TS3) (D' : Ends3) : List D → St3 → Mu → Prop
  | [], ρ, μ => S μ ∧ D'.nx ρ μ
  | x :: r, ρ, μ => S μ ∧ ∃ N : St3 → Mu → Prop, (∀ ρ' μ', N ρ' μ' → forS3 S g tb D' r ρ' μ') ∧ g x ρ μ fun ρ1 μ1 => tb { D' with nx := N, ct := N, bk := D'.nx } ρ1 μ1
noncomputable def for3 (ti : TI3) (g : TG3) (tb : TS3) : TS3 := fun D' ρ μ => ti ρ μ fun l S μ1 => forS3 S g tb D' l ρ μ1
/-- a loop by what holds of the items still to come and the state -/
theorem for_inv {S : Mu → Prop} {g : TG3} {tb : TS3} {D' : Ends3} (W : List D → St3 → Mu → Prop) {l : List D} {ρ : St3} {μ : Mu} (h0 : W l ρ μ) (hS : ∀ l ρ μ, W l ρ μ → S μ) (hn : ∀ ρ μ, W [] ρ μ → D'.nx ρ μ)
    (hs : ∀ x r ρ μ, W (x :: r) ρ μ → g x ρ μ fun ρ1 μ1 => tb { D' with nx := W r, ct := W r, bk := D'.nx } ρ1 μ1) : forS3 S g tb D' l ρ μ := by
  induction l generalizing ρ μ with
  | nil => exact ⟨hS _ _ _ h0, hn _ _ h0⟩
  | cons x r ih => exact ⟨hS _ _ _ h0, W r, fun ρ' μ' q => ih q, hs x r ρ μ h0⟩
noncomputable def is3 (t : TE3) : TI3 := fun ρ μ R => t ρ μ fun d μ1 => match d with
  | .tup l => R l (fun _ => True) μ1
  | .fls l => R l (fun _ => True) μ1
  | .str z => R (z.cps.toList.map fun c => D.str ⟨#[c]⟩) (fun _ => True) μ1
  | .ref p => match μ1 p with
    | some (.lst l) => R l (fun μ => μ p = some (.lst l)) μ1
    | _ => False
  | _ => False
noncomputable def rngD (lo : Int) (n : Nat) : List D := (List.range n).map fun i => .int (lo + (i : Nat))
theorem rngD_succ (lo : Int) (n : Nat) : rngD lo (n + 1) = .int lo :: rngD (lo + 1) n := by
  unfold rngD
  rw [List.range_succ_eq_map, List.map_cons, List.map_map]
  have e0 : lo + ((0 : Nat) : Int) = lo := by simp
  rw [e0]
  congr 1
  apply List.map_congr_left
  intro a _
  show D.int (lo + ((a + 1 : Nat) : Int)) = D.int (lo + 1 + (a : Int))
  have e1 : lo + ((a + 1 : Nat) : Int) = lo + 1 + (a : Int) := by omega
  rw [e1]
noncomputable def ir3 (t : TA3) : TI3 := fun ρ μ R => t ρ μ fun ds μ1 => match ds with
  | [.int j] => (-(2 ^ 62) ≤ j ∧ j < 2 ^ 62) ∧ R (rngD 0 j.toNat) (fun _ => True) μ1
  | _ => False
noncomputable def ir23 (t : TA3) : TI3 := fun ρ μ R => t ρ μ fun ds μ1 => match ds with
  | [.int i, .int j] => (-(2 ^ 62) ≤ i ∧ i < 2 ^ 62 ∧ -(2 ^ 62) ≤ j ∧ j < 2 ^ 62) ∧ R (rngD i (j - i).toNat) (fun _ => True) μ1
  | _ => False
/-- a comprehension's block, by what holds of the items to come, those made, the block's names and the lists -/
noncomputable def cbody (S : Mu → Prop) (p : Addr) (g : TG3) (tc : TT3) (te : TE3) (Q : VK3) (l : List D) (ρ0 : St3) (μ0 : Mu) : Prop :=
  ∃ W : List D → List D → St3 → Mu → Prop, W l [] ρ0 μ0 ∧ (∀ l ys ρ μ, W l ys ρ μ → S μ ∧ μ p = some (.lst ys)) ∧ (∀ ys ρ μ, W [] ys ρ μ → Q (.ref p) μ) ∧
    ∀ x r ys ρ μ, W (x :: r) ys ρ μ → ys.length < sizeLine ∧ g x ρ μ fun ρ1 μ1 => tc ρ1 μ1 fun b μ2 =>
      if b = true then te ρ1 μ2 fun d μ3 => μ3 p = some (.lst ys) ∧ W r (ys ++ [d]) ρ1 (updM μ3 p (.lst (ys ++ [d]))) else W r ys ρ1 μ2
/-- js: where the block's names come from -/
noncomputable def comp3 (js : List (Option Nat)) (ti : TI3) (g : TG3) (tc : TT3) (te : TE3) : TE3 := fun ρ μ Q => ti ρ μ fun l S μ1 => ∀ p, μ1 p = none → cbody S p g tc te Q l (js.map fun j => j.bind (getI ρ)) (updM μ1 p (.lst []))
noncomputable def tt3 : TT3 := fun _ μ Q => Q true μ
/-- [e for x in ..], each item a value that hangs on x alone -/
theorem comp_map {S : Mu → Prop} {p : Addr} {te : TE3} {Q : VK3} {l : List D} {o : Option D} {rest : St3} {μ : Mu} (f : D → D) (hp : μ p = none) (hl : l.length ≤ sizeLine) (hS : ∀ μ', Ext μ μ' → S μ')
    (hx : ∀ x ∈ l, ∀ μ' R, Ext μ μ' → (∀ μ2, Ext μ' μ2 → R (f x) μ2) → te (some x :: rest) μ' R) (hQ : ∀ μ', Ext μ μ' → μ' p = some (.lst (l.map f)) → Q (.ref p) μ') :
    cbody S p (gn3 0) tt3 te Q l (o :: rest) (updM μ p (.lst [])) := by
  refine ⟨fun r ys ρ μ' => Ext μ μ' ∧ μ' p = some (.lst ys) ∧ (∃ o', ρ = o' :: rest) ∧ ∃ a, a ++ r = l ∧ ys = a.map f, ?_, ?_, ?_, ?_⟩
  · exact ⟨Ext.new hp, updM_same, ⟨o, rfl⟩, [], rfl, rfl⟩
  · rintro r ys ρ μ' ⟨h1, h2, _⟩
    exact ⟨hS _ h1, h2⟩
  · rintro ys ρ μ' ⟨h1, h2, _, a, e, rfl⟩
    rw [List.append_nil] at e
    subst e
    exact hQ _ h1 h2
  · rintro x r ys ρ μ' ⟨h1, h2, ⟨o', rfl⟩, a, e, rfl⟩
    refine ⟨by rw [List.length_map]; rw [← e, List.length_append, List.length_cons] at hl; omega, ?_⟩
    show te (some x :: rest) μ' _
    refine hx x (by rw [← e]; simp) μ' _ h1 fun μ2 h3 => ⟨h3 _ _ h2, fun b u hb => ?_, updM_same, ⟨_, rfl⟩, a ++ [x], by simp [← e], by simp⟩
    rw [updM_ne (ne_free hb hp)]
    exact h3 _ _ (h1 _ _ hb)

/-! ### operations -/
noncomputable def CPow (i j : Int) : Prop := 0 ≤ j ∧ j ≤ 1000000 ∧ i.natAbs < 2 ^ 64
noncomputable def Big : Nat := 2 ^ 1000
noncomputable def CMul (i j : Int) : Prop := ((-(2 ^ 64) < i ∧ i < 2 ^ 64) ∨ (-(2 ^ 64) < j ∧ j < 2 ^ 64)) ∨ (i.natAbs < Big ∧ j.natAbs < Big)
noncomputable def int2 (C : Int → Int → Prop) (g : Int → Int → D) : R3 := fun x y μ Q => match x, y with
  | .int i, .int j => C i j ∧ Q (g i j) μ
  | _, _ => False
noncomputable def int20 (g : Int → Int → D) : R3 := fun x y μ Q => match x, y with
  | .int i, .int j => Q (g i j) μ
  | _, _ => False
noncomputable def subR : R3 := int20 fun i j => .int (i - j)
/-- * of ints; a tuple, a list so often -/
noncomputable def mulR : R3 := fun x y μ Q => match x, y with
  | .int i, .int j => CMul i j ∧ Q (.int (i * j)) μ
  | .tup l, .int k => ((-(2 ^ 62) ≤ k ∧ k < 2 ^ 62) ∧ l.length * k.toNat ≤ 1000000) ∧ Q (.tup (List.replicate k.toNat l).flatten) μ
  | .ref p, .int k => match μ p with
    | some (.lst l) => ((-(2 ^ 62) ≤ k ∧ k < 2 ^ 62) ∧ l.length * k.toNat ≤ 1000000) ∧ ∀ r, μ r = none → Q (.ref r) (updM μ r (.lst (List.replicate k.toNat l).flatten))
    | _ => False
  | _, _ => False
noncomputable def modR : R3 := int2 (fun _ j => 0 < j) fun i j => .int (i % j)
noncomputable def fdivR : R3 := int2 (fun _ j => 0 < j ∧ j < 2 ^ 120) fun i j => .int (i / j)
noncomputable def powR : R3 := int2 CPow fun i j => .int (i ^ j.toNat)
noncomputable def ltR : R3 := int20 fun i j => .bl (decide (i < j))
noncomputable def leR : R3 := int20 fun i j => .bl (decide (i ≤ j))
noncomputable def gtR : R3 := int20 fun i j => .bl (decide (j < i))
noncomputable def geR : R3 := int20 fun i j => .bl (decide (j ≤ i))
noncomputable def negR : D → Mu → VK3 → Prop := fun x μ Q => match x with
  | .int i => Q (.int (-i)) μ
  | _ => False
/-- + of ints, texts, lists, tuples -/
noncomputable def addR : R3 := fun x y μ Q => match x, y with
  | .int i, .int j => Q (.int (i + j)) μ
  | .str i, .str j => i.length + j.length ≤ sizeLine ∧ Q (.str (i ++ j)) μ
  | .ref p, .ref q => match μ p, μ q with
    | some (.lst xs), some (.lst ys) => xs.length + ys.length ≤ sizeLine ∧ ∀ r, μ r = none → Q (.ref r) (updM μ r (.lst (xs ++ ys)))
    | _, _ => False
  | .tup l, .tup m => l.length + m.length ≤ sizeLine ∧ Q (.tup (l ++ m)) μ
  | _, _ => False
/-- == of scalars of one kind, and of None with them -/
noncomputable def eqS : D → D → Option Bool
  | .int i, .int j => some (decide (i = j))
  | .bl i, .bl j => some (decide (i = j))
  | .str i, .str j => some (decide (i = j))
  | .non, .non => some true
  | .non, .int _ => some false
  | .int _, .non => some false
  | .non, .str _ => some false
  | .str _, .non => some false
  | .int _, .str _ => some false
  | .str _, .int _ => some false
  | _, _ => none
/- data without addresses -/
mutual
noncomputable def dat : D → Option PyData
  | .non => some .none
  | .bl b => some (.bool b)
  | .int i => some (.int i)
  | .str x => if PyData.strOk x = true then some (.str x) else none
  | .tup l => match dats l with
    | some ps => some (.tuple ps)
    | none => none
  | .ktp l => match dats l with
    | some ps => some (.tuple ps)
    | none => none
  | _ => none
noncomputable def dats : List D → Option (List PyData)
  | [] => some []
  | d :: r => match dat d with
    | some p => match dats r with
      | some ps => some (p :: ps)
      | none => none
    | none => none
end
/-- .. and a list of such, or of lists of such -/
noncomputable def datM (μ : Mu) : D → Option PyData
  | .ref p => match μ p with
    | some (.lst l) => match dats l with
      | some ps => some (.list ps)
      | none => none
    | _ => none
  | d => dat d
noncomputable def eqR : R3 := fun x y μ Q => match eqS x y with
  | some c => Q (.bl c) μ
  | none => match datM μ x, datM μ y with
    | some p, some q => (p.depth ≤ 64 ∧ q.depth ≤ 64) ∧ Q (.bl (PyData.eqv p q)) μ
    | _, _ => False
noncomputable def neR : R3 := fun x y μ Q => match eqS x y with
  | some c => Q (.bl (!c)) μ
  | none => match datM μ x, datM μ y with
    | some p, some q => (p.depth ≤ 64 ∧ q.depth ≤ 64) ∧ Q (.bl (!PyData.eqv p q)) μ
    | _, _ => False
theorem eqR_ii (i j : Int) (μ : Mu) (Q : VK3) : eqR (.int i) (.int j) μ Q = Q (.bl (decide (i = j))) μ := rfl
theorem eqR_ss (i j : Str) (μ : Mu) (Q : VK3) : eqR (.str i) (.str j) μ Q = Q (.bl (decide (i = j))) μ := rfl
theorem eqR_bb (i j : Bool) (μ : Mu) (Q : VK3) : eqR (.bl i) (.bl j) μ Q = Q (.bl (decide (i = j))) μ := rfl
theorem eqR_is (i : Int) (j : Str) (μ : Mu) (Q : VK3) : eqR (.int i) (.str j) μ Q = Q (.bl false) μ := rfl
theorem neR_ii (i j : Int) (μ : Mu) (Q : VK3) : neR (.int i) (.int j) μ Q = Q (.bl (!decide (i = j))) μ := rfl
theorem neR_ss (i j : Str) (μ : Mu) (Q : VK3) : neR (.str i) (.str j) μ Q = Q (.bl (!decide (i = j))) μ := rfl
theorem neR_bb (i j : Bool) (μ : Mu) (Q : VK3) : neR (.bl i) (.bl j) μ Q = Q (.bl (!decide (i = j))) μ := rfl
/-- == of data, x and y not both scalars -/
theorem eqR_dat {x y : D} {μ : Mu} {Q : VK3} {p q : PyData} (e : eqS x y = none) (h1 : datM μ x = some p) (h2 : datM μ y = some q) (d1 : p.depth ≤ 64) (d2 : q.depth ≤ 64) : eqR x y μ Q = Q (.bl (PyData.eqv p q)) μ := by
  unfold eqR; rw [e]; simp only [h1, h2, d1, d2, true_and, and_self]
theorem neR_dat {x y : D} {μ : Mu} {Q : VK3} {p q : PyData} (e : eqS x y = none) (h1 : datM μ x = some p) (h2 : datM μ y = some q) (d1 : p.depth ≤ 64) (d2 : q.depth ≤ 64) : neR x y μ Q = Q (.bl (!PyData.eqv p q)) μ := by
  unfold neR; rw [e]; simp only [h1, h2, d1, d2, true_and, and_self]
noncomputable def strs? : List D → Option (List Str)
  | [] => some []
  | .str x :: r => match strs? r with
    | some l => some (x :: l)
    | none => none
  | _ :: _ => none
/-- in, of data -/
noncomputable def inD (neg : Bool) : R3 := fun x y μ Q => match datM μ x, datM μ y with
  | some d, some (.list xs) => (d.depth ≤ 64 ∧ (PyData.list xs).depth ≤ 64) ∧ Q (.bl (if neg then !(xs.any fun e => PyData.eqv e d) else xs.any fun e => PyData.eqv e d)) μ
  | some d, some (.tuple xs) => (d.depth ≤ 64 ∧ (PyData.tuple xs).depth ≤ 64) ∧ Q (.bl (if neg then !(xs.any fun e => PyData.eqv e d) else xs.any fun e => PyData.eqv e d)) μ
  | _, _ => False
noncomputable def inR (neg : Bool) : R3 := fun x y μ Q => match x, y with
  | .str z, .tup l => match strs? l with
    | some zs => Q (.bl (if neg then !zs.contains z else zs.contains z)) μ
    | none => inD neg (.str z) (.tup l) μ Q
  | .str z, .str y => Q (.bl (if neg then !(!(Builtin.Str.occurrences y z 0 y.length 1).isEmpty) else !(Builtin.Str.occurrences y z 0 y.length 1).isEmpty)) μ
  | x, y => inD neg x y μ Q
noncomputable def ixR : R3 := fun x y μ Q => match x, y with
  | .tup l, .int i => match atI l i with
    | some d => Q d μ
    | none => False
  | .ktp l, .int i => match atI l i with
    | some d => Q d μ
    | none => False
  | .fls l, .int i => match atI l i with
    | some d => Q d μ
    | none => False
  | .ref p, .int i => match μ p with
    | some (.lst l) => match atI l i with
      | some d => Q d μ
      | none => False
    | _ => False
  | _, _ => False
noncomputable def lenR : C3 := fun ds μ Q => match ds with
  | [.tup l] => Q (.int l.length) μ
  | [.fls l] => Q (.int l.length) μ
  | [.str z] => z.length ≤ sizeLine ∧ Q (.int z.length) μ
  | [.ref p] => match μ p with
    | some (.lst l) => Q (.int l.length) μ
    | _ => False
  | _ => False
noncomputable def absR : C3 := fun ds μ Q => match ds with
  | [.int i] => Q (.int (if i < 0 then -i else i)) μ
  | _ => False
noncomputable def intR : C3 := fun ds μ Q => match ds with
  | [.int i] => Q (.int i) μ
  | [.bl b] => Q (.int (if b then 1 else 0)) μ
  | [.str z] => match PySem.intText? z with
    | some n => z.length ≤ 640 ∧ Q (.int n) μ
    | none => False
  | _ => False
/-- str(i) -/
noncomputable def strR : C3 := fun ds μ Q => match ds with
  | [.int i] => i.natAbs.log2 < 1920 ∧ Q (.str (toString i)) μ
  | _ => False
/-- a method of a text -/
noncomputable def smt3 (r : Str → List D → Mu → VK3 → Prop) (to : TE3) (t : TA3) : TE3 := fun ρ μ Q => to ρ μ fun x μ1 => match x with
  | .str z => t ρ μ1 fun ds μ2 => r z ds μ2 Q
  | _ => False
noncomputable def joinR : Str → List D → Mu → VK3 → Prop := fun z ds μ Q => match ds with
  | [.ref p] => match μ p with
    | some (.lst l) => match strs? l with
      | some ys => (z.length ≤ 16 ∧ (ys.map (·.length)).sum + ys.length ≤ 1048576) ∧ Q (.str (Str.join z ys)) μ
      | none => False
    | _ => False
  | _ => False
noncomputable def splitR : Str → List D → Mu → VK3 → Prop := fun z ds μ Q => match ds with
  | [.str y] => ((y.length == 0) = false ∧ z.length ≤ 1000000) ∧ ∀ r, μ r = none → Q (.ref r) (updM μ r (.lst ((Txt.split z y).map D.str)))
  | _ => False
noncomputable def startsR : Str → List D → Mu → VK3 → Prop := fun z ds μ Q => match ds with
  | [.str y] => Q (.bl (Txt.startswith z y)) μ
  | _ => False
/-- xs.pop() -/
noncomputable def pop3 (to : TE3) : TE3 := fun ρ μ Q => to ρ μ fun x μ1 => match x with
  | .ref p => match μ1 p with
    | some (.lst l) => match l.reverse with
      | d :: r => Q d (updM μ1 p (.lst r.reverse))
      | [] => False
    | _ => False
  | _ => False
/-- list(reversed(xs)) -/
noncomputable def lrev3 (to : TE3) : TE3 := fun ρ μ Q => cons3 to nil3 ρ μ fun ds μ1 => match ds with
  | [.ref p] => match μ1 p with
    | some (.lst l) => ∀ r, μ1 r = none → Q (.ref r) (updM μ1 r (.lst l.reverse))
    | _ => False
  | _ => False
noncomputable def tupR : C3 := fun ds μ Q => match ds with
  | [.tup l] => Q (.tup l) μ
  | [.ref p] => match μ p with
    | some (.lst l) => Q (.tup l) μ
    | _ => False
  | _ => False
noncomputable def ints? : List D → Option (List Int)
  | [] => some []
  | .int x :: r => match ints? r with
    | some l => some (x :: l)
    | none => none
  | _ :: _ => none
noncomputable def sumR : C3 := fun ds μ Q => match ds with
  | [.ref p] => match μ p with
    | some (.lst l) => match ints? l with
      | some ns => Q (.int ns.sum) μ
      | none => False
    | _ => False
  | _ => False
noncomputable def bls? : List D → Option (List Bool)
  | [] => some []
  | .bl x :: r => match bls? r with
    | some l => some (x :: l)
    | none => none
  | _ :: _ => none
noncomputable def tyN (μ : Mu) : D → Option String
  | .int _ => some "int"
  | .bl _ => some "bool"
  | .str _ => some "str"
  | .tup _ => some "tuple"
  | .non => some "NoneType"
  | .ref p => match μ p with
    | some (.lst _) => some "list"
    | _ => none
  | _ => none
noncomputable def isIn (t T : String) : Option Bool :=
  if t = T then some true
  else if t = "bool" ∧ T = "int" then some true
  else if (t = "int" ∨ t = "str" ∨ t = "tuple" ∨ t = "bool" ∨ t = "NoneType" ∨ t = "list") ∧ (T = "int" ∨ T = "str" ∨ T = "tuple" ∨ T = "bool" ∨ T = "list") then some false
  else none
noncomputable def isiR : C3 := fun ds μ Q => match ds with
  | [d, .ty T] => match tyN μ d with
    | some t => match isIn t T with
      | some b => Q (.bl b) μ
      | none => False
    | none => False
  | _ => False
noncomputable def appR : D → List D → Mu → VK3 → Prop := fun x ds μ Q => match x, ds with
  | .ref p, [d] => match μ p with
    | some (.lst l) => l.length < sizeLine ∧ Q .non (updM μ p (.lst (l ++ [d])))
    | _ => False
  | _, _ => False
noncomputable def extR : D → List D → Mu → VK3 → Prop := fun x ds μ Q => match x, ds with
  | .ref p, [.ref q] => match μ p, μ q with
    | some (.lst l), some (.lst m) => l.length + m.length ≤ sizeLine ∧ Q .non (updM μ p (.lst (l ++ m)))
    | _, _ => False
  | _, _ => False
theorem atI0 {α : Type} {a : α} {r : List α} : atI (a :: r) 0 = some a := by
  unfold atI ixN; rw [if_pos (by decide), if_pos (by simp only [List.length_cons]; omega)]; rfl
theorem atI1 {α : Type} {a b : α} {r : List α} : atI (a :: b :: r) 1 = some b := by
  unfold atI ixN; rw [if_pos (by decide), if_pos (by simp only [List.length_cons]; omega)]; rfl
theorem atI2 {α : Type} {a b c : α} {r : List α} : atI (a :: b :: c :: r) 2 = some c := by
  unfold atI ixN; rw [if_pos (by decide), if_pos (by simp only [List.length_cons]; omega)]; rfl
theorem ixN0 {n : Nat} : ixN (n + 1) 0 = some 0 := by
  unfold ixN; rw [if_pos (by decide), if_pos (by omega)]; rfl
theorem ixN1 {n : Nat} : ixN (n + 1 + 1) 1 = some 1 := by
  unfold ixN; rw [if_pos (by decide), if_pos (by omega)]; rfl
theorem ixN2 {n : Nat} : ixN (n + 1 + 1 + 1) 2 = some 2 := by
  unfold ixN; rw [if_pos (by decide), if_pos (by omega)]; rfl
/-- an atI in bounds -/
theorem atI_in {α : Type} {l : List α} {i : Int} (h0 : 0 ≤ i) (h1 : i < l.length) : ∃ d, d ∈ l ∧ atI l i = some d := by
  have hn : i.toNat < l.length := by omega
  refine ⟨l[i.toNat], List.getElem_mem hn, ?_⟩
  unfold atI ixN
  rw [if_pos h0, if_pos h1]
  exact List.getElem?_eq_getElem hn
noncomputable def start3 (N : List Str) (ds : List D) : St3 := ds.map some ++ List.replicate (N.length - ds.length) none
/-- while, by a word and a number that falls -/
noncomputable def while3 (c : TT3) (tb : TS3) : TS3 := fun D ρ μ => ∃ W : Nat → St3 → Mu → Prop, (∃ m, W m ρ μ) ∧ ∀ m ρ μ, W m ρ μ →
  c ρ μ fun b μ1 => if b = true then ∃ N : St3 → Mu → Prop, (∀ ρ' μ', N ρ' μ' → ∃ m', m' < m ∧ W m' ρ' μ') ∧ tb { D with nx := N, ct := N, bk := D.nx } ρ μ1 else D.nx ρ μ1
end Pv

namespace Pv
open PySem L2
noncomputable abbrev Fg := PySem.W.Frag
/-- tuples and what is frozen stay as they are -/
structure Kp (H H' : Hp) : Prop where
  tup : ∀ b xs, H b = some (.tup xs) → H' b = some (.tup xs)
  frz : ∀ b o u, H b = some (.frz o u) → H' b = some (.frz o u)
theorem Kp.refl (H : Hp) : Kp H H := ⟨fun _ _ h => h, fun _ _ _ h => h⟩
theorem Kp.trans {a b c : Hp} (h : Kp a b) (k : Kp b c) : Kp a c := ⟨fun x xs q => k.tup x xs (h.tup x xs q), fun x o u q => k.frz x o u (h.frz x o u q)⟩
/-- a new object, or a list written -/
theorem Kp.new {H : Hp} {p : Addr} {o : HO} (h : H p = none) : Kp H (upd H p o) :=
  ⟨fun b xs q => by rw [upd_ne (ne_of_none q h)]; exact q, fun b o u q => by rw [upd_ne (ne_of_none q h)]; exact q⟩
theorem Kp.wr {H : Hp} {p : Addr} {o : HO} {xs : List V} (h : H p = some (.lst xs)) : Kp H (upd H p o) :=
  ⟨fun b ys q => by rw [upd_ne (ne_of q h (by intro z; cases z))]; exact q, fun b o u q => by rw [upd_ne (ne_of q h (by intro z; cases z))]; exact q⟩
/-- a list that is never written: frozen, or an object of the module -/
noncomputable def SqF (K : Fg) (H : Hp) (a : Addr) (xs : List V) : Prop :=
  (∃ o, H a = some (.frz o (.lst xs))) ∨ ∃ (o : Obj) (its : Array Value) (n : Nat), K.lookup a = some o ∧ o.cls = .type "list" ∧ o.dict = none ∧ o.data = .seq its n ∧ its.size ≤ sizeLine ∧ Vals xs its.toList
theorem SqF.l {K : Fg} {H : Hp} {a : Addr} {xs : List V} (h : SqF K H a xs) : SqL K H a xs := by
  rcases h with ⟨o, h⟩ | h
  · exact .inl (.inr ⟨o, h⟩)
  · exact .inr h
theorem SqF.mono {K : Fg} {H H' : Hp} {a : Addr} {xs : List V} (k : Kp H H') (h : SqF K H a xs) : SqF K H' a xs := by
  rcases h with ⟨o, h⟩ | h
  · exact .inl ⟨o, k.frz _ _ _ h⟩
  · exact .inr h
theorem SqT.mono {K : Fg} {H H' : Hp} {a : Addr} {xs : List V} (k : Kp H H') (h : SqT K H a xs) : SqT K H' a xs := by
  rcases h with h | h
  · rcases h with h | ⟨o, h⟩
    · exact .inl (.inl (k.tup _ _ h))
    · exact .inl (.inr ⟨o, k.frz _ _ _ h⟩)
  · exact .inr h
mutual
inductive RelD (K : Fg) (H : Hp) : D → V → Prop where
  | non : RelD K H .non .non
  | bl (b : Bool) : RelD K H (.bl b) (.bl b)
  | int (i : Int) : RelD K H (.int i) (.int i)
  | str (x : Str) : RelD K H (.str x) (.str x)
  | ref (a : Addr) : RelD K H (.ref a) (.ref a)
  | ty (n : String) : RelD K H (.ty n) (.ty n)
  | tup {a : Addr} {l : List D} {vs : List V} : H a = some (.tup vs) → RelDs K H l vs → RelD K H (.tup l) (.ref a)
  | ktp {a : Addr} {l : List D} {vs : List V} : SqT K H a vs → RelDs K H l vs → RelD K H (.ktp l) (.ref a)
  | fls {a : Addr} {l : List D} {vs : List V} : SqF K H a vs → RelDs K H l vs → RelD K H (.fls l) (.ref a)
  | exc {a C : Addr} {c : Str} {ob : Obj} {u : HO} : H a = some (.frz ob u) → ob.cls = .ref C → PySem.W.nsIn K mainGlobals c = some (some (.ref C)) → RelD K H (.exc c) (.ref a)
inductive RelDs (K : Fg) (H : Hp) : List D → List V → Prop where
  | nil : RelDs K H [] []
  | cons {d : D} {v : V} {l : List D} {vs : List V} : RelD K H d v → RelDs K H l vs → RelDs K H (d :: l) (v :: vs)
end
mutual
theorem RelD.mono {K : Fg} {H H' : Hp} (k : Kp H H') : ∀ {d : D} {v : V}, RelD K H d v → RelD K H' d v
  | _, _, .non => .non
  | _, _, .bl b => .bl b
  | _, _, .int b => .int b
  | _, _, .str b => .str b
  | _, _, .ref b => .ref b
  | _, _, .ty b => .ty b
  | _, _, .tup h r => .tup (k.tup _ _ h) (RelDs.mono k r)
  | _, _, .ktp h r => .ktp (SqT.mono k h) (RelDs.mono k r)
  | _, _, .fls h r => .fls (SqF.mono k h) (RelDs.mono k r)
  | _, _, .exc h r1 r2 => .exc (k.frz _ _ _ h) r1 r2
theorem RelDs.mono {K : Fg} {H H' : Hp} (k : Kp H H') : ∀ {d : List D} {v : List V}, RelDs K H d v → RelDs K H' d v
  | _, _, .nil => .nil
  | _, _, .cons h r => .cons (RelD.mono k h) (RelDs.mono k r)
end
theorem RelDs.length {K : Fg} {H : Hp} : ∀ {l : List D} {vs : List V}, RelDs K H l vs → l.length = vs.length
  | _, _, .nil => rfl
  | _, _, .cons _ r => congrArg (· + 1) r.length
theorem RelDs.get {K : Fg} {H : Hp} : ∀ {l : List D} {vs : List V} {i : Nat} {d : D}, RelDs K H l vs → l[i]? = some d → ∃ v, vs[i]? = some v ∧ RelD K H d v
  | _, _, _, _, .nil, e => by simp at e
  | _, _, 0, _, .cons h _, e => by simp at e; subst e; exact ⟨_, rfl, h⟩
  | _, _, i + 1, d, .cons _ r, e => by
    obtain ⟨v, h1, h2⟩ := RelDs.get (i := i) (d := d) r (by simpa using e)
    exact ⟨v, by simpa using h1, h2⟩
theorem RelDs.append {K : Fg} {H : Hp} : ∀ {l m : List D} {vs us : List V}, RelDs K H l vs → RelDs K H m us → RelDs K H (l ++ m) (vs ++ us)
  | _, _, _, _, .nil, q => q
  | _, _, _, _, .cons h r, q => .cons h (RelDs.append r q)
theorem RelDs.set {K : Fg} {H : Hp} {d : D} {v : V} (hd : RelD K H d v) : ∀ {l : List D} {vs : List V} (i : Nat), RelDs K H l vs → RelDs K H (l.set i d) (vs.set i v)
  | _, _, _, .nil => .nil
  | _, _, 0, .cons _ r => .cons hd r
  | _, _, i + 1, .cons h r => .cons h (RelDs.set hd i r)
theorem RelDs.take {K : Fg} {H : Hp} : ∀ {l : List D} {vs : List V} (n : Nat), RelDs K H l vs → RelDs K H (l.take n) (vs.take n)
  | _, _, 0, r => by simp only [List.take_zero]; exact .nil
  | _, _, n + 1, .nil => by simp only [List.take_nil]; exact .nil
  | _, _, n + 1, .cons h r => by simp only [List.take_succ_cons]; exact .cons h (RelDs.take n r)
theorem RelDs.drop {K : Fg} {H : Hp} : ∀ {l : List D} {vs : List V} (n : Nat), RelDs K H l vs → RelDs K H (l.drop n) (vs.drop n)
  | _, _, 0, r => by simp only [List.drop_zero]; exact r
  | _, _, n + 1, .nil => by simp only [List.drop_nil]; exact .nil
  | _, _, n + 1, .cons h r => by simp only [List.drop_succ_cons]; exact RelDs.drop n r
theorem RelDs.rep {K : Fg} {H : Hp} {l : List D} {vs : List V} (r : RelDs K H l vs) : ∀ k : Nat, RelDs K H (List.replicate k l).flatten (List.replicate k vs).flatten
  | 0 => .nil
  | k + 1 => by rw [List.replicate_succ, List.replicate_succ, List.flatten_cons, List.flatten_cons]; exact r.append (RelDs.rep r k)
theorem RelDs.reverse {K : Fg} {H : Hp} : ∀ {l : List D} {vs : List V}, RelDs K H l vs → RelDs K H l.reverse vs.reverse
  | _, _, .nil => .nil
  | _, _, .cons h r => by rw [List.reverse_cons, List.reverse_cons]; exact (RelDs.reverse r).append (.cons h .nil)
inductive RelFs (K : Fg) (H : Hp) : List (Str × D) → List (Str × V) → Prop where
  | nil : RelFs K H [] []
  | cons {f : Str} {d : D} {v : V} {l : List (Str × D)} {vs : List (Str × V)} : RelD K H d v → RelFs K H l vs → RelFs K H ((f, d) :: l) ((f, v) :: vs)
theorem RelFs.mono {K : Fg} {H H' : Hp} (k : Kp H H') {l : List (Str × D)} {vs : List (Str × V)} (r : RelFs K H l vs) : RelFs K H' l vs := by
  induction r with
  | nil => exact .nil
  | cons h _ ih => exact .cons (h.mono k) ih
/-- the pairs of a dict -/
noncomputable def kT (t : Int × Int × Int) : List Key := [.inl t.1, .inl t.2.1, .inl t.2.2]
inductive RelKs (K : Fg) (H : Hp) : List ((Int × Int × Int) × D) → List (List Key × V) → Prop where
  | nil : RelKs K H [] []
  | cons {t : Int × Int × Int} {d : D} {v : V} {l : List ((Int × Int × Int) × D)} {vs : List (List Key × V)} : RelD K H d v → RelKs K H l vs → RelKs K H ((t, d) :: l) ((kT t, v) :: vs)
theorem RelKs.mono {K : Fg} {H H' : Hp} (k : Kp H H') {l : List ((Int × Int × Int) × D)} {vs : List (List Key × V)} (r : RelKs K H l vs) : RelKs K H' l vs := by
  induction r with
  | nil => exact .nil
  | cons h _ ih => exact .cons (h.mono k) ih
noncomputable def kL (k : List Int) : List Key := k.map Sum.inl
inductive RelKl (K : Fg) (H : Hp) : List (List Int × D) → List (List Key × V) → Prop where
  | nil : RelKl K H [] []
  | cons {t : List Int} {d : D} {v : V} {l : List (List Int × D)} {vs : List (List Key × V)} : RelD K H d v → RelKl K H l vs → RelKl K H ((t, d) :: l) ((kL t, v) :: vs)
theorem RelKl.mono {K : Fg} {H H' : Hp} (k : Kp H H') {l : List (List Int × D)} {vs : List (List Key × V)} (r : RelKl K H l vs) : RelKl K H' l vs := by
  induction r with
  | nil => exact .nil
  | cons h _ ih => exact .cons (h.mono k) ih
/-- the lists, objects and dicts that may be written -/
structure RelM (K : Fg) (μ : Mu) (H : Hp) : Prop where
  lst : ∀ p xs, μ p = some (.lst xs) → ∃ vs, H p = some (.lst vs) ∧ RelDs K H xs vs
  ins : ∀ p c fs, μ p = some (.ins c fs) → ∃ C dx vs, PySem.W.nsIn K mainGlobals c = some (some (.ref C)) ∧ H p = some (.ins C dx vs) ∧ H dx = some (.own p) ∧ RelFs K H fs vs
  dct : ∀ p kvs, μ p = some (.dct kvs) → ∃ vs, H p = some (.dT vs) ∧ RelKs K H kvs vs
  dcl : ∀ p kvs, μ p = some (.dcl kvs) → ∃ vs, H p = some (.dT vs) ∧ RelKl K H kvs vs
instance {K : Fg} {μ : Mu} {H : Hp} : CoeFun (RelM K μ H) (fun _ => ∀ p xs, μ p = some (.lst xs) → ∃ vs, H p = some (.lst vs) ∧ RelDs K H xs vs) := ⟨RelM.lst⟩
theorem RelM.free {K : Fg} {μ : Mu} {H : Hp} (m : RelM K μ H) {p : Addr} (h : H p = none) : μ p = none := by
  cases e : μ p with
  | none => rfl
  | some o =>
    cases o with
    | lst xs =>
      obtain ⟨vs, q, _⟩ := m.lst p xs e
      rw [h] at q; cases q
    | ins c fs =>
      obtain ⟨C, dx, vs, _, q, _⟩ := m.ins p c fs e
      rw [h] at q; cases q
    | dct kvs =>
      obtain ⟨vs, q, _⟩ := m.dct p kvs e
      rw [h] at q; cases q
    | dcl kvs =>
      obtain ⟨vs, q, _⟩ := m.dcl p kvs e
      rw [h] at q; cases q
theorem RelM.newT {K : Fg} {μ : Mu} {H : Hp} {p : Addr} {o : HO} (h : H p = none) (m : RelM K μ H) : RelM K μ (upd H p o) := by
  have ne : ∀ {q : Addr} {u : HO}, H q = some u → q ≠ p := fun {q u} e z => by subst z; rw [h] at e; cases e
  refine ⟨fun q xs e => ?_, fun q c fs e => ?_, fun q kvs e => ?_, fun q kvs e => ?_⟩
  · obtain ⟨vs, q1, r⟩ := m.lst q xs e
    exact ⟨vs, by rw [upd_ne (ne q1)]; exact q1, r.mono (Kp.new h)⟩
  · obtain ⟨C, dx, vs, n, q1, q2, r⟩ := m.ins q c fs e
    exact ⟨C, dx, vs, n, by rw [upd_ne (ne q1)]; exact q1, by rw [upd_ne (ne q2)]; exact q2, r.mono (Kp.new h)⟩
  · obtain ⟨vs, q1, r⟩ := m.dct q kvs e
    exact ⟨vs, by rw [upd_ne (ne q1)]; exact q1, r.mono (Kp.new h)⟩
  · obtain ⟨vs, q1, r⟩ := m.dcl q kvs e
    exact ⟨vs, by rw [upd_ne (ne q1)]; exact q1, r.mono (Kp.new h)⟩
theorem RelM.newL {K : Fg} {μ : Mu} {H : Hp} {p : Addr} {xs : List D} {vs : List V} (h : H p = none) (r : RelDs K H xs vs) (m : RelM K μ H) : RelM K (updM μ p (.lst xs)) (upd H p (.lst vs)) := by
  have m' := m.newT (o := .lst vs) h
  refine ⟨fun q ys e => ?_, fun q c fs e => ?_, fun q kvs e => ?_, fun q kvs e => ?_⟩
  · by_cases z : q = p
    · subst z
      rw [updM_same] at e; cases e
      exact ⟨vs, upd_same, r.mono (Kp.new h)⟩
    · rw [updM_ne z] at e
      exact m'.lst q ys e
  · by_cases z : q = p
    · subst z
      rw [updM_same] at e; cases e
    · rw [updM_ne z] at e
      exact m'.ins q c fs e
  · by_cases z : q = p
    · subst z
      rw [updM_same] at e; cases e
    · rw [updM_ne z] at e
      exact m'.dct q kvs e
  · by_cases z : q = p
    · subst z
      rw [updM_same] at e; cases e
    · rw [updM_ne z] at e
      exact m'.dcl q kvs e
theorem RelM.wr {K : Fg} {μ : Mu} {H : Hp} {p : Addr} {xs : List D} {vs ws : List V} (h : H p = some (.lst ws)) (r : RelDs K H xs vs) (m : RelM K μ H) : RelM K (updM μ p (.lst xs)) (upd H p (.lst vs)) := by
  refine ⟨fun q ys e => ?_, fun q c fs e => ?_, fun q kvs e => ?_, fun q kvs e => ?_⟩
  · by_cases z : q = p
    · subst z
      rw [updM_same] at e; cases e
      exact ⟨vs, upd_same, r.mono (Kp.wr h)⟩
    · rw [updM_ne z] at e
      rw [upd_ne z]
      obtain ⟨us, q1, r1⟩ := m.lst q ys e
      exact ⟨us, q1, r1.mono (Kp.wr h)⟩
  · by_cases z : q = p
    · subst z
      rw [updM_same] at e; cases e
    · rw [updM_ne z] at e
      obtain ⟨C, dx, us, n, q1, q2, r1⟩ := m.ins q c fs e
      refine ⟨C, dx, us, n, by rw [upd_ne z]; exact q1, ?_, r1.mono (Kp.wr h)⟩
      rw [upd_ne]
      · exact q2
      · intro y; subst y; rw [h] at q2; cases q2
  · by_cases z : q = p
    · subst z
      rw [updM_same] at e; cases e
    · rw [updM_ne z] at e
      rw [upd_ne z]
      obtain ⟨us, q1, r1⟩ := m.dct q kvs e
      exact ⟨us, q1, r1.mono (Kp.wr h)⟩
  · by_cases z : q = p
    · subst z
      rw [updM_same] at e; cases e
    · rw [updM_ne z] at e
      rw [upd_ne z]
      obtain ⟨us, q1, r1⟩ := m.dcl q kvs e
      exact ⟨us, q1, r1.mono (Kp.wr h)⟩
/-- the frame -/
structure RSt (K : Fg) (H : Hp) (ρ : St3) (σ : St) : Prop where
  len : ρ.length = σ.length
  at' : ∀ i d, getI ρ i = some d → ∃ v, σ[i]? = some (some v) ∧ RelD K H d v
theorem RSt.mono {K : Fg} {H H' : Hp} {ρ : St3} {σ : St} (k : Kp H H') (s : RSt K H ρ σ) : RSt K H' ρ σ := ⟨s.len, fun i d e => let ⟨v, h, r⟩ := s.at' i d e; ⟨v, h, r.mono k⟩⟩
theorem getI_set : ∀ (ρ : St3) (i j : Nat) (d : Option D), getI (ρ.set i d) j = if i = j ∧ i < ρ.length then d else getI ρ j
  | [], i, j, d => by simp [getI]
  | o :: r, 0, 0, d => by simp [getI]
  | o :: r, 0, j + 1, d => by simp [getI]
  | o :: r, i + 1, 0, d => by simp [getI]
  | o :: r, i + 1, j + 1, d => by simp only [List.set_cons_succ, getI, getI_set r i j d, List.length_cons]; simp
theorem RSt.set {K : Fg} {H : Hp} {ρ : St3} {σ : St} {d : D} {v : V} (i : Nat) (r : RelD K H d v) (s : RSt K H ρ σ) : RSt K H (ρ.set i (some d)) (σ.set i (some v)) := by
  refine ⟨by simp [s.len], fun j e h => ?_⟩
  rw [getI_set] at h
  split at h
  · next c =>
    obtain ⟨rfl, c2⟩ := c
    cases h
    exact ⟨v, by rw [List.getElem?_set_self (by rw [← s.len]; exact c2)], r⟩
  · next c =>
    obtain ⟨u, q, r'⟩ := s.at' j e h
    have hj : j < σ.length := (List.getElem?_eq_some_iff.mp q).1
    by_cases z : i = j
    · subst z; exact absurd ⟨rfl, by rw [s.len]; exact hj⟩ c
    · exact ⟨u, by rw [List.getElem?_set_ne z]; exact q, r'⟩
theorem RSt.start {K : Fg} {H : Hp} {ds : List D} {vs : List V} (N : List Str) (r : RelDs K H ds vs) : RSt K H (start3 N ds) (L2.start N vs) := by
  have hl := r.length
  refine ⟨by simp [start3, L2.start, hl], fun i d e => ?_⟩
  rw [getI_eq] at e
  unfold start3 at e
  unfold L2.start
  by_cases c : i < ds.length
  · rw [List.getElem?_append_left (by simpa using c), List.getElem?_map] at e
    cases q : ds[i]? with
    | none => rw [q] at e; cases e
    | some d' =>
      rw [q] at e
      have e' : d' = d := by simpa using e
      subst e'
      obtain ⟨v, h1, h2⟩ := r.get q
      exact ⟨v, by rw [List.getElem?_append_left (by rw [List.length_map]; omega), List.getElem?_map, h1]; rfl, h2⟩
  · rw [List.getElem?_append_right (by simpa using c), List.getElem?_replicate] at e
    split at e <;> simp at e

/-! ### what a reading is worth: what is wanted of the value (Q3) leads to what is wanted below (Q) -/
noncomputable abbrev Ks (K : Fg) (H : Hp) (Q3 : VK3) (Q : VK) : Prop := ∀ d μ' v H', Q3 d μ' → Kp H H' → RelD K H' d v → RelM K μ' H' → Q v H'
theorem Ks.after {K : Fg} {H H1 : Hp} {Q3 : VK3} {Q : VK} (k : Ks K H Q3 Q) (e : Kp H H1) : Ks K H1 Q3 Q := fun d μ v H' q e' => k d μ v H' q (e.trans e')
noncomputable def RdE (K : Fg) (tv : TE) (t : TE3) : Prop := ∀ σ H Q ρ μ Q3, RSt K H ρ σ → RelM K μ H → t ρ μ Q3 → Ks K H Q3 Q → tv σ H Q
noncomputable def RE (X : Cx) (e : Expr) (t : TE3) : Prop := ∃ tv, PE X e tv ∧ RdE X.K tv t
noncomputable def RdT (K : Fg) (tv : TT) (t : TT3) : Prop := ∀ σ H Q ρ μ Q3, RSt K H ρ σ → RelM K μ H → t ρ μ Q3 → (∀ b μ' H', Q3 b μ' → Kp H H' → RelM K μ' H' → Q b H') → tv σ H Q
noncomputable def RT (X : Cx) (e : Expr) (t : TT3) : Prop := ∃ tv, PT X e tv ∧ RdT X.K tv t
noncomputable def RW (X : Cx) (e : Expr) (t : TT3) : Prop := ∃ tv, PW X e tv ∧ RdT X.K tv t
noncomputable def RdA (K : Fg) (tv : TA) (t : TA3) : Prop := ∀ σ H Q ρ μ Q3, RSt K H ρ σ → RelM K μ H → t ρ μ Q3 → (∀ ds μ' vs H', Q3 ds μ' → Kp H H' → RelDs K H' ds vs → RelM K μ' H' → Q vs H') → tv σ H Q
noncomputable def RA (X : Cx) (es : List Expr) (t : TA3) : Prop := ∃ tv, PA X es tv ∧ RdA X.K tv t
/-- the ends of a statement -/
structure KsD (K : Fg) (H : Hp) (D3 : Ends3) (D : Ends) : Prop where
  nx : ∀ ρ μ σ H', D3.nx ρ μ → Kp H H' → RSt K H' ρ σ → RelM K μ H' → D.nx σ H'
  bk : ∀ ρ μ σ H', D3.bk ρ μ → Kp H H' → RSt K H' ρ σ → RelM K μ H' → D.bk σ H'
  ct : ∀ ρ μ σ H', D3.ct ρ μ → Kp H H' → RSt K H' ρ σ → RelM K μ H' → D.ct σ H'
  rt : Ks K H D3.rt D.rt
theorem KsD.after {K : Fg} {H H1 : Hp} {D3 : Ends3} {D : Ends} (k : KsD K H D3 D) (e : Kp H H1) : KsD K H1 D3 D :=
  ⟨fun ρ μ σ H' q e' => k.nx ρ μ σ H' q (e.trans e'), fun ρ μ σ H' q e' => k.bk ρ μ σ H' q (e.trans e'), fun ρ μ σ H' q e' => k.ct ρ μ σ H' q (e.trans e'), k.rt.after e⟩
noncomputable def RdS (K : Fg) (tv : TS) (t : TS3) : Prop := ∀ σ H D ρ μ D3, RSt K H ρ σ → RelM K μ H → t D3 ρ μ → KsD K H D3 D → tv D σ H
noncomputable def RS (X : Cx) (st : Stmt) (t : TS3) : Prop := ∃ tv, PS X st tv ∧ RdS X.K tv t
noncomputable def RSs (X : Cx) (st : List Stmt) (t : TS3) : Prop := ∃ tv, PSs X st tv ∧ RdS X.K tv t
noncomputable def RdG (K : Fg) (tv : TG) (t : TG3) : Prop := ∀ v d σ H Q ρ μ Q3, RSt K H ρ σ → RelM K μ H → RelD K H d v → t d ρ μ Q3 → (∀ ρ' μ' σ' H', Q3 ρ' μ' → Kp H H' → RSt K H' ρ' σ' → RelM K μ' H' → Q σ' H') → tv v σ H Q
noncomputable def RG (X : Cx) (e : Expr) (t : TG3) : Prop := ∃ tv, PG X e tv ∧ RdG X.K tv t
noncomputable def RdGs (K : Fg) (tv : TGs) (t : TGs3) : Prop := ∀ vs ds σ H Q ρ μ Q3, RSt K H ρ σ → RelM K μ H → RelDs K H ds vs → t ds ρ μ Q3 → (∀ ρ' μ' σ' H', Q3 ρ' μ' → Kp H H' → RSt K H' ρ' σ' → RelM K μ' H' → Q σ' H') → tv vs σ H Q
noncomputable def RGs (X : Cx) (es : List Expr) (t : TGs3) : Prop := ∃ tv, PGs X es tv ∧ RdGs X.K tv t
/-- operations -/
noncomputable def RdO (K : Fg) (r : R2) (r3 : R3) : Prop := ∀ x y v u H Q μ Q3, RelM K μ H → RelD K H x v → RelD K H y u → r3 x y μ Q3 → Ks K H Q3 Q → r v u H Q
noncomputable def RO (X : Cx) (f : Value → Value → Sem Value) (r3 : R3) : Prop := ∃ r, OpR X f r ∧ RdO X.K r r3
noncomputable def RdC (K : Fg) (r : List V → Hp → VK → Prop) (r3 : C3) : Prop := ∀ xs vs H Q μ Q3, RelM K μ H → RelDs K H xs vs → r3 xs μ Q3 → Ks K H Q3 Q → r vs H Q
noncomputable def RC (X : Cx) (f : Value) (r3 : C3) : Prop := ∃ r, CallR X f r ∧ RdC X.K r r3
noncomputable def RX (X : Cx) (r3 : R3) : Prop := ∃ r, IxR X r ∧ RdO X.K r r3
end Pv

namespace Pv
open PySem L2
section
variable {X : Cx} {a b c e : Expr} {ta tb tc te : TE3} {pos : Pos}
/-! ### names, constants -/
theorem re_var (i : Nat) {x : Str} (hN : X.N[i]? = some x := by rfl) (hv : Vis X.env.scope x := by first | exact Or.inl rfl | exact Or.inr (Or.inl rfl) | exact Or.inr (Or.inr rfl)) (hd : (x == ("__debug__" : Str)) = false := by decide)
    (hcd : (x == ("__classdict__" : Str)) = false := by decide) : RE X (.Name x pos) (v3 i) := by
  refine ⟨_, pe_var hN hv hd hcd, fun σ H Q ρ μ Q3 s m h k => ?_⟩
  unfold v3 at h
  cases q : getI ρ i with
  | none => rw [q] at h; exact h.elim
  | some d =>
    rw [q] at h
    obtain ⟨v, e, r⟩ := s.at' i d q
    exact ⟨v, e, k d μ v H h (Kp.refl H) r m⟩
theorem RdE.cst {K : Fg} {d : D} {v : V} (r : ∀ H, RelD K H d v) : RdE K (tC v) (c3 d) := fun σ H Q ρ μ Q3 s m h k => k d μ v H h (Kp.refl H) (r H) m
theorem re_int {i : Int} {j} : RE X (.Constant (.int i) j pos) (c3 (.int i)) := ⟨_, pe_int, RdE.cst fun _ => .int i⟩
theorem re_bl {i : Bool} {j} : RE X (.Constant (.bool i) j pos) (c3 (.bl i)) := ⟨_, pe_bl, RdE.cst fun _ => .bl i⟩
theorem re_non {j} : RE X (.Constant .none j pos) (c3 .non) := ⟨_, pe_non, RdE.cst fun _ => .non⟩
/-- a name of the module that stands for a value -/
noncomputable def Gd (K : Fg) (mg : Str → Option Value) (x : Str) (d : D) : Prop := ∃ u v, mg x = some u ∧ RelV v u ∧ ∀ H, RelD K H d v
theorem re_g {x : Str} {d : D} (g : Gd X.K X.mg x d) (hg : Gl X x := by rfl) (hd : (x == ("__debug__" : Str)) = false := by decide) : RE X (.Name x pos) (c3 d) := by
  obtain ⟨u, v, hm, r, rd⟩ := g
  exact ⟨_, pe_glob hg hm r hd, RdE.cst rd⟩
/-! ### operators -/
theorem re_op {op : Operator} {r3 : R3} (ho : RO X (binaryOp op) r3) (ha : RE X a ta) (hb : RE X b tb) : RE X (.BinOp a op b pos) (o3 r3 ta tb) := by
  obtain ⟨r, po, ro⟩ := ho
  obtain ⟨va, pa, ra⟩ := ha
  obtain ⟨vb, pb, rb⟩ := hb
  exact ⟨_, pe_op po pa pb, fun σ H Q ρ μ Q3 s m h k => ra σ H _ ρ μ _ s m h fun x μ1 v H1 h1 k1 r1 m1 => rb σ H1 _ ρ μ1 _ (s.mono k1) m1 h1 fun y μ2 u H2 h2 k2 r2 m2 =>
    ro x y v u H2 Q μ2 Q3 m2 (r1.mono k2) r2 h2 (k.after (k1.trans k2))⟩
theorem RdE.op {K : Fg} {r : R2} {r3 : R3} {va vb : TE} (ra : RdE K va ta) (rb : RdE K vb tb) (ro : RdO K r r3) : RdE K (tOp r va vb) (o3 r3 ta tb) := fun σ H Q ρ μ Q3 s m h k =>
  ra σ H _ ρ μ _ s m h fun x μ1 v H1 h1 k1 r1 m1 => rb σ H1 _ ρ μ1 _ (s.mono k1) m1 h1 fun y μ2 u H2 h2 k2 r2 m2 => ro x y v u H2 Q μ2 Q3 m2 (r1.mono k2) r2 h2 (k.after (k1.trans k2))
theorem RdT.test {K : Fg} {va : TE} (ra : RdE K va ta) : RdT K (tTest va) (b3 ta) := fun σ H Q ρ μ Q3 s m h k => by
  refine ra σ H _ ρ μ _ s m h fun d μ1 v H1 h1 k1 r1 m1 => ?_
  cases r1 with
  | bl c => exact ⟨c, rfl, k c μ1 H1 h1 k1 m1⟩
  | _ => exact False.elim h1
theorem re_cmp {op : CmpOp} {r3 : R3} (ho : RO X (compareOp op) r3) (ha : RE X a ta) (hb : RE X b tb) (hm : behindInMarks op b = false := by first | exact nomark _ | with_unfolding_all rfl) : RE X (.Compare a [op] [b] pos) (o3 r3 ta tb) := by
  obtain ⟨r, po, ro⟩ := ho
  obtain ⟨va, pa, ra⟩ := ha
  obtain ⟨vb, pb, rb⟩ := hb
  exact ⟨_, pe_cmpR po pa pb hm, ra.op rb ro⟩
theorem rt_cmp {op : CmpOp} {r3 : R3} (ho : RO X (compareOp op) r3) (ha : RE X a ta) (hb : RE X b tb) (hm : behindInMarks op b = false := by first | exact nomark _ | with_unfolding_all rfl) : RT X (.Compare a [op] [b] pos) (b3 (o3 r3 ta tb)) := by
  obtain ⟨r, po, ro⟩ := ho
  obtain ⟨va, pa, ra⟩ := ha
  obtain ⟨vb, pb, rb⟩ := hb
  exact ⟨_, pt_cmpR po pa pb hm, RdT.test (ra.op rb ro)⟩
theorem rt_val (ha : RE X a ta) (he : ∀ whole, isTrue a X.env whole = (do let v ← whole; standAt a.pos; holding [v] (truthy v)) := by intro _; rfl) : RT X a (b3 ta) := by
  obtain ⟨va, pa, ra⟩ := ha
  exact ⟨_, pt_val pa he, RdT.test ra⟩
variable {tA tB' : TT3} {rest : List Expr}
theorem RW.pt (h : RW X a tA) : RT X a tA := let ⟨t, p, r⟩ := h; ⟨t, p.pt, r⟩
theorem rw_pt (h : RW X a tA) : RT X a tA := h.pt
theorem rw_or1 (h : RT X a tA) : RW X (.BoolOp .Or [a] pos) tA := let ⟨t, p, r⟩ := h; ⟨t, pw_or1 p, r⟩
theorem rw_or (ha : RT X a tA) (hb : RW X (.BoolOp .Or (b :: rest) pos) tB') : RW X (.BoolOp .Or (a :: b :: rest) pos) (or3 tA tB') := by
  obtain ⟨va, pa, ra⟩ := ha
  obtain ⟨vb, pb, rb⟩ := hb
  refine ⟨_, pw_or pa pb, fun σ H Q ρ μ Q3 s m h k => ra σ H _ ρ μ _ s m h fun c μ1 H1 h1 k1 m1 => ?_⟩
  cases c with
  | true => exact k _ _ _ h1 k1 m1
  | false => exact rb σ H1 Q ρ μ1 Q3 (s.mono k1) m1 h1 fun b μ' H' q e => k b μ' H' q (k1.trans e)
/-! ### argument lists, displays -/
variable {es : List Expr} {t : TA3}
theorem ra_nil : RA X [] nil3 := ⟨_, pa_nil, fun σ H Q ρ μ Q3 s m h k => k [] μ [] H h (Kp.refl H) .nil m⟩
theorem ra_cons (ha : RE X e te) (hr : RA X es t) (hs : starEach (e :: es) X.env = (false, eval e X.env) :: starEach es X.env := by rfl) : RA X (e :: es) (cons3 te t) := by
  obtain ⟨va, pa, ra⟩ := ha
  obtain ⟨vb, pb, rb⟩ := hr
  exact ⟨_, pa_cons pa pb hs, fun σ H Q ρ μ Q3 s m h k => ra σ H _ ρ μ _ s m h fun d μ1 v H1 h1 k1 r1 m1 => rb σ H1 _ ρ μ1 _ (s.mono k1) m1 h1 fun ds μ2 vs H2 h2 k2 r2 m2 =>
    k _ _ _ _ h2 (k1.trans k2) (.cons (r1.mono k2) r2) m2⟩
theorem re_tup {x1} (h : RA X es t) : RE X (.Tuple es x1 pos) (tup3 t) := by
  obtain ⟨va, pa, ra⟩ := h
  refine ⟨_, pe_tup pa, fun σ H Q ρ μ Q3 s m h k => ra σ H _ ρ μ _ s m h fun ds μ1 vs H1 h1 k1 r1 m1 => ⟨by rw [← r1.length]; exact h1.1, fun p hp => ?_⟩⟩
  exact k _ _ _ _ h1.2 (k1.trans (Kp.new hp)) (.tup upd_same (r1.mono (Kp.new hp))) (m1.newT hp)
theorem re_lst (h : RA X es t) : RE X (.List es pos) (lst3 t) := by
  obtain ⟨va, pa, ra⟩ := h
  refine ⟨_, pe_lst pa, fun σ H Q ρ μ Q3 s m h k => ra σ H _ ρ μ _ s m h fun ds μ1 vs H1 h1 k1 r1 m1 => ⟨by rw [← r1.length]; exact h1.1, fun p hp => ?_⟩⟩
  exact k _ _ _ _ (h1.2 p (m1.free hp)) (k1.trans (Kp.new hp)) (.ref p) (m1.newL hp r1)
/-! ### statements -/
variable {st : Stmt} {sts : List Stmt} {t3 u3 : TS3}
theorem rss_nil : RSs X [] next3 := ⟨_, pss_nil, fun σ H D ρ μ D3 s m h k => k.nx ρ μ σ H h (Kp.refl H) s m⟩
theorem rss_one (h : RS X st t3) : RSs X [st] t3 := let ⟨t, p, r⟩ := h; ⟨t, pss_one p, r⟩
theorem rss_cons (h1 : RS X st t3) (h2 : RSs X sts u3) : RSs X (st :: sts) (seq3 t3 u3) := by
  obtain ⟨va, pa, ra⟩ := h1
  obtain ⟨vb, pb, rb⟩ := h2
  refine ⟨_, pss_cons pa pb, fun σ H D ρ μ D3 s m h k => ra σ H _ ρ μ _ s m h ⟨fun ρ1 μ1 σ1 H1 h1 k1 s1 m1 => rb σ1 H1 D ρ1 μ1 D3 s1 m1 h1 (k.after k1), k.bk, k.ct, k.rt⟩⟩
theorem rs_never : RS X st never3 := ⟨_, ps_never, fun σ H D ρ μ D3 s m h k => h⟩
theorem rs_expr (he : RE X e te) (hs : swapsWith e none pos.line X.env = pure false := by rfl) : RS X (.Expr e pos) (drop3 te) := by
  obtain ⟨va, pa, ra⟩ := he
  exact ⟨_, ps_expr pa hs, fun σ H D ρ μ D3 s m h k => ra σ H _ ρ μ _ s m h fun d μ1 v H1 h1 k1 r1 m1 => k.nx ρ μ1 σ H1 h1 k1 (s.mono k1) m1⟩
theorem rs_ret (he : RE X e te) : RS X (.Return (some e) pos) (ret3 te) := by
  obtain ⟨va, pa, ra⟩ := he
  exact ⟨_, ps_ret pa, fun σ H D ρ μ D3 s m h k => ra σ H _ ρ μ _ s m h k.rt⟩
theorem rs_if {as bs : List Stmt} (hc : RT X c tA) (ha : RSs X as t3) (hb : RSs X bs u3) : RS X (.If c as bs pos) (ifs3 tA t3 u3) := by
  obtain ⟨vc, pc, rc⟩ := hc
  obtain ⟨va, pa, ra⟩ := ha
  obtain ⟨vb, pb, rb⟩ := hb
  refine ⟨_, ps_if pc pa pb, fun σ H D ρ μ D3 s m h k => rc σ H _ ρ μ _ s m h fun c μ1 H1 h1 k1 m1 => ?_⟩
  cases c with
  | true => exact ra σ H1 D ρ μ1 D3 (s.mono k1) m1 h1 (k.after k1)
  | false => exact rb σ H1 D ρ μ1 D3 (s.mono k1) m1 h1 (k.after k1)
/-! ### targets -/
theorem rg_name {i : Nat} {x : Str} (hN : X.N.Nodup) (hi : X.N[i]? = some x := by rfl) (hx : Loc X.env.scope x := by first | exact Or.inl rfl | exact Or.inr rfl) (hf : X.fn x = true ∨ X.env.scope.names.lookup x = some .local := by first | exact .inl rfl | exact .inr rfl) :
    RG X (.Name x pos) (gn3 i) := ⟨_, pg_name hN hi hx hf, fun v d σ H Q ρ μ Q3 s m r h k => k _ _ _ _ h (Kp.refl H) (s.set i r) m⟩
theorem rgs_nil : RGs X [] gnil3 := ⟨_, pgs_nil, fun vs ds σ H Q ρ μ Q3 s m r h k => by
  cases r with
  | nil => exact ⟨rfl, k _ _ _ _ h (Kp.refl H) s m⟩
  | cons _ _ => exact False.elim h⟩
theorem rgs_cons {g : TG3} {gs : TGs3} (h1 : RG X e g) (h2 : RGs X es gs) (hs : (assignEach (e :: es) X.env).map (·.2) = assign e X.env :: (assignEach es X.env).map (·.2) := by rfl) : RGs X (e :: es) (gcons3 g gs) := by
  obtain ⟨va, pa, ra⟩ := h1
  obtain ⟨vb, pb, rb⟩ := h2
  refine ⟨_, pgs_cons pa pb hs, fun vs ds σ H Q ρ μ Q3 s m r h k => ?_⟩
  cases r with
  | nil => exact False.elim h
  | cons r1 r2 => exact ⟨_, _, rfl, ra _ _ σ H _ ρ μ _ s m r1 h fun ρ1 μ1 σ1 H1 h1 k1 s1 m1 => rb _ _ σ1 H1 Q ρ1 μ1 Q3 s1 m1 (r2.mono k1) h1 fun ρ' μ' σ' H' q e => k ρ' μ' σ' H' q (k1.trans e)⟩
theorem rg_tup {kk : Nat} {gs : TGs3} {n : Nat} (hc : X.calm = true) (h : RGs X es gs) (hn : (assignEach es X.env).length = n := by rfl) (hst : (assignEach es X.env).findIdx? (·.1) = none := by rfl) : RG X (.Tuple es kk pos) (gtup3 n gs) := by
  obtain ⟨va, pa, ra⟩ := h
  refine ⟨_, pg_tup hc pa hn hst, fun v d σ H Q ρ μ Q3 s m r h k => ?_⟩
  cases r with
  | tup hq rs =>
    obtain ⟨hl, h⟩ := h
    exact ⟨_, _, rfl, (SqT.of hq), by rw [← rs.length]; exact hl, ra _ _ σ H Q ρ μ Q3 s m rs h k⟩
  | _ => exact False.elim h
theorem rs_set {i : Nat} {x : Str} {pos' : Pos} (hN : X.N.Nodup) (he : RE X e te) (hi : X.N[i]? = some x := by rfl) (hx : Loc X.env.scope x := by first | exact Or.inl rfl | exact Or.inr rfl) (hs : swapsWith e (some (.Name x pos')) pos.line X.env = pure false := by rfl)
    (hf : X.fn x = true ∨ X.env.scope.names.lookup x = some .local := by first | exact .inl rfl | exact .inr rfl) : RS X (.Assign [.Name x pos'] e pos) (set3 i te) := by
  obtain ⟨va, pa, ra⟩ := he
  exact ⟨_, ps_set hN hi hx pa hs hf, fun σ H D ρ μ D3 s m h k => ra σ H _ ρ μ _ s m h fun d μ1 v H1 h1 k1 r1 m1 => k.nx _ _ _ _ h1 k1 ((s.mono k1).set i r1) m1⟩
theorem rs_asg {tg : Expr} {g : TG3} (he : RE X e te) (hg : RG X tg g) (hs : swapsWithSole [tg] e pos.line X.env = pure false := by rfl) (hw : swappedStores [tg] e X.env = pure none := by rfl)
    (h1 : (assignEach [tg] X.env).map (·.2) = [assign tg X.env] := by rfl) : RS X (.Assign [tg] e pos) (asg3 te g) := by
  obtain ⟨va, pa, ra⟩ := he
  obtain ⟨vg, pg, rg⟩ := hg
  exact ⟨_, ps_asg pa pg hs hw h1, fun σ H D ρ μ D3 s m h k => ra σ H _ ρ μ _ s m h fun d μ1 v H1 h1 k1 r1 m1 => rg v d σ H1 _ ρ μ1 _ (s.mono k1) m1 r1 h1 fun ρ' μ' σ' H' q e => k.nx ρ' μ' σ' H' q (k1.trans e)⟩
theorem ixN_eq (n : Nat) (i : Int) : L2.ixN n i = ixN n i := rfl
theorem rg_sub {o i : Expr} {to ti : TE3} (ho : RE X o to) (hi : RE X i ti)
    (ha : ∀ v, assign (.Subscript o i pos) X.env v = (do
      let ov ← holding [v] (eval o X.env)
      let iv ← holding [v, ov] (eval i X.env)
      standAt pos
      holding [v, ov, iv] (setItem ov iv v)
      release [v, ov, iv] []) := by intro _; rfl) : RG X (.Subscript o i pos) (sub3 to ti) := by
  obtain ⟨va, pa, ra⟩ := ho
  obtain ⟨vb, pb, rb⟩ := hi
  refine ⟨_, pg_sub pa pb set_list ha, fun v d σ H Q ρ μ Q3 s m r h k => ra σ H _ ρ μ _ s m h fun o' μ1 ov H1 h1 k1 r1 m1 => rb σ H1 _ ρ μ1 _ (s.mono k1) m1 h1 fun i' μ2 iv H2 h2 k2 r2 m2 => ?_⟩
  cases r1 with
  | ref p =>
    cases r2 with
    | int kk =>
      dsimp only at h2
      cases e : μ2 p with
      | none => rw [e] at h2; exact h2.elim
      | some oo =>
        cases oo with
        | ins _ _ => rw [e] at h2; exact h2.elim
        | dct _ => rw [e] at h2; exact h2.elim
        | dcl _ => rw [e] at h2; exact h2.elim
        | lst xs =>
          rw [e] at h2
          dsimp only at h2
          cases e2 : ixN xs.length kk with
          | none => rw [e2] at h2; exact h2.elim
          | some j =>
            rw [e2] at h2
            obtain ⟨vs, hv, rv⟩ := m2 p xs e
            have kk' := k1.trans k2
            refine ⟨p, vs, kk, j, rfl, rfl, hv, by rw [← rv.length]; exact e2, k _ _ _ _ h2 (kk'.trans (Kp.wr hv)) (s.mono (kk'.trans (Kp.wr hv))) (m2.wr hv (rv.set (r.mono kk') j))⟩
    | _ => exact False.elim h2
  | _ => cases r2 <;> exact False.elim h2
end
end Pv

namespace Pv
open PySem PySem.Spec PyProof.Rows L2
/-! ### what is walked -/
/-- the iterator hands out the items of l as long as S holds of the lists -/
noncomputable def ItOk (K : Fg) (J : It) (l : List D) (S : Mu → Prop) (H0 : Hp) : Prop := ∀ i H μ, Kp H0 H → RelM K μ H → S μ →
  (∀ d, l[i]? = some d → J.go i H ∧ ∀ x H2, J.yld i H x H2 → Kp H H2 ∧ RelM K μ H2 ∧ RelD K H2 d x) ∧ (l.length ≤ i → J.stop i H)
noncomputable def RdI (K : Fg) (wi : TI) (ti : TI3) : Prop := ∀ σ H R ρ μ R3, RSt K H ρ σ → RelM K μ H → ti ρ μ R3 → (∀ l S μ' J H', R3 l S μ' → Kp H H' → RelM K μ' H' → ItOk K J l S H' → R J H') → wi σ H R
noncomputable def RI (X : Cx) (tg iter : Expr) (ti : TI3) : Prop := ∃ wi, PI X tg iter wi ∧ RdI X.K wi ti
section
variable {X : Cx} {tg iter a b c e : Expr} {ta tb te : TE3} {pos : Pos}
/-- the signs of a text -/
noncomputable def Its (z : Str) : It := ⟨fun i _ => i < z.cps.size, fun i H x H' => H' = H ∧ ∃ c, z.cps[i]? = some c ∧ x = .str ⟨#[c]⟩, fun i _ => z.cps.size ≤ i⟩
theorem turn_str {P : Program} {w : World} {K : Fg} {tg : Expr} (T : String) (x : Str) (t : Tok) (it : Addr)
    (hT : ["enumerate", "zip", "dict_itemiterator", "dict_reverseitemiterator", "odict_iterator", "itertools.zip_longest", "itertools.pairwise"].contains T = false)
    (W : ∀ A : Around, A.handled = none → Walks P w A it [it] [it] x.cps.size (SignAt x) (fun i h => h.IsStrIter it T x t i))
    (sf : ∀ (A : Around) (i : Nat) (s : Shared) (Q : Value → Shared → Prop) (E : Value → Shared → Prop), s.heap.IsStrIter it T x t i → Q (.ref it) s → wpAny (model P w) A (pyIter (.ref it)) Q E s) :
    Turn P w K tg (Its x) [it] it (fun i h => h.IsStrIter it T x t i ∧ i ≤ x.cps.size) where
  mem := by simp
  obj := fun i h st b hb => by
    have e : b = it := by simpa using hb
    subst e
    obtain ⟨⟨o, e, c, d⟩, _⟩ := st
    exact ⟨o, e, fun v z => by rw [d] at z; cases z⟩
  keep := fun i h h' st k => by
    obtain ⟨⟨o, e, c, d⟩, l⟩ := st
    exact ⟨⟨o, k it (by simp) o e, c, d⟩, l⟩
  item := by
    intro X hP hw hK hc i pins s σ H E I hf st hg
    subst hP hw hK
    obtain ⟨f0, f1, f2, f3, f4, f5⟩ := hf it (by simp)
    refine (W X.A (I.ok.hd hc)).item i s _ E hg st.1 fun v h' tk hP hst' hk => ?_
    obtain ⟨c, u, ec, rfl⟩ := hP
    have I1 : Inv X pins σ H { s with heap := h', toks := tk } := I.turned (t' := tk) (fun b o hb e => hk b o (by simpa using hb) e) f0 f1 f3 f4 f5
    obtain ⟨o, e, c1, d⟩ := id hst'
    exact ⟨_, rfl, go_of (s := { s with heap := h', toks := tk }) e c1 d hT ⟨.str ⟨#[c]⟩, H, I1, ⟨u, rfl⟩, ⟨rfl, c, ec, rfl⟩, ⟨hst', hg⟩, fun b hb => (hf b hb).1⟩⟩
  done := by
    intro X hP hw hK hc i pins s σ H E I hf st hg
    subst hP hw hK
    have hg' : x.cps.size ≤ i := hg
    obtain ⟨f0, f1, f2, f3, f4, f5⟩ := hf it (by simp)
    have e1 : i = x.cps.size := Nat.le_antisymm st.2 hg'
    subst e1
    exact (W X.A (I.ok.hd hc)).done s _ E st.1 fun h' tk hk => ⟨rfl, I.turned (t' := tk) (fun b o hb e => hk b o (by simpa using hb) e) f0 f1 f3 f4 f5⟩
  self := fun A i s Q E st h => sf A i s Q E st.1 h
/-- a list or a tuple -/
noncomputable def iSeq (K : Fg) (tl : TE) : TI := fun σ H R => tl σ H fun x H1 => (∃ z, x = .str z ∧ R (Its z) H1) ∨ ∃ a, x = .ref a ∧ (((∃ xs, SqL K H1 a xs) ∧ R (Itl K a) H1) ∨ ((∃ xs, SqT K H1 a xs) ∧ R (Itt K a) H1))
theorem pi_seq {l : Expr} {tl : TE} (hl : PE X l tl) : PI X tg l (iSeq X.K tl) := by
  intro pins s σ H R I h
  refine thn (hl pins s σ H _ I h) fun v s1 ⟨x, H1, I1, r1, q1⟩ => ?_
  have fp : ∀ b ∈ [s1.heap.objs.size], FpOk X pins H1 b := fun b hb => by
    have e : b = s1.heap.objs.size := by simpa using hb
    subst e
    exact I1.fpOk (Nat.le_refl _) (I1.hok.fresh (Nat.le_refl _))
  rcases q1 with ⟨z, e, q⟩ | ⟨a, e, q⟩
  · subst e
    obtain ⟨t, rfl⟩ := r1
    cases ha : z.cps.all (· < 128)
    · refine wpAny_pyIter_wide ha ?_
      exact ⟨s1.heap.objs.size, [s1.heap.objs.size], _, _, H1, rfl, I1.kept (t' := s1.toks) fun b o e => Heap.get?_push_of_some _ e, turn_str "str_iterator" z t _ (by decide) (fun A hA => Walks.strWide hA _ z t) (fun _ _ _ _ _ st h => wpAny_pyIter_striter_wide st h), ⟨⟨_, Heap.get?_push_size _ rfl, rfl, rfl⟩, Nat.zero_le _⟩, fp, q⟩
    · refine wpAny_pyIter_ascii ha ?_
      exact ⟨s1.heap.objs.size, [s1.heap.objs.size], _, _, H1, rfl, I1.kept (t' := s1.toks) fun b o e => Heap.get?_push_of_some _ e, turn_str "str_ascii_iterator" z t _ (by decide) (fun A hA => Walks.strAscii hA _ z t) (fun _ _ _ _ _ st h => wpAny_pyIter_striter_ascii st h), ⟨⟨_, Heap.get?_push_size _ rfl, rfl, rfl⟩, Nat.zero_le _⟩, fp, q⟩
  subst e
  cases r1
  rcases q with ⟨⟨xs, hq⟩, q⟩ | ⟨⟨xs, hq⟩, q⟩
  · obtain ⟨its, rv, p, hz⟩ := I1.list hq
    refine wpAny_pyIter_list p.isList ?_
    exact ⟨s1.heap.objs.size, [s1.heap.objs.size], _, _, H1, rfl, I1.kept (t' := s1.toks) fun b o e => Heap.get?_push_of_some _ e, turn_list a _, ⟨_, Heap.get?_push_size _ rfl, rfl, rfl⟩, fp, q⟩
  · obtain ⟨its, rv, p, hz⟩ := I1.tuple hq
    refine wpAny_pyIter_tuple (show s1.heap.IsTuple a its.toArray from p) ?_
    exact ⟨s1.heap.objs.size, [s1.heap.objs.size], _, _, H1, rfl, I1.kept (t' := s1.toks) fun b o e => Heap.get?_push_of_some _ e, turn_tuple a _, ⟨_, Heap.get?_push_size _ rfl, rfl, rfl⟩, fp, q⟩
theorem itok_tup {K : Fg} {H0 : Hp} {a : Addr} {l : List D} {vs : List V} (h : SqT K H0 a vs) (r : RelDs K H0 l vs) : ItOk K (Itt K a) l (fun _ => True) H0 := fun i H μ k m _ => by
  refine ⟨fun d e => ?_, fun hl => ⟨vs, SqT.mono k h, by rw [← r.length]; exact hl⟩⟩
  obtain ⟨v, e1, r1⟩ := r.get e
  refine ⟨⟨vs, v, SqT.mono k h, e1⟩, fun x H2 y => ?_⟩
  obtain ⟨rfl, y⟩ := y
  have e2 := y vs (SqT.mono k h)
  rw [e1] at e2; cases e2
  exact ⟨Kp.refl _, m, r1.mono k⟩
theorem itok_fls {K : Fg} {H0 : Hp} {a : Addr} {l : List D} {vs : List V} (h : SqF K H0 a vs) (r : RelDs K H0 l vs) : ItOk K (Itl K a) l (fun _ => True) H0 := fun i H μ k m _ => by
  refine ⟨fun d e => ?_, fun hl => ⟨vs, (SqF.mono k h).l, by rw [← r.length]; exact hl⟩⟩
  obtain ⟨v, e1, r1⟩ := r.get e
  refine ⟨⟨vs, v, (SqF.mono k h).l, e1⟩, fun x H2 y => ?_⟩
  obtain ⟨rfl, y⟩ := y
  have e2 := y vs (SqF.mono k h).l
  rw [e1] at e2; cases e2
  exact ⟨Kp.refl _, m, r1.mono k⟩
theorem itok_lst {K : Fg} {H0 : Hp} {a : Addr} {l : List D} : ItOk K (Itl K a) l (fun μ => μ a = some (.lst l)) H0 := fun i H μ k m s => by
  obtain ⟨vs, h, r⟩ := m a l s
  refine ⟨fun d e => ?_, fun hl => ⟨vs, SqL.of h, by rw [← r.length]; exact hl⟩⟩
  obtain ⟨v, e1, r1⟩ := r.get e
  refine ⟨⟨vs, v, SqL.of h, e1⟩, fun x H2 y => ?_⟩
  obtain ⟨rfl, y⟩ := y
  have e2 := y vs (SqL.of h)
  rw [e1] at e2; cases e2
  exact ⟨Kp.refl _, m, r1⟩
theorem itok_str {K : Fg} {H0 : Hp} (z : Str) : ItOk K (Its z) (z.cps.toList.map fun c => D.str ⟨#[c]⟩) (fun _ => True) H0 := fun i H μ k m _ => by
  refine ⟨fun d e => ?_, fun hl => by show z.cps.size ≤ i; simpa using hl⟩
  rw [List.getElem?_map, Array.getElem?_toList] at e
  cases ec : z.cps[i]? with
  | none => rw [ec] at e; cases e
  | some c =>
    rw [ec] at e
    cases e
    refine ⟨?_, fun x H2 y => ?_⟩
    · show i < z.cps.size
      rcases Nat.lt_or_ge i z.cps.size with h | h
      · exact h
      · rw [Array.getElem?_eq_none h] at ec; cases ec
    · obtain ⟨rfl, c', ec', rfl⟩ := y
      rw [ec] at ec'; cases ec'
      exact ⟨Kp.refl _, m, .str _⟩
theorem ri_seq (ha : RE X a ta) : RI X tg a (is3 ta) := by
  obtain ⟨va, pa, ra⟩ := ha
  refine ⟨_, pi_seq pa, fun σ H R ρ μ R3 s m h k => ra σ H _ ρ μ _ s m h fun d μ1 v H1 h1 k1 r1 m1 => ?_⟩
  cases r1 with
  | str z => exact .inl ⟨z, rfl, k _ _ _ _ _ h1 k1 m1 (itok_str z)⟩
  | tup hq rs => exact .inr ⟨_, rfl, .inr ⟨⟨_, (SqT.of hq)⟩, k _ _ _ _ _ h1 k1 m1 (itok_tup (SqT.of hq) rs)⟩⟩
  | fls hq rs => exact .inr ⟨_, rfl, .inl ⟨⟨_, hq.l⟩, k _ _ _ _ _ h1 k1 m1 (itok_fls hq rs)⟩⟩
  | ref p =>
    dsimp only at h1
    cases e : μ1 p with
    | none => rw [e] at h1; exact h1.elim
    | some oo =>
      cases oo with
      | ins _ _ => rw [e] at h1; exact h1.elim
      | dct _ => rw [e] at h1; exact h1.elim
      | dcl _ => rw [e] at h1; exact h1.elim
      | lst xs =>
        rw [e] at h1
        obtain ⟨vs, hv, rv⟩ := m1 p xs e
        exact .inr ⟨_, rfl, .inl ⟨⟨_, SqL.of hv⟩, k _ _ _ _ _ h1 k1 m1 itok_lst⟩⟩
  | _ => exact False.elim h1
theorem rngD_get (lo : Int) (n i : Nat) : (rngD lo n)[i]? = if i < n then some (.int (lo + i)) else none := by
  unfold rngD
  rw [List.getElem?_map]
  by_cases h : i < n
  · rw [List.getElem?_range h, if_pos h]; rfl
  · rw [List.getElem?_eq_none (by simpa using h), if_neg h]; rfl
theorem rngD_len (lo : Int) (n : Nat) : (rngD lo n).length = n := by simp [rngD]
theorem itok_rng {K : Fg} {H0 : Hp} (lo : Int) (n : Nat) : ItOk K (Itr lo n) (rngD lo n) (fun _ => True) H0 := fun i H μ k m _ => by
  refine ⟨fun d e => ?_, fun hl => by rw [rngD_len] at hl; exact hl⟩
  rw [rngD_get] at e
  split at e
  · next h =>
    cases e
    refine ⟨h, fun x H2 y => ?_⟩
    obtain ⟨rfl, rfl⟩ := y
    exact ⟨Kp.refl _, m, .int _⟩
  · cases e
theorem ri_range1 {p : Pos} (hm : X.mg "range" = none) (ha : RE X a ta) (hg : Gl X "range" := by rfl) (hs : starEach [a] X.env = [(false, eval a X.env)] := by rfl) : RI X tg (.Call (.Name "range" p) [a] [] pos) (ir3 (cons3 ta nil3)) := by
  obtain ⟨va, pa, ra⟩ := ra_cons ha ra_nil hs
  refine ⟨_, pi_range1 hg hm pa hs, fun σ H R ρ μ R3 s m h k => ra σ H _ ρ μ _ s m h fun ds μ1 vs H1 h1 k1 r1 m1 => ?_⟩
  cases r1 with
  | nil => exact False.elim h1
  | cons r1 r2 =>
    cases r2 with
    | cons _ _ => cases r1 <;> exact False.elim h1
    | nil =>
      cases r1 with
      | int j => exact ⟨j, rfl, h1.1.1, h1.1.2, k _ _ _ _ _ h1.2 k1 m1 (itok_rng _ _)⟩
      | _ => exact False.elim h1
theorem ri_range2 {p : Pos} (hm : X.mg "range" = none) (ha : RE X a ta) (hb : RE X b tb) (hg : Gl X "range" := by rfl) (hs : starEach [a, b] X.env = [(false, eval a X.env), (false, eval b X.env)] := by rfl) (hs2 : starEach [b] X.env = [(false, eval b X.env)] := by rfl) :
    RI X tg (.Call (.Name "range" p) [a, b] [] pos) (ir23 (cons3 ta (cons3 tb nil3))) := by
  obtain ⟨va, pa, ra⟩ := ra_cons ha (ra_cons hb ra_nil hs2) (by rw [hs, hs2])
  refine ⟨_, pi_range2 hg hm pa hs hs2, fun σ H R ρ μ R3 s m h k => ra σ H _ ρ μ _ s m h fun ds μ1 vs H1 h1 k1 r1 m1 => ?_⟩
  split at h1
  · next i j =>
    cases r1 with
    | cons r1 r2 =>
      cases r2 with
      | cons r2 r3 =>
        cases r3
        cases r1
        cases r2
        exact ⟨i, j, rfl, h1.1, k _ _ _ _ _ h1.2 k1 m1 (itok_rng _ _)⟩
  · exact h1.elim
/-! ### for, while -/
theorem rs_for {body : List Stmt} {ti : TI3} {g : TG3} {tb : TS3} (hp : PassesOwn (model X.prog X.w) X.A X.env X.xe) (hc : X.calm = true) (hi : RI X tg iter ti) (hg : RG X tg g) (hb : RSs X body tb)
    (hs : ∀ x, foldedSetIterable iter X.env x = pure x := by intro _; rfl) : RS X (.For tg iter body [] pos) (for3 ti g tb) := by
  obtain ⟨wi, pi, ri⟩ := hi
  obtain ⟨vg, pg, rg⟩ := hg
  obtain ⟨vb, pb, rb⟩ := hb
  refine ⟨_, ps_for hp hc pi pg pb hs, fun σ H D ρ μ D3 s m h k => ri σ H _ ρ μ _ s m h fun l S μ1 J H1 h1 k1 m1 ok => ?_⟩
  refine ⟨fun i n σ2 H2 => n = l.length - i ∧ i ≤ l.length ∧ ∃ ρ2 μ2, RSt X.K H2 ρ2 σ2 ∧ RelM X.K μ2 H2 ∧ Kp H1 H2 ∧ forS3 S g tb D3 (l.drop i) ρ2 μ2, ⟨l.length, rfl, Nat.zero_le _, ρ, μ1, s.mono k1, m1, Kp.refl _, h1⟩, ?_⟩
  rintro i n σ2 H2 ⟨rfl, hi, ρ2, μ2, s2, m2, k2, h2⟩
  by_cases hlt : i < l.length
  · rw [List.drop_eq_getElem_cons hlt] at h2
    obtain ⟨hS, N, hN, h2⟩ := h2
    obtain ⟨ok1, _⟩ := ok i H2 μ2 k2 m2 hS
    obtain ⟨go, yl⟩ := ok1 l[i] (List.getElem?_eq_getElem hlt)
    refine .inr ⟨go, fun σ3 H3 => ∃ ρ3 μ3, N ρ3 μ3 ∧ RSt X.K H3 ρ3 σ3 ∧ RelM X.K μ3 H3 ∧ Kp H1 H3, fun σ3 H3 ⟨ρ3, μ3, hn, s3, m3, k3⟩ => ⟨l.length - (i + 1), by omega, rfl, hlt, ρ3, μ3, s3, m3, k3, hN _ _ hn⟩, fun x H3 y => ?_⟩
    obtain ⟨k3, m3, r3⟩ := yl x H3 y
    refine rg x l[i] σ2 H3 _ ρ2 μ2 _ (s2.mono k3) m3 r3 h2 fun ρ4 μ4 σ4 H4 h4 k4 s4 m4 => ?_
    have k14 : Kp H1 H4 := k2.trans (k3.trans k4)
    exact rb σ4 H4 _ ρ4 μ4 _ s4 m4 h4 ⟨fun ρ5 μ5 σ5 H5 h5 k5 s5 m5 => ⟨ρ5, μ5, h5, s5, m5, k14.trans k5⟩, fun ρ5 μ5 σ5 H5 h5 k5 s5 m5 => k.nx _ _ _ _ h5 (k1.trans (k14.trans k5)) s5 m5,
      fun ρ5 μ5 σ5 H5 h5 k5 s5 m5 => ⟨ρ5, μ5, h5, s5, m5, k14.trans k5⟩, fun d μ5 v H5 h5 k5 r5 m5 => k.rt _ _ _ _ h5 (k1.trans (k14.trans k5)) r5 m5⟩
  · have e : i = l.length := by omega
    subst e
    rw [List.drop_length] at h2
    obtain ⟨hS, h2⟩ := h2
    exact .inl ⟨(ok _ H2 μ2 k2 m2 hS).2 (Nat.le_refl _), k.nx _ _ _ _ h2 (k1.trans k2) s2 m2⟩
theorem rs_while {body : List Stmt} {tc : TT3} {tb : TS3} (hp : PassesOwn (model X.prog X.w) X.A X.env X.xe) (hc : RT X c tc) (hb : RSs X body tb) : RS X (.While c body [] pos) (while3 tc tb) := by
  obtain ⟨vc, pc, rc⟩ := hc
  obtain ⟨vb, pb, rb⟩ := hb
  refine ⟨_, ps_while hp pc pb, fun σ H D ρ μ D3 s m h k => ?_⟩
  obtain ⟨W, ⟨n0, w0⟩, turn⟩ := h
  refine ⟨fun n σ2 H2 => ∃ ρ2 μ2, W n ρ2 μ2 ∧ RSt X.K H2 ρ2 σ2 ∧ RelM X.K μ2 H2 ∧ Kp H H2, ⟨n0, ρ, μ, w0, s, m, Kp.refl _⟩, ?_⟩
  rintro n σ2 H2 ⟨ρ2, μ2, w2, s2, m2, k2⟩
  refine rc σ2 H2 _ ρ2 μ2 _ s2 m2 (turn n ρ2 μ2 w2) fun b μ3 H3 h3 k3 m3 => ?_
  cases b with
  | true =>
    obtain ⟨N, hN, h3⟩ := h3
    have k23 := k2.trans k3
    refine ⟨fun σ4 H4 => ∃ ρ4 μ4, N ρ4 μ4 ∧ RSt X.K H4 ρ4 σ4 ∧ RelM X.K μ4 H4 ∧ Kp H H4, fun σ4 H4 ⟨ρ4, μ4, hn, s4, m4, k4⟩ => ?_, ?_⟩
    · obtain ⟨n', hl, w4⟩ := hN _ _ hn
      exact ⟨n', hl, ρ4, μ4, w4, s4, m4, k4⟩
    · exact rb σ2 H3 _ ρ2 μ3 _ (s2.mono k3) m3 h3 ⟨fun ρ5 μ5 σ5 H5 h5 k5 s5 m5 => ⟨ρ5, μ5, h5, s5, m5, k23.trans k5⟩, fun ρ5 μ5 σ5 H5 h5 k5 s5 m5 => k.nx _ _ _ _ h5 (k23.trans k5) s5 m5,
        fun ρ5 μ5 σ5 H5 h5 k5 s5 m5 => ⟨ρ5, μ5, h5, s5, m5, k23.trans k5⟩, fun d μ5 v H5 h5 k5 r5 m5 => k.rt _ _ _ _ h5 (k23.trans k5) r5 m5⟩
  | false => exact k.nx _ _ _ _ h3 (k2.trans k3) (s2.mono k3) m3
/-! ### calls -/
noncomputable def lift (K : Fg) (sp : Sp3) : Sp := fun vs H Q _ => ∃ ds μ Q3, RelDs K H ds vs ∧ RelM K μ H ∧ sp ds μ Q3 ∧ Ks K H Q3 Q
/-- a def of the text keeps a promise (k: frames) -/
noncomputable def Cal (P : Program) (w : World) (K : Fg) (mg : Str → Option Value) (base : Heap) (k : Nat) (x : Str) (ps : List Str) (sp : Sp3) : Prop :=
  ∃ f fd, FnOk P w K mg base CX0 k f fd ps (lift K sp) ∧ mg x = some (.ref f) ∧ PySem.W.keepIn K (.ref f) = true ∧ Binds K fd ps []
theorem Cal.mono {P : Program} {w : World} {K : Fg} {mg : Str → Option Value} {base : Heap} {j k : Nat} {x : Str} {ps : List Str} {sp : Sp3} (c : Cal P w K mg base j x ps sp) (h : j ≤ k) : Cal P w K mg base k x ps sp := by
  obtain ⟨f, fd, F, r⟩ := c
  exact ⟨f, fd, F.mono h, r⟩
variable {es : List Expr} {t : TA3} {x : Str} {p : Pos}
theorem re_call {k : Nat} {ps : List Str} {sp : Sp3} (c : Cal X.prog X.w X.K X.mg X.base k x ps sp) (hr : Room k X.A) (ha : RA X (e :: es) t) (hg : Gl X x := by rfl) (hdb : (x == ("__debug__" : Str)) = false := by decide)
    (he : starEach (e :: es) X.env = (false, eval e X.env) :: starEach es X.env := by rfl) (hpl : (backTo pos (starEach es X.env)).any (·.1) = false := by rfl) : RE X (.Call (.Name x p) (e :: es) [] pos) (call3 sp t) := by
  obtain ⟨f, fd, F, hm, hk, hb⟩ := c
  obtain ⟨va, pa, ra⟩ := ha
  refine ⟨_, pe_call F hr hg hm hk hb .nil pass0 pa hdb he hpl, fun σ H Q ρ μ Q3 s m h k => ra σ H _ ρ μ _ s m h fun ds μ1 vs H1 h1 k1 r1 m1 => ?_⟩
  rw [List.append_nil]
  exact ⟨ds, μ1, Q3, r1, m1, h1, k.after k1⟩
theorem re_callB {r : C3} {id : String} (hc : RC X (.builtin id) r) (hm : X.mg x = none) (hv : bootBuiltins x = some (.builtin id)) (ha : RA X (e :: es) t) (hg : Gl X x := by rfl) (hn : x ≠ "__name__" := by decide) (hdb : (x == ("__debug__" : Str)) = false := by decide)
    (he : starEach (e :: es) X.env = (false, eval e X.env) :: starEach es X.env := by rfl) (hpl : (backTo pos (starEach es X.env)).any (·.1) = false := by rfl) : RE X (.Call (.Name x p) (e :: es) [] pos) (call3 r t) := by
  obtain ⟨r', pc, rc⟩ := hc
  obtain ⟨va, pa, ra⟩ := ha
  exact ⟨_, pe_callB pc hg hm hv pa hn hdb he hpl, fun σ H Q ρ μ Q3 s m h k => ra σ H _ ρ μ _ s m h fun ds μ1 vs H1 h1 k1 r1 m1 => rc ds vs H1 Q μ1 Q3 m1 r1 h1 (k.after k1)⟩
theorem re_callTy {r : C3} {T : String} (hc : RC X (.type T) r) (hm : X.mg x = none) (hv : bootBuiltins x = some (.type T)) (ha : RA X (e :: es) t) (hg : Gl X x := by rfl) (hn : x ≠ "__name__" := by decide) (hdb : (x == ("__debug__" : Str)) = false := by decide)
    (he : starEach (e :: es) X.env = (false, eval e X.env) :: starEach es X.env := by rfl) (hpl : (backTo pos (starEach es X.env)).any (·.1) = false := by rfl) : RE X (.Call (.Name x p) (e :: es) [] pos) (call3 r t) := by
  obtain ⟨r', pc, rc⟩ := hc
  obtain ⟨va, pa, ra⟩ := ha
  exact ⟨_, pe_callTy pc hg hm hv pa hn hdb he hpl, fun σ H Q ρ μ Q3 s m h k => ra σ H _ ρ μ _ s m h fun ds μ1 vs H1 h1 k1 r1 m1 => rc ds vs H1 Q μ1 Q3 m1 r1 h1 (k.after k1)⟩
theorem re_ix {r3 : R3} (hx : RX X r3) (ha : RE X a ta) (hb : RE X b tb) (hs : PlainIx b := by intro _ _; rfl) : RE X (.Subscript a b pos) (o3 r3 ta tb) := by
  obtain ⟨r, po, ro⟩ := hx
  obtain ⟨va, pa, ra⟩ := ha
  obtain ⟨vb, pb, rb⟩ := hb
  exact ⟨_, pe_ix po pa pb hs, ra.op rb ro⟩
end
/-! ### a def -/
section
variable {P : Program} {w : World} {K : Fg} {mg : Str → Option Value} {base : Heap}
theorem fnok_of {x : Str} {st : Stmt} {f : Addr} {fd : FuncData} {N ps : List Str} {k : Nat} {sp : Sp3} {t : TS3} (F : Fun K x x st f fd) (S : FnScope N ps (defScope st))
    (len : ∀ ds μ Q, sp ds μ Q → ds.length = ps.length)
    (body : ∀ (cdv : Value) (A : Around) (outer : List Env) (s : Shared) (H : Hp) (E : XK), Room k (A.deeper (envOfC x (defScope st) s.heap.objs.size f cdv)) → RSs (cxOf CX0 P w K mg base N x (defScope st) f cdv A outer s H E).nox (defBody st) t)
    (rd : ∀ ds μ Q, sp ds μ Q → t { nx := fun _ μ' => Q .non μ', rt := Q } (start3 N ds) μ) : FnOk P w K mg base CX0 (k + 1) f fd ps (lift K sp) := by
  refine F.ok S (fun vs H Q E h => ?_) (fun cdv A outer s H vs Q E hr h => ?_)
  · obtain ⟨ds, μ, Q3, r, m, q, ks⟩ := h
    rw [← r.length]; exact len _ _ _ q
  · obtain ⟨ds, μ, Q3, r, m, q, ks⟩ := h
    obtain ⟨tv, p, rt⟩ := body cdv A outer s H E hr
    exact ⟨tv, p, rt _ H _ _ μ _ (RSt.start N r) m (rd ds μ Q3 q) ⟨fun ρ μ' σ H' h' k' s' m' => ks _ _ _ _ h' k' .non m', fun ρ μ' σ H' h' => False.elim h', fun ρ μ' σ H' h' => False.elim h', ks⟩⟩
theorem cal_of {x : Str} {st : Stmt} {f : Addr} {fd : FuncData} {N ps : List Str} {k : Nat} {sp : Sp3} {t : TS3} (F : Fun K x x st f fd) (hm : mg x = some (.ref f)) (hb : Binds K fd ps []) (S : FnScope N ps (defScope st))
    (len : ∀ ds μ Q, sp ds μ Q → ds.length = ps.length)
    (body : ∀ (cdv : Value) (A : Around) (outer : List Env) (s : Shared) (H : Hp) (E : XK), Room k (A.deeper (envOfC x (defScope st) s.heap.objs.size f cdv)) → RSs (cxOf CX0 P w K mg base N x (defScope st) f cdv A outer s H E).nox (defBody st) t)
    (rd : ∀ ds μ Q, sp ds μ Q → t { nx := fun _ μ' => Q .non μ', rt := Q } (start3 N ds) μ) : Cal P w K mg base (k + 1) x ps sp :=
  ⟨f, fd, fnok_of F S len body rd, hm, F.kp, hb⟩
/-- a promise that asks nothing can be asked of nobody -/
theorem cal_zero {x : Str} {st : Stmt} {f : Addr} {fd : FuncData} {ps : List Str} {sp : Sp3} (F : Fun K x x st f fd) (hm : mg x = some (.ref f)) (hb : Binds K fd ps []) (no : ∀ ds μ Q, ¬ sp ds μ Q) : Cal P w K mg base 0 x ps sp := by
  have no' : ∀ vs H Q E, ¬ lift K sp vs H Q E := fun vs H Q E ⟨ds, μ, Q3, _, _, q, _⟩ => no _ _ _ q
  exact ⟨f, fd, ⟨fun vs H Q E h => absurd h (no' vs H Q E), fun A outer s H args us vs Q E _ _ _ _ h => absurd h (no' vs H Q E)⟩, hm, F.kp, hb⟩
end
end Pv

namespace Pv
open PySem PySem.Spec PyProof.Rows L2
section
variable {X : Cx}
/-! ### ints -/
theorem RdO.i0 {K : Fg} {g3 : Int → Int → D} {g : Int → Int → V} (hg : ∀ i j H, RelD K H (g3 i j) (g i j)) : RdO K (rI0 g) (int20 g3) := fun x y v u H Q μ Q3 m rx ry h k => by
  cases rx with
  | int i =>
    cases ry with
    | int j => exact ⟨i, j, rfl, rfl, k _ _ _ _ h (Kp.refl _) (hg i j H) m⟩
    | _ => exact False.elim h
  | _ => cases ry <;> exact False.elim h
theorem RdO.i2 {K : Fg} {C : Int → Int → Prop} {g3 : Int → Int → D} {g : Int → Int → V} (hg : ∀ i j H, RelD K H (g3 i j) (g i j)) : RdO K (rI C g) (int2 C g3) := fun x y v u H Q μ Q3 m rx ry h k => by
  cases rx with
  | int i =>
    cases ry with
    | int j => exact ⟨i, j, rfl, rfl, h.1, k _ _ _ _ h.2 (Kp.refl _) (hg i j H) m⟩
    | _ => exact False.elim h
  | _ => cases ry <;> exact False.elim h
theorem q_sub : RO X (binaryOp .Sub) subR := ⟨_, op_sub, RdO.i0 fun _ _ _ => .int _⟩
theorem q_mod : RO X (binaryOp .Mod) modR := ⟨_, op_mod, RdO.i2 fun _ _ _ => .int _⟩
theorem q_pow : RO X (binaryOp .Pow) powR := ⟨_, op_pow, RdO.i2 fun _ _ _ => .int _⟩
theorem log2_lt {n k : Nat} (hk : 0 < k) (h : n < 2 ^ k) : n.log2 < k := by
  rcases Nat.eq_zero_or_pos n with h0 | hp
  · rw [h0]; simpa using hk
  · exact (Nat.log2_lt (Nat.ne_of_gt hp)).mpr h
theorem op_fdivB : OpR X (binaryOp .FloorDiv) (rI (fun _ j => 0 < j ∧ j < 2 ^ 120) fun i j => .int (i / j)) := opI fun i j _ _ _ _ _ hc q => by
  have h1 : (0 : Int) < j := hc.1
  have h2 : j < 2 ^ 120 := hc.2
  refine floordiv_int (by omega) (by rw [Int.fdiv_eq_ediv_of_nonneg i (by omega)]; exact q) (.inl (PyProof.noPylong_of_log2 ?_))
  have h3 : j.natAbs < 2 ^ 120 := by omega
  exact Nat.lt_trans (log2_lt (by decide) h3) (by decide)
theorem q_fdiv : RO X (binaryOp .FloorDiv) fdivR := ⟨_, op_fdivB, RdO.i2 fun _ _ _ => .int _⟩
theorem CMul.mulok {i j : Int} (h : CMul i j) : IntMulOk i j := by
  rcases h with h | ⟨h1, h2⟩
  · exact L2.CMul.ok h
  · unfold IntMulOk
    intro e
    rw [Bool.and_eq_true] at e
    have e2 := e.2
    unfold Builtin.Int.intTooBig at e2
    have hb : ∀ x : Int, x.natAbs < Big → Builtin.Int.intBits x ≤ 1000 := fun x hx => by
      unfold Builtin.Int.intBits
      split
      · exact Nat.zero_le _
      · exact log2_lt (by decide) hx
    have b1 := hb i h1
    have b2 := hb j h2
    have e3 := of_decide_eq_true e2
    have e4 : (2000 : Nat) < bitsLine := by decide
    omega
theorem op_mulB : OpR X (binaryOp .Mult) (rI CMul fun i j => .int (i * j)) := opI fun _ _ _ _ _ _ _ hc q => mul_int q hc.mulok
theorem q_lt : RO X (compareOp .Lt) ltR := ⟨_, op_lt, RdO.i0 fun _ _ _ => .bl _⟩
/-! ### + -/
/-- t + u, any -/
noncomputable def rCatA (K : Fg) : R2 := fun x y H Q => ∃ a b xs ys, x = .ref a ∧ y = .ref b ∧ SqT K H a xs ∧ SqT K H b ys ∧ xs.length + ys.length ≤ sizeLine ∧
  (xs = [] → Q (.ref b) H) ∧ (ys = [] → Q (.ref a) H) ∧ (∀ p, H p = none → Q (.ref p) (upd H p (.tup (xs ++ ys))))
theorem op_catA : OpR X (binaryOp .Add) (rCatA X.K) := by
  intro pins s σ H x y v u Q I rx ry h
  obtain ⟨a, b, xs, ys, rfl, rfl, ha, hb, hz, q1, q2, q3⟩ := h
  by_cases hx : xs = []
  · cases rx
    cases ry
    obtain ⟨its, r, ht, _⟩ := I.tuple ha
    obtain ⟨its2, r2, ht2, _⟩ := I.tuple hb
    have hi : its = [] := by subst hx; cases r; rfl
    obtain ⟨⟨cls, dd, data, sl⟩, ho, hc, n, hd⟩ := id ht
    obtain ⟨⟨cls2, dd2, data2, sl2⟩, ho2, hc2, n2, hd2⟩ := id ht2
    simp only at hc hd hc2 hd2
    subst hc hd hc2 hd2
    exact concat_meets ⟨_, ho, rfl⟩ ⟨_, ho2, rfl⟩ noFill_tuple_add seq_tuple_add PySem.F.slot_tuple_add PySem.F.entry_tuple_add (PySem.F.args_tuple_add_2 _ _)
      (tuple_addW0 a b its.toArray its2.toArray n n2 dd dd2 sl sl2 (by simp [hi])) ⟨ho, ho2, ⟨.ref b, H, I, rfl, q1 hx⟩⟩
  · exact op_catT pins s σ H _ _ v u Q I rx ry ⟨a, b, xs, ys, rfl, rfl, ha, hb, hx, hz, q2, fun _ => q3⟩
theorem q_add : RO X (binaryOp .Add) addR := by
  refine ⟨_, (op_add.or op_add_str).or (op_cat.or op_catA), fun x y v u H Q μ Q3 m rx ry h k => ?_⟩
  cases rx with
  | int i =>
    cases ry with
    | int j => exact .inl (.inl ⟨i, j, rfl, rfl, k _ _ _ _ h (Kp.refl _) (.int _) m⟩)
    | _ => exact False.elim h
  | str i =>
    cases ry with
    | str j => exact .inl (.inr ⟨i, j, rfl, rfl, h.1, k _ _ _ _ h.2 (Kp.refl _) (.str _) m⟩)
    | _ => exact False.elim h
  | ref p =>
    cases ry with
    | ref q =>
      dsimp only [addR] at h
      cases e : μ p with
      | none => rw [e] at h; exact h.elim
      | some oo =>
        cases oo with
        | ins _ _ => rw [e] at h; exact h.elim
        | dct _ => rw [e] at h; exact h.elim
        | dcl _ => rw [e] at h; exact h.elim
        | lst xs =>
          cases e2 : μ q with
          | none => rw [e, e2] at h; exact h.elim
          | some o2 =>
            cases o2 with
            | ins _ _ => rw [e, e2] at h; exact h.elim
            | dct _ => rw [e, e2] at h; exact h.elim
            | dcl _ => rw [e, e2] at h; exact h.elim
            | lst ys =>
              rw [e, e2] at h
              obtain ⟨vs, hv, rv⟩ := m p xs e
              obtain ⟨us, hu, ru⟩ := m q ys e2
              refine .inr (.inl ⟨p, q, vs, us, rfl, rfl, hv, hu, by rw [← rv.length, ← ru.length]; exact h.1, fun t ht => ?_⟩)
              exact k _ _ _ _ (h.2 t (m.free ht)) (Kp.new ht) (.ref t) (m.newL ht (rv.append ru))
    | _ => exact False.elim h
  | tup hq rs =>
    cases ry with
    | tup hq2 rs2 =>
      rename_i a l vs b l2 us
      refine .inr (.inr ⟨a, b, vs, us, rfl, rfl, (SqT.of hq), (SqT.of hq2), by rw [← rs.length, ← rs2.length]; exact h.1, fun e => ?_, fun e => ?_, fun t ht => ?_⟩)
      · subst e; cases rs
        exact k _ _ _ _ h.2 (Kp.refl _) (.tup hq2 rs2) m
      · subst e; cases rs2
        have h2 := h.2
        rw [List.append_nil] at h2
        exact k _ _ _ _ h2 (Kp.refl _) (.tup hq rs) m
      · exact k _ _ _ _ h.2 (Kp.new ht) (.tup upd_same ((rs.append rs2).mono (Kp.new ht))) (m.newT ht)
    | _ => exact False.elim h
  | _ => cases ry <;> exact False.elim h
/-! ### a[i] -/
theorem RelDs.atI {K : Fg} {H : Hp} {l : List D} {vs : List V} {i : Int} {d : D} (r : RelDs K H l vs) (e : Pv.atI l i = some d) : ∃ v, L2.atI vs i = some v ∧ RelD K H d v := by
  unfold Pv.atI at e
  unfold L2.atI
  rw [ixN_eq, ← r.length]
  cases q : ixN l.length i with
  | none => rw [q] at e; cases e
  | some j =>
    rw [q] at e
    exact r.get e
theorem q_ix : RX X ixR := by
  refine ⟨_, ix_list.or ix_tup, fun x y v u H Q μ Q3 m rx ry h k => ?_⟩
  cases ry with
  | int i =>
    cases rx with
    | tup hq rs =>
      rename_i a l vs
      dsimp only [ixR] at h
      cases e : Pv.atI l i with
      | none => rw [e] at h; exact h.elim
      | some d =>
        rw [e] at h
        obtain ⟨w, e1, r1⟩ := rs.atI e
        exact .inr ⟨a, vs, i, w, rfl, rfl, (SqT.of hq), e1, k _ _ _ _ h (Kp.refl _) r1 m⟩
    | ktp hq rs =>
      rename_i a l vs
      dsimp only [ixR] at h
      cases e : Pv.atI l i with
      | none => rw [e] at h; exact h.elim
      | some d =>
        rw [e] at h
        obtain ⟨w, e1, r1⟩ := rs.atI e
        exact .inr ⟨a, vs, i, w, rfl, rfl, hq, e1, k _ _ _ _ h (Kp.refl _) r1 m⟩
    | fls hq rs =>
      rename_i a l vs
      dsimp only [ixR] at h
      cases e : Pv.atI l i with
      | none => rw [e] at h; exact h.elim
      | some d =>
        rw [e] at h
        obtain ⟨w, e1, r1⟩ := rs.atI e
        exact .inl ⟨a, vs, i, w, rfl, rfl, hq.l, e1, k _ _ _ _ h (Kp.refl _) r1 m⟩
    | ref p =>
      dsimp only [ixR] at h
      cases e0 : μ p with
      | none => rw [e0] at h; exact h.elim
      | some oo =>
        cases oo with
        | ins _ _ => rw [e0] at h; exact h.elim
        | dct _ => rw [e0] at h; exact h.elim
        | dcl _ => rw [e0] at h; exact h.elim
        | lst l =>
          rw [e0] at h
          dsimp only at h
          obtain ⟨vs, hv, rs⟩ := m p l e0
          cases e : Pv.atI l i with
          | none => rw [e] at h; exact h.elim
          | some d =>
            rw [e] at h
            obtain ⟨w, e1, r1⟩ := rs.atI e
            exact .inl ⟨p, vs, i, w, rfl, rfl, SqL.of hv, e1, k _ _ _ _ h (Kp.refl _) r1 m⟩
    | _ => exact False.elim h
  | _ => cases rx <;> exact False.elim h
/-! ### in a tuple of texts -/
theorem strs_rel {K : Fg} {H : Hp} : ∀ {l : List D} {vs : List V} {zs : List Str}, RelDs K H l vs → strs? l = some zs → vs = zs.map V.str
  | _, _, zs, .nil, e => by simp [strs?] at e; subst e; rfl
  | _, _, zs, .cons h r, e => by
    cases h with
    | str x =>
      simp only [strs?] at e
      split at e
      · next ys e1 =>
        simp only [Option.some.injEq] at e
        subst e
        rw [strs_rel r e1]; rfl
      · cases e
    | _ => simp [strs?] at e
theorem inV_strs (z : Str) (zs : List Str) : inV (.str z) (zs.map V.str) = zs.contains z := by
  unfold inV
  rw [List.any_map]
  induction zs with
  | nil => rfl
  | cons y r ih =>
    rw [List.any_cons, ih, List.contains_cons]
    congr 1
    show (y == z) = (z == y)
    rw [Bool.eq_iff_iff, beq_iff_eq, beq_iff_eq]
    exact eq_comm
theorem flat_strs (zs : List Str) : (zs.map V.str).all flatV = true := by
  rw [List.all_map, List.all_eq_true]; intro _ _; rfl
/-! ### built-in functions -/
theorem q_len : RC X (.builtin "len") lenR := by
  refine ⟨_, call_len_seq.or call_len_str, fun xs vs H Q μ Q3 m r h k => ?_⟩
  cases r with
  | nil => exact False.elim h
  | cons r1 r2 =>
    cases r2 with
    | cons _ _ => cases r1 <;> exact False.elim h
    | nil =>
      cases r1 with
      | tup hq rs =>
        rename_i a l vs
        refine .inl ⟨a, vs, rfl, .inr (SqT.of hq), ?_⟩
        rw [← rs.length]
        exact k _ _ _ _ h (Kp.refl _) (.int _) m
      | fls hq rs =>
        rename_i a l vs
        refine .inl ⟨a, vs, rfl, .inl hq.l, ?_⟩
        rw [← rs.length]
        exact k _ _ _ _ h (Kp.refl _) (.int _) m
      | str z => exact .inr ⟨z, rfl, h.1, k _ _ _ _ h.2 (Kp.refl _) (.int _) m⟩
      | ref p =>
        dsimp only [lenR] at h
        cases e : μ p with
        | none => rw [e] at h; exact h.elim
        | some oo =>
          cases oo with
          | ins _ _ => rw [e] at h; exact h.elim
          | dct _ => rw [e] at h; exact h.elim
          | dcl _ => rw [e] at h; exact h.elim
          | lst l =>
            rw [e] at h
            obtain ⟨vs, hv, rs⟩ := m p l e
            refine .inl ⟨p, vs, rfl, .inl (SqL.of hv), ?_⟩
            rw [← rs.length]
            exact k _ _ _ _ h (Kp.refl _) (.int _) m
      | _ => exact False.elim h
theorem q_tuple : RC X (.type "tuple") tupR := by
  refine ⟨_, call_tuple_of, fun xs vs H Q μ Q3 m r h k => ?_⟩
  cases r with
  | nil => exact False.elim h
  | cons r1 r2 =>
    cases r2 with
    | cons _ _ => cases r1 <;> exact False.elim h
    | nil =>
      cases r1 with
      | tup hq rs => exact ⟨_, _, rfl, .inr ⟨(SqT.of hq), k _ _ _ _ h (Kp.refl _) (.tup hq rs) m⟩⟩
      | ref p =>
        dsimp only [tupR] at h
        cases e : μ p with
        | none => rw [e] at h; exact h.elim
        | some oo =>
          cases oo with
          | ins _ _ => rw [e] at h; exact h.elim
          | dct _ => rw [e] at h; exact h.elim
          | dcl _ => rw [e] at h; exact h.elim
          | lst l =>
            rw [e] at h
            obtain ⟨vs, hv, rs⟩ := m p l e
            exact ⟨p, vs, rfl, .inl ⟨SqL.of hv, fun t ht => k _ _ _ _ h (Kp.new ht) (.tup upd_same (rs.mono (Kp.new ht))) (m.newT ht)⟩⟩
      | _ => exact False.elim h
theorem ints_rel {K : Fg} {H : Hp} : ∀ {l : List D} {vs : List V} {zs : List Int}, RelDs K H l vs → ints? l = some zs → vs = zs.map V.int
  | _, _, zs, .nil, e => by simp [ints?] at e; subst e; rfl
  | _, _, zs, .cons h r, e => by
    cases h with
    | int x =>
      simp only [ints?] at e
      split at e
      · next ys e1 =>
        simp only [Option.some.injEq] at e
        subst e
        rw [ints_rel r e1]; rfl
      · cases e
    | _ => simp [ints?] at e
theorem call_sum : X.calm = true → CallR X (.builtin "sum") (fun xs H Q => ∃ (p : Addr) (ns : List Int), xs = [.ref p] ∧ SqL X.K H p (ns.map V.int) ∧ Q (.int ns.sum) H) := by
  intro hc pins s σ H xs us Q I r h
  obtain ⟨p, ns, rfl, hq, q⟩ := h
  obtain ⟨u, rfl, rx⟩ := vals1 r
  cases rx
  obtain ⟨its, r', pl, hz⟩ := I.list hq
  have hi := intsAre_of r'
  obtain ⟨ys, e⟩ := hi.allInts.items
  have hl := pl.isList
  rw [e] at hl
  refine sum_intListG (I.ok.hd hc) hl fun h' tk t' hk => ?_
  refine ⟨.int ns.sum, H, I.kept (t' := tk) hk, ⟨t', ?_⟩, q⟩
  rw [preSum_eq, List.take_of_length_le (by simp), ← nums_intItems, ← e]
  show Value.int (numsOf its).sum t' = _
  rw [hi.numsOf]
theorem q_sum (hc : X.calm = true := by rfl) : RC X (.builtin "sum") sumR := by
  refine ⟨_, call_sum hc, fun xs vs H Q μ Q3 m r h k => ?_⟩
  cases r with
  | nil => exact False.elim h
  | cons r1 r2 =>
    cases r2 with
    | cons _ _ => cases r1 <;> exact False.elim h
    | nil =>
      cases r1 with
      | ref p =>
        dsimp only [sumR] at h
        cases e : μ p with
        | none => rw [e] at h; exact h.elim
        | some oo =>
          cases oo with
          | ins _ _ => rw [e] at h; exact h.elim
          | dct _ => rw [e] at h; exact h.elim
          | dcl _ => rw [e] at h; exact h.elim
          | lst l =>
            rw [e] at h
            dsimp only at h
            obtain ⟨vs, hv, rs⟩ := m p l e
            cases e1 : ints? l with
            | none => rw [e1] at h; exact h.elim
            | some ns =>
              rw [e1] at h
              have ev := ints_rel rs e1
              subst ev
              exact ⟨p, ns, rfl, SqL.of hv, k _ _ _ _ h (Kp.refl _) (.int _) m⟩
      | _ => exact False.elim h
end
end Pv

namespace Pv
open PySem PySem.Spec PyProof.Rows L2
section
variable {X : Cx} {pins : List (Addr × Obj)} {σ : L2.St} {H : Hp} {s : Shared}
/-! ### == -/
mutual
theorem reads_of (I : Inv X pins σ H s) : ∀ {d : D} {v : V} {p : PyData} {u : Value}, RelD X.K H d v → dat d = some p → RelV v u → ∃ as, Reads s.heap u p as
  | _, _, p, u, .non, e, r => by simp only [dat, Option.some.injEq] at e; subst e; cases r; exact ⟨_, Reads.none⟩
  | _, _, p, u, .bl b, e, r => by simp only [dat, Option.some.injEq] at e; subst e; cases r; exact ⟨_, Reads.bool b⟩
  | _, _, p, u, .int i, e, r => by simp only [dat, Option.some.injEq] at e; subst e; obtain ⟨t, rfl⟩ := r; exact ⟨_, Reads.int i t⟩
  | _, _, p, u, .str x, e, r => by
    simp only [dat] at e
    split at e
    · simp only [Option.some.injEq] at e; subst e; obtain ⟨t, rfl⟩ := r; exact ⟨_, Reads.str x t⟩
    · cases e
  | _, _, p, u, .ref a, e, r => by simp [dat] at e
  | _, _, p, u, .ty n, e, r => by simp [dat] at e
  | _, _, p, u, .fls _ _, e, r => by simp [dat] at e
  | _, _, p, u, .exc _ _ _, e, r => by simp [dat] at e
  | _, _, p, u, .tup hq rs, e, r => by
    simp only [dat] at e
    split at e
    · next ps e1 =>
      simp only [Option.some.injEq] at e; subst e
      cases r
      obtain ⟨its, rv, ⟨o, ho, hc, n, hd⟩, hz⟩ := I.tuple (SqT.of hq)
      obtain ⟨as, q⟩ := readsAll_of I rs e1 rv
      exact ⟨_, Reads.tuple ho hc hd (by simpa using q)⟩
    · cases e
  | _, _, p, u, .ktp hq rs, e, r => by
    simp only [dat] at e
    split at e
    · next ps e1 =>
      simp only [Option.some.injEq] at e; subst e
      cases r
      obtain ⟨its, rv, ⟨o, ho, hc, n, hd⟩, hz⟩ := I.tuple hq
      obtain ⟨as, q⟩ := readsAll_of I rs e1 rv
      exact ⟨_, Reads.tuple ho hc hd (by simpa using q)⟩
    · cases e
theorem readsAll_of (I : Inv X pins σ H s) : ∀ {l : List D} {vs : List V} {ps : List PyData} {us : List Value}, RelDs X.K H l vs → dats l = some ps → Vals vs us → ∃ as, ReadsAll s.heap us ps as
  | _, _, ps, us, .nil, e, r => by simp only [dats, Option.some.injEq] at e; subst e; cases r; exact ⟨_, ReadsAll.nil⟩
  | _, _, ps, us, .cons h rs, e, r => by
    simp only [dats] at e
    split at e
    · next p e1 =>
      split at e
      · next qs e2 =>
        simp only [Option.some.injEq] at e; subst e
        cases r with
        | cons r1 r2 =>
          obtain ⟨as, q1⟩ := reads_of I h e1 r1
          obtain ⟨bs, q2⟩ := readsAll_of I rs e2 r2
          exact ⟨_, ReadsAll.cons q1 q2⟩
      · cases e
    · cases e
end
theorem readsM_of (I : Inv X pins σ H s) {μ : Mu} (m : RelM X.K μ H) {d : D} {v : V} {p : PyData} {u : Value} (h : RelD X.K H d v) (e : datM μ d = some p) (r : RelV v u) : ∃ as, Reads s.heap u p as := by
  cases h with
  | ref a =>
    simp only [datM] at e
    split at e
    · next l e0 =>
      split at e
      · next ps e1 =>
        simp only [Option.some.injEq] at e; subst e
        cases r
        obtain ⟨vs, hv, rs⟩ := m a l e0
        obtain ⟨its, rv, pl, hz⟩ := I.list (SqL.of hv)
        obtain ⟨o, ho, hc, n, hd⟩ := pl.isList
        obtain ⟨as, q⟩ := readsAll_of I rs e1 rv
        exact ⟨_, Reads.list ho hc hd (by simpa using q)⟩
      · cases e
    · cases e
  | non => exact reads_of I .non e r
  | bl b => exact reads_of I (.bl b) e r
  | int i => exact reads_of I (.int i) e r
  | str x => exact reads_of I (.str x) e r
  | ty n => exact reads_of I (.ty n) e r
  | tup hq rs => exact reads_of I (.tup hq rs) e r
  | ktp hq rs => exact reads_of I (.ktp hq rs) e r
  | fls hq rs => exact reads_of I (.fls hq rs) e r
  | exc a1 a2 a3 => simp [datM, dat] at e
mutual
theorem canLay_dat : ∀ (d : D) (p : PyData), dat d = some p → p.canLay0 = true
  | .non, p, e => by simp only [dat, Option.some.injEq] at e; subst e; rfl
  | .bl b, p, e => by simp only [dat, Option.some.injEq] at e; subst e; rfl
  | .int b, p, e => by simp only [dat, Option.some.injEq] at e; subst e; rfl
  | .str x, p, e => by
    simp only [dat] at e
    split at e
    · next h => simp only [Option.some.injEq] at e; subst e; exact h
    · cases e
  | .tup l, p, e => by
    simp only [dat] at e
    split at e
    · next ps e1 => simp only [Option.some.injEq] at e; subst e; simp only [PyData.canLay0]; exact canLay_dats l ps e1
    · cases e
  | .ktp l, p, e => by
    simp only [dat] at e
    split at e
    · next ps e1 => simp only [Option.some.injEq] at e; subst e; simp only [PyData.canLay0]; exact canLay_dats l ps e1
    · cases e
  | .fls _, p, e => by simp [dat] at e
  | .ref _, p, e => by simp [dat] at e
  | .ty _, p, e => by simp [dat] at e
theorem canLay_dats : ∀ (l : List D) (ps : List PyData), dats l = some ps → PyData.canLayAll0 ps = true
  | [], ps, e => by simp only [dats, Option.some.injEq] at e; subst e; rfl
  | d :: r, ps, e => by
    simp only [dats] at e
    split at e
    · next p e1 =>
      split at e
      · next qs e2 =>
        simp only [Option.some.injEq] at e; subst e
        simp only [PyData.canLayAll0, Bool.and_eq_true]
        exact ⟨canLay_dat d p e1, canLay_dats r qs e2⟩
      · cases e
    · cases e
end
theorem canLay_datM {μ : Mu} {d : D} {p : PyData} (e : datM μ d = some p) : p.canLay0 = true := by
  cases d with
  | ref a =>
    simp only [datM] at e
    split at e
    · next l e0 =>
      split at e
      · next ps e1 => simp only [Option.some.injEq] at e; subst e; simp only [PyData.canLay0]; exact canLay_dats l ps e1
      · cases e
    · cases e
  | non => exact canLay_dat _ p e
  | bl b => exact canLay_dat _ p e
  | int i => exact canLay_dat _ p e
  | str x => exact canLay_dat _ p e
  | ty n => exact canLay_dat _ p e
  | tup l => exact canLay_dat _ p e
  | ktp l => exact canLay_dat _ p e
  | fls l => exact canLay_dat _ p e
  | exc c => simp [datM, dat] at e
theorem shaped_of {μ : Mu} {d : D} {p : PyData} (e : datM μ d = some p) (h : p.depth ≤ 64) : PySem.SeqAt.shaped p = true := by
  unfold PySem.SeqAt.shaped
  rw [canLay_datM e, decide_eq_true h]; rfl
/-- == of data -/
noncomputable def rEqD (K : Fg) (neg : Bool) : R2 := fun x y H Q => ∃ d e μ p q, RelM K μ H ∧ RelD K H d x ∧ RelD K H e y ∧ datM μ d = some p ∧ datM μ e = some q ∧ p.depth ≤ 64 ∧ q.depth ≤ 64 ∧ Q (.bl (if neg then !PyData.eqv p q else PyData.eqv p q)) H
theorem op_eqD (hu : X.A.units + 64 < cLine) : OpR X (compareOp .Eq) (rEqD X.K false) := by
  intro pins s σ H x y v u Q I rx ry h
  obtain ⟨d, e, μ, p, q, m, rd, re, e1, e2, h1, h2, k⟩ := h
  obtain ⟨as, q1⟩ := readsM_of I m rd e1 rx
  obtain ⟨bs, q2⟩ := readsM_of I m re e2 ry
  exact eq_dataH q1 q2 (shaped_of e1 h1) (shaped_of e2 h2) hu ⟨.bl _, H, I, rfl, k⟩
theorem op_neD (hu : X.A.units + 64 < cLine) : OpR X (compareOp .NotEq) (rEqD X.K true) := by
  intro pins s σ H x y v u Q I rx ry h
  obtain ⟨d, e, μ, p, q, m, rd, re, e1, e2, h1, h2, k⟩ := h
  obtain ⟨as, q1⟩ := readsM_of I m rd e1 rx
  obtain ⟨bs, q2⟩ := readsM_of I m re e2 ry
  exact ne_dataH q1 q2 (shaped_of e1 h1) (shaped_of e2 h2) hu ⟨.bl _, H, I, rfl, k⟩
theorem eqS_v {K : Fg} {H : Hp} {x y : D} {v u : V} {c : Bool} (rx : RelD K H x v) (ry : RelD K H y u) (e : eqS x y = some c) : scal v u = true ∧ decide (v = u) = c := by
  unfold eqS at e
  split at e <;> first | (cases e; done) | (cases rx; cases ry; cases e; exact ⟨rfl, rfl⟩) | (cases rx; cases ry; cases e; refine ⟨rfl, ?_⟩; simp)
theorem hu64 {A : Around} {k : Nat} (hr : Room k A) : A.units + 64 < cLine := by have := hr.un; omega
/-- in, of data -/
noncomputable def rInD (K : Fg) (neg : Bool) : R2 := fun x y H Q => ∃ d e μ p xs, ∃ b : Bool, RelM K μ H ∧ RelD K H d x ∧ RelD K H e y ∧ datM μ d = some p ∧ datM μ e = some (if b then .list xs else .tuple xs) ∧ p.depth ≤ 64 ∧ (if b then PyData.list xs else PyData.tuple xs).depth ≤ 64 ∧
  Q (.bl (if neg then !(xs.any fun e => PyData.eqv e p) else xs.any fun e => PyData.eqv e p)) H
theorem op_notInD (hu : X.A.units + 65 < cLine) : OpR X (compareOp .NotIn) (rInD X.K true) := by
  intro pins s σ H x y v u Q I rx ry h
  obtain ⟨d, e, μ, p, xs, b, m, rd, re, e1, e2, h1, h2, k⟩ := h
  obtain ⟨as, q1⟩ := readsM_of I m rd e1 rx
  obtain ⟨bs, q2⟩ := readsM_of I m re e2 ry
  cases b
  · exact PySem.SeqAt.notIn_tuple_reads q2 q1 (PySem.SeqAt.canLay_of_shaped (shaped_of e2 h2)) (PySem.SeqAt.canLay_of_shaped (shaped_of e1 h1)) (room_in_shaped (shaped_of e1 h1) hu) ⟨.bl _, H, I, rfl, k⟩
  · exact PySem.SeqAt.notIn_list_reads q2 q1 (PySem.SeqAt.canLay_of_shaped (shaped_of e2 h2)) (PySem.SeqAt.canLay_of_shaped (shaped_of e1 h1)) (room_in_shaped (shaped_of e1 h1) hu) ⟨.bl _, H, I, rfl, k⟩
theorem hu65 {A : Around} {k : Nat} (hr : Room k A) : A.units + 65 < cLine := by have := hr.un; omega
theorem inD_v {K : Fg} {neg : Bool} {x y : D} {v u : V} {H : Hp} {Q : VK} {μ : Mu} {Q3 : VK3} (m : RelM K μ H) (rx : RelD K H x v) (ry : RelD K H y u) (h : inD neg x y μ Q3) (k : Ks K H Q3 Q) : rInD K neg v u H Q := by
  unfold inD at h
  split at h
  · next d xs e1 e2 => exact ⟨x, y, μ, d, xs, true, m, rx, ry, e1, e2, h.1.1, h.1.2, k _ _ _ _ h.2 (Kp.refl _) (.bl _) m⟩
  · next d xs e1 e2 => exact ⟨x, y, μ, d, xs, false, m, rx, ry, e1, e2, h.1.1, h.1.2, k _ _ _ _ h.2 (Kp.refl _) (.bl _) m⟩
  · exact h.elim
theorem RdO.inn {K : Fg} {neg : Bool} : RdO K (fun x y H Q => (rIn K neg x y H Q ∨ ∃ i j, x = .str i ∧ y = .str j ∧ Q (.bl (if neg then !(!(Builtin.Str.occurrences j i 0 j.length 1).isEmpty) else !(Builtin.Str.occurrences j i 0 j.length 1).isEmpty)) H) ∨ rInD K neg x y H Q) (inR neg) := fun x y v u H Q μ Q3 m rx ry h k => by
  unfold inR at h
  split at h
  · next z l =>
    cases e : strs? l with
    | none => rw [e] at h; exact .inr (inD_v m rx ry h k)
    | some zs =>
      rw [e] at h
      cases rx
      cases ry with
      | tup hq rs =>
        rename_i a vs
        have ev := strs_rel rs e
        refine .inl <| .inl ⟨a, vs, rfl, .inr (SqT.of hq), rfl, by rw [ev]; exact flat_strs zs, ?_⟩
        rw [ev, inV_strs]
        exact k _ _ _ _ h (Kp.refl _) (.bl _) m
  · next z y =>
    cases rx
    cases ry
    exact .inl <| .inr ⟨z, y, rfl, rfl, k _ _ _ _ h (Kp.refl _) (.bl _) m⟩
  · exact .inr (inD_v m rx ry h k)
theorem q_notin (hu : X.A.units + 65 < cLine) : RO X (compareOp .NotIn) (inR true) := ⟨_, (op_notIn_seq.or op_notIn_str).or (op_notInD hu), RdO.inn⟩
theorem q_eq (hu : X.A.units + 64 < cLine) : RO X (compareOp .Eq) eqR := by
  refine ⟨_, op_eq.or (op_eqD hu), fun x y v u H Q μ Q3 m rx ry h k => ?_⟩
  unfold eqR at h
  cases e : eqS x y with
  | some c =>
    rw [e] at h
    obtain ⟨h1, h2⟩ := eqS_v rx ry e
    refine .inl ⟨h1, ?_⟩
    rw [h2]
    exact k _ _ _ _ h (Kp.refl _) (.bl _) m
  | none =>
    rw [e] at h
    dsimp only at h
    cases e1 : datM μ x with
    | none => rw [e1] at h; exact h.elim
    | some p =>
      cases e2 : datM μ y with
      | none => rw [e1, e2] at h; exact h.elim
      | some q =>
        rw [e1, e2] at h
        exact .inr ⟨x, y, μ, p, q, m, rx, ry, e1, e2, h.1.1, h.1.2, k _ _ _ _ h.2 (Kp.refl _) (.bl _) m⟩
theorem q_ne (hu : X.A.units + 64 < cLine) : RO X (compareOp .NotEq) neR := by
  refine ⟨_, op_ne.or (op_neD hu), fun x y v u H Q μ Q3 m rx ry h k => ?_⟩
  unfold neR at h
  cases e : eqS x y with
  | some c =>
    rw [e] at h
    obtain ⟨h1, h2⟩ := eqS_v rx ry e
    refine .inl ⟨h1, ?_⟩
    rw [h2]
    exact k _ _ _ _ h (Kp.refl _) (.bl _) m
  | none =>
    rw [e] at h
    dsimp only at h
    cases e1 : datM μ x with
    | none => rw [e1] at h; exact h.elim
    | some p =>
      cases e2 : datM μ y with
      | none => rw [e1, e2] at h; exact h.elim
      | some q =>
        rw [e1, e2] at h
        exact .inr ⟨x, y, μ, p, q, m, rx, ry, e1, e2, h.1.1, h.1.2, k _ _ _ _ h.2 (Kp.refl _) (.bl _) m⟩
/-! ### methods of lists -/
variable {o e : Expr} {es : List Expr} {to : TE3} {t : TA3} {apos cpos : Pos}
theorem re_bm {name : Str} {id : String} {r : V → List V → Hp → VK → Prop} {r3 : D → List D → Mu → VK3 → Prop} (slot : Slot "list" name id) (hty : typeOf (.builtin id) = pure (.type "method_descriptor")) (hm : MtR X id r)
    (hrd : ∀ p xs v vs H Q μ Q3, RelM X.K μ H → RelD X.K H (.ref p) v → RelDs X.K H xs vs → r3 (.ref p) xs μ Q3 → Ks X.K H Q3 Q → r v vs H Q) (ho : RE X o to) (ha : RA X (e :: es) t)
    (hbase : attributeBase o name X.env (eval o X.env) = eval o X.env)
    (hfew : ((backTo cpos (starEach (e :: es) X.env)).all (fun x => !x.1) && (backToKw cpos (keywordEach [] X.env)).all (fun x => x.1.isSome)
      && decide ((e :: es).length + ([] : List Keyword).length + (if ([] : List Keyword).isEmpty then 0 else 1) < 30)) = true)
    (hline : (apos.endLine == cpos.line) = true) (hs : starEach (e :: es) X.env = (false, eval e X.env) :: starEach es X.env) (hplain : (backTo cpos (starEach es X.env)).any (·.1) = false) :
    RE X (.Call (.Attribute o name apos) (e :: es) [] cpos) (mt3 r3 to t) := by
  obtain ⟨va, pa, ra⟩ := ho
  obtain ⟨vb, pb, rb⟩ := ha
  refine ⟨_, pe_bm PySem.F.plainAttrs_list slot hty hm pa pb hbase hfew hline hs hplain, fun σ H Q ρ μ Q3 s m h k => ra σ H _ ρ μ _ s m h fun d μ1 v H1 h1 k1 r1 m1 => ?_⟩
  cases r1 with
  | ref p =>
    dsimp only at h1
    cases e0 : μ1 p with
    | none => rw [e0] at h1; exact h1.elim
    | some oo =>
      cases oo with
      | ins _ _ => rw [e0] at h1; exact h1.elim
      | dct _ => rw [e0] at h1; exact h1.elim
      | dcl _ => rw [e0] at h1; exact h1.elim
      | lst l =>
        rw [e0] at h1
        obtain ⟨vs, hv, rs⟩ := m1 p l e0
        refine ⟨.inl ⟨rfl, vs, SqL.of hv⟩, rb σ H1 _ ρ μ1 _ (s.mono k1) m1 h1 fun xs μ2 ys H2 h2 k2 r2 m2 => ?_⟩
        exact hrd p xs _ ys H2 Q μ2 Q3 m2 (.ref p) r2 h2 (k.after (k1.trans k2))
  | _ => exact False.elim h1
theorem re_append (ho : RE X o to) (ha : RA X (e :: es) t) (hbase : attributeBase o "append" X.env (eval o X.env) = eval o X.env := by rfl)
    (hfew : ((backTo cpos (starEach (e :: es) X.env)).all (fun x => !x.1) && (backToKw cpos (keywordEach [] X.env)).all (fun x => x.1.isSome)
      && decide ((e :: es).length + ([] : List Keyword).length + (if ([] : List Keyword).isEmpty then 0 else 1) < 30)) = true := by rfl)
    (hline : (apos.endLine == cpos.line) = true := by rfl) (hs : starEach (e :: es) X.env = (false, eval e X.env) :: starEach es X.env := by rfl) (hplain : (backTo cpos (starEach es X.env)).any (·.1) = false := by rfl) :
    RE X (.Call (.Attribute o "append" apos) (e :: es) [] cpos) (mt3 appR to t) := by
  refine re_bm PySem.F.slot_list_append PySem.F.type_list_append mt_append (fun p xs v vs H Q μ Q3 m rp rx h k => ?_) ho ha hbase hfew hline hs hplain
  cases rp
  cases rx with
  | nil => exact False.elim h
  | cons r1 r2 =>
    cases r2 with
    | cons _ _ => exact False.elim h
    | nil =>
      dsimp only [appR] at h
      cases e0 : μ p with
      | none => rw [e0] at h; exact h.elim
      | some oo =>
        cases oo with
        | ins _ _ => rw [e0] at h; exact h.elim
        | dct _ => rw [e0] at h; exact h.elim
        | dcl _ => rw [e0] at h; exact h.elim
        | lst l =>
          rw [e0] at h
          obtain ⟨vs, hv, rs⟩ := m p l e0
          exact ⟨p, vs, _, rfl, rfl, hv, by rw [← rs.length]; exact h.1, k _ _ _ _ h.2 (Kp.wr hv) .non (m.wr hv (rs.append (.cons r1 .nil)))⟩
theorem re_extend (ho : RE X o to) (ha : RA X (e :: es) t) (hbase : attributeBase o "extend" X.env (eval o X.env) = eval o X.env := by rfl)
    (hfew : ((backTo cpos (starEach (e :: es) X.env)).all (fun x => !x.1) && (backToKw cpos (keywordEach [] X.env)).all (fun x => x.1.isSome)
      && decide ((e :: es).length + ([] : List Keyword).length + (if ([] : List Keyword).isEmpty then 0 else 1) < 30)) = true := by rfl)
    (hline : (apos.endLine == cpos.line) = true := by rfl) (hs : starEach (e :: es) X.env = (false, eval e X.env) :: starEach es X.env := by rfl) (hplain : (backTo cpos (starEach es X.env)).any (·.1) = false := by rfl) :
    RE X (.Call (.Attribute o "extend" apos) (e :: es) [] cpos) (mt3 extR to t) := by
  refine re_bm PySem.F.slot_list_extend PySem.F.type_list_extend mt_extend (fun p xs v vs H Q μ Q3 m rp rx h k => ?_) ho ha hbase hfew hline hs hplain
  cases rp
  cases rx with
  | nil => exact False.elim h
  | cons r1 r2 =>
    cases r2 with
    | cons _ _ => cases r1 <;> exact False.elim h
    | nil =>
      cases r1 with
      | ref q =>
        dsimp only [extR] at h
        cases e0 : μ p with
        | none => rw [e0] at h; exact h.elim
        | some oo =>
          cases oo with
          | ins _ _ => rw [e0] at h; exact h.elim
          | dct _ => rw [e0] at h; exact h.elim
          | dcl _ => rw [e0] at h; exact h.elim
          | lst l =>
            cases e2 : μ q with
            | none => rw [e0, e2] at h; exact h.elim
            | some o2 =>
              cases o2 with
              | ins _ _ => rw [e0, e2] at h; exact h.elim
              | dct _ => rw [e0, e2] at h; exact h.elim
              | dcl _ => rw [e0, e2] at h; exact h.elim
              | lst l2 =>
                rw [e0, e2] at h
                obtain ⟨vs, hv, rs⟩ := m p l e0
                obtain ⟨us, hu, ru⟩ := m q l2 e2
                exact ⟨p, q, vs, us, rfl, rfl, hv, hu, by rw [← rs.length, ← ru.length]; exact h.1, k _ _ _ _ h.2 (Kp.wr hv) .non (m.wr hv (rs.append ru))⟩
      | _ => exact False.elim h
end
end Pv

namespace Pv
open PySem PySem.Spec PyProof.Rows L2
/-! ### a comprehension: a block of its own within the body -/
noncomputable abbrev compCx (X : Cx) (NN : List Str) (scope : Scope) (cl : List (Str × Addr)) (C : Addr) (fp : List Addr) (s₀ : Shared) (H₀ : Hp) (pn : List (Addr × Obj)) : Cx :=
  { X with N := NN, s₀ := s₀, H₀ := H₀, env := compEnvC scope cl C X.env, outer := X.stack, ex := fp, fn := fun _ => false, pn := pn, xe := fun _ _ => False }
structure CompSc (X : Cx) (NN : List Str) (scope : Scope) (cl : List (Str × Addr)) (js : List (Option Nat)) : Prop where
  clos : closureFor scope X.env = pure cl
  cell : ∀ y ∈ scope.names, y.2 ≠ .cell
  kind : scope.kind = .function
  names : ∀ y ∈ scope.names, y.2 = .local → scope.names.lookup y.1 = some .local
  sub : ∀ x c, cl.lookup x = some c → X.env.cells.lookup x = some c
  has : ∀ x, ((relabel scope X.env).names.lookup x = some .cell ∨ (relabel scope X.env).names.lookup x = some .free) → ∃ c, cl.lookup x = some c
  len : js.length = NN.length
  out : ∀ (i j : Nat), js[i]? = some (some j) → ∃ x, NN[i]? = some x ∧ X.N[j]? = some x ∧ Vis X.env.scope x ∧ X.env.scope.names.lookup x ≠ some .local ∧ ((relabel scope X.env).names.lookup x = some .cell ∨ (relabel scope X.env).names.lookup x = some .free)
theorem lookup_mem {α : Type} {x : Str} {k : α} : ∀ {l : List (Str × α)}, l.lookup x = some k → (x, k) ∈ l
  | [], h => by simp at h
  | (n, k') :: r, h => by
    rw [List.lookup_cons] at h
    split at h
    · next e => simp only [Option.some.injEq] at h; subst h; rw [eq_of_beq e]; exact List.mem_cons_self
    · exact List.mem_cons_of_mem _ (lookup_mem h)
/-- no name of the body's is used in it -/
theorem CompSc.closed {X : Cx} {NN : List Str} {scope : Scope} (hf : ∀ y ∈ scope.names, y.2 ≠ .free) (hc : ∀ y ∈ scope.names, y.2 ≠ .cell) (hk : scope.kind = .function) (hn : ∀ y ∈ scope.names, y.2 = .local → scope.names.lookup y.1 = some .local) :
    CompSc X NN scope [] (NN.map fun _ => none) where
  clos := closureFor_none hf
  cell := hc
  kind := hk
  names := hn
  sub := fun x c h => by simp at h
  has := fun x h => by
    exfalso
    have e : (relabel scope X.env).names = scope.names := map_eq_self (l := scope.names) (fun y hy => by
      obtain ⟨n, k⟩ := y
      have : (k == NameKind.free) = false := by simpa using hf _ hy
      simp [this])
    rw [e] at h
    rcases h with h | h
    · exact hc _ (lookup_mem h) rfl
    · exact hf _ (lookup_mem h) rfl
  len := by simp
  out := fun i j h => by
    rw [List.getElem?_map] at h
    cases q : NN[i]? with
    | none => rw [q] at h; cases h
    | some y => rw [q] at h; simp at h
noncomputable def initV (js : List (Option Nat)) (σ : L2.St) : L2.St := js.map fun j => j.bind fun j => (σ[j]?).bind id
/-- the tests -/
noncomputable def PTs (X : Cx) (ifs : List Expr) (t : TT) : Prop := ∀ (pins : List (Addr × Obj)) (s : Shared) (σ : L2.St) (H : Hp) (Q : Bool → Hp → Prop), Inv X pins σ H s → t σ H Q →
  wpAny (model X.prog X.w) X.A (forIn ifs true fun c r => if r = true then do let ok ← isTrue c X.env (eval c X.env); pure (ForInStep.yield ok) else pure (ForInStep.yield r)) (TP X pins σ Q) X.xe s
theorem pts_nil {X : Cx} : PTs X [] (fun _ H Q => Q true H) := fun _ _ _ H _ I h => wpAny_tests_nil ⟨H, I, h⟩
theorem pts_one {X : Cx} {c : Expr} {t : TT} (h : PT X c t) : PTs X [c] t := fun pins s σ H Q I q => wpAny_tests_one (h pins s σ H Q I q)
noncomputable def tComp (js : List (Option Nat)) (wi : TI) (g : TG) (tc : TT) (te : TE) : TE := fun σ H Q => wi σ H fun J H1 => ∀ p, H1 p = none →
  ∃ W : Nat → Nat → L2.St → Hp → Prop, (∃ m, W 0 m (initV js σ) (upd H1 p (.lst []))) ∧ ∀ i m σ' H', W i m σ' H' →
    ((J.stop i H' ∧ Q (.ref p) H') ∨ (J.go i H' ∧ ∀ x H2, J.yld i H' x H2 → g x σ' H2 fun σ3 H3 => tc σ3 H3 fun b H4 =>
      if b = true then te σ3 H4 fun y H5 => ∃ ys, H5 p = some (.lst ys) ∧ ys.length < sizeLine ∧ ∃ m', m' < m ∧ W (i + 1) m' σ3 (upd H5 p (.lst (ys ++ [y]))) else ∃ m', m' < m ∧ W (i + 1) m' σ3 H4))
section
variable {X : Cx} {NN : List Str} {scope : Scope} {cl : List (Str × Addr)} {js : List (Option Nat)}
theorem comp_ok {pins : List (Addr × Obj)} {σ : L2.St} {H : Hp} {s : Shared} {fp : List Addr} {pn : List (Addr × Obj)} (hc : X.calm = true) (S : CompSc X NN scope cl js) (I : Inv X pins σ H s) (f : ∀ b ∈ fp, FpOk X pins H b ∧ b < s.heap.objs.size) :
    (compCx X NN scope cl s.heap.objs.size fp s H pn).Ok where
  mod := I.ok.mod
  kind := S.kind
  glob := I.ok.glob
  blt := I.ok.blt
  above := Nat.le_refl _
  inj := fun x y c h1 h2 => I.ok.inj x y c (S.sub x c h1) (S.sub y c h2)
  has := fun x h => S.has x h
  cab := fun x c h => by cases h
  hd := fun _ => I.ok.hd hc
  frames := I.ok.frames
  stk := .inl rfl
  exf := fun b hb => ⟨Nat.ne_of_lt (f b hb).2, fun x c e => (f b hb).1.2.2.2.2.1 x c (S.sub x c e)⟩
  bs := I.bs
  bsz := Nat.le_trans I.ok.bsz I.sz
  noex := fun b o e hb => by
    rcases (f b hb).1.2.2.2.1 with z | z
    · exact I.ok.noex b o e z
    · exact absurd (Nat.lt_of_lt_of_le (Heap.lt_size e) (Nat.le_trans I.ok.bsz z)) (Nat.lt_irrefl _)
  exfs := fun b hb hfs => by
    rcases List.mem_cons.mp (I.stkSub b hfs) with z | z
    · exact (f b hb).1.2.1 z
    · exact (f b hb).1.2.2.1 z
  funs := I.stack
  frf := I.stkFree
theorem initV_get {js : List (Option Nat)} {σ : L2.St} {i : Nat} {v : V} (h : (initV js σ)[i]? = some (some v)) : ∃ j, js[i]? = some (some j) ∧ σ[j]? = some (some v) := by
  unfold initV at h
  rw [List.getElem?_map] at h
  cases q : js[i]? with
  | none => rw [q] at h; cases h
  | some o =>
    rw [q] at h
    cases o with
    | none => simp at h
    | some j =>
      refine ⟨j, rfl, ?_⟩
      simp only [Option.map_some, Option.bind_some, Option.some.injEq] at h
      cases e : σ[j]? with
      | none => rw [e] at h; simp at h
      | some w => rw [e] at h; simp only [Option.bind_some, id] at h; rw [h]
theorem comp_inv0 {pins : List (Addr × Obj)} {σ : L2.St} {H : Hp} {s : Shared} {fp : List Addr} {h₁ : Heap} {m : Str → Option Value} {tk : Nat} (hc : X.calm = true) (S : CompSc X NN scope cl js) (I : Inv X pins σ H s) (f : ∀ b ∈ fp, FpOk X pins H b ∧ b < s.heap.objs.size)
    (hn : h₁.Ns s.heap.objs.size m) (k : ∀ b u, s.heap.get? b = some u → h₁.get? b = some u) : Inv (compCx X NN scope cl s.heap.objs.size fp s H (X.pn ++ pins)) [] (initV js σ) H { s with heap := h₁, toks := tk } where
  ok := comp_ok hc S I f
  os := rfl
  bare := I.bare
  base := Un.kept k
  loc := by
    refine ⟨m, hn, fun i x v h1 h2 h3 => ?_⟩
    obtain ⟨j, e1, e2⟩ := initV_get h2
    obtain ⟨y, q1, q2, q3, q4, q5⟩ := S.out i j e1
    have q1' : NN[i]? = some x := h1
    rw [q1] at q1'; cases q1'
    obtain ⟨mX, _, hl⟩ := I.loc
    obtain ⟨u, r, l⟩ := hl j x v q2 e2 q3
    refine ⟨u, r, .inr ⟨q5, ?_⟩⟩
    rcases l with ⟨z, _⟩ | ⟨_, c, hc', hcell⟩
    · exact absurd z q4
    · obtain ⟨c', hc2⟩ := S.has x q5
      have e := S.sub x c' hc2
      rw [hc'] at e; cases e
      obtain ⟨o, ho, hd⟩ := hcell
      exact ⟨c, hc2, o, k _ _ ho, hd⟩
  cell := fun x c e => by
    obtain ⟨v, o, ho, hd⟩ := I.cell x c (S.sub x c e)
    exact ⟨v, o, k _ _ ho, hd⟩
  free := I.hok.fresh (Nat.le_refl _)
  freeC := fun x c e => I.freeC x c (S.sub x c e)
  pin := fun p hp => by
    have hp' : p ∈ X.pn ++ pins := by simpa using hp
    obtain ⟨h1, h2, h3, h4, h5⟩ := I.pin p hp'
    refine ⟨k _ _ h1, h2, Nat.ne_of_lt (Heap.lt_size h1), fun z => ?_, h5⟩
    rcases List.mem_cons.mp (I.stkSub _ z) with z | z
    · exact h3 z
    · exact h4 z
  hok := I.hok.kept k
  len := by show (initV js σ).length = NN.length; unfold initV; rw [List.length_map]; exact S.len
theorem pe_comp {elt target iter : Expr} {ifs : List Expr} {pos : Pos} {wi : TI} {g : TG} {tc : TT} {te : TE} (hc : X.calm = true) (S : CompSc X NN scope cl js) (hi : PI X target iter wi)
    (hg : ∀ C fp s₀ H₀ pn, PG (compCx X NN scope cl C fp s₀ H₀ pn) target g) (ht : ∀ C fp s₀ H₀ pn, PTs (compCx X NN scope cl C fp s₀ H₀ pn) ifs tc) (he : ∀ C fp s₀ H₀ pn, PE (compCx X NN scope cl C fp s₀ H₀ pn) elt te)
    (hs : ∀ x, foldedSetIterable iter X.env x = pure x) : PE X (.ListComp elt [⟨target, iter, ifs, 0⟩] scope pos) (tComp js wi g tc te) := by
  intro pins s σ H Q I h
  rw [eval_ListComp]
  refine wpAny_comprehension_free (use := none) rfl hs S.clos S.kind S.names (thn (hi pins s σ H _ I h) fun xv s1 h1 => thn h1 fun itv s2 h2 => ?_)
  obtain ⟨it, fp, tn, J, H2, rfl, I2, T, st2, f2, hW⟩ := h2
  refine wpAny_newObj_type (wpAny_newFunctionEnv S.cell (by intro y hy; simp at hy) (fun h₁ hns₁ hsb₁ => ?_) S.kind)
  dsimp only at hns₁ hsb₁ ⊢
  have hD : H2 s2.heap.objs.size = none := I2.hok.fresh (Nat.le_refl _)
  have I3 : Inv X pins σ (upd H2 s2.heap.objs.size (.lst [])) { s2 with heap := s2.heap.push { cls := .type "list", dict := none, data := .seq ([] : List Value).toArray } } :=
    I2.lnew (t' := s2.toks) (its := []) .nil (by rw [sizeLine_eq]; decide)
  generalize hsD : ({ s2 with heap := s2.heap.push { cls := .type "list", dict := none, data := .seq ([] : List Value).toArray } } : Shared) = sD at I3
  have eh : sD.heap = s2.heap.push { cls := .type "list", dict := none, data := .seq ([] : List Value).toArray } := by rw [← hsD]
  have es : ∀ (h : Heap) (tk : Nat), ({ s2 with heap := h, toks := tk } : Shared) = { sD with heap := h, toks := tk } := fun h tk => by rw [← hsD]
  have hsz : s2.heap.objs.size < sD.heap.objs.size := by rw [eh, Heap.size_push]; exact Nat.lt_succ_self _
  rw [← eh] at hns₁ hsb₁ ⊢
  generalize hp0 : s2.heap.objs.size = p0 at *
  have up : ∀ b u, s2.heap.get? b = some u → sD.heap.get? b = some u := fun b u e => by rw [eh]; exact Heap.get?_push_of_some _ e
  have k : ∀ b u, sD.heap.get? b = some u → h₁.get? b = some u := fun b u e => hsb₁.extBut b u (Nat.ne_of_lt (Heap.lt_size e)) (Heap.get?_push_of_some _ e)
  have f3 : ∀ b ∈ fp, FpOk X pins (upd H2 p0 (.lst [])) b ∧ b < sD.heap.objs.size := fun b hb => by
    obtain ⟨o, ho, _⟩ := T.obj 0 _ st2 b hb
    have hlt : b < p0 := by rw [← hp0]; exact Heap.lt_size ho
    refine ⟨⟨?_, (f2 b hb).2⟩, Nat.lt_trans hlt hsz⟩
    rw [upd_ne (Nat.ne_of_lt hlt)]; exact (f2 b hb).1
  obtain ⟨W, ⟨m0, w0⟩, turn⟩ := hW p0 hD
  have I4 := comp_inv0 (tk := s2.toks + ([] : List (Str × Value)).length) hc S I3 f3 hns₁ k
  have st4 : tn 0 h₁ := T.keep 0 _ _ st2 fun b _ o e => k b o (up b o e)
  rw [es]
  generalize hX' : compCx X NN scope cl sD.heap.objs.size fp sD (upd H2 p0 (.lst [])) (X.pn ++ pins) = X' at I4
  have a1 : X'.env = compEnvC scope cl sD.heap.objs.size X.env := by rw [← hX']
  have a2 : X'.prog = X.prog := by rw [← hX']
  have a3 : X'.w = X.w := by rw [← hX']
  have a4 : X'.A = X.A := by rw [← hX']
  have a5 : X'.K = X.K := by rw [← hX']
  have a6 : X'.calm = true := by rw [← hX']; exact hc
  have a7 : X'.xe = fun _ _ => False := by rw [← hX']
  have a8 : X'.ex = fp := by rw [← hX']
  have T' : Turn X'.prog X'.w X'.K target J fp it tn := by rw [a2, a3, a5]; exact T
  have hg' : PG X' target g := by rw [← hX']; exact hg _ _ _ _ _
  have ht' : PTs X' ifs tc := by rw [← hX']; exact ht _ _ _ _ _
  have he' : PE X' elt te := by rw [← hX']; exact he _ _ _ _ _
  have fin : ∀ {σ' : L2.St} {H' : Hp} {s' : Shared}, Inv X' [] σ' H' s' → Q (.ref p0) H' → compPost (model X.prog X.w) X.A X.xe none (EP X pins σ Q) (.ref p0) sD.heap.objs.size (.ok .next) s' := fun {σ' H' s'} I' q => by
    obtain ⟨m', hn', _⟩ := I'.loc
    rw [a1] at hn'
    refine ⟨m', hn', fun h' sb => ?_⟩
    have u : Un (frs X.stack) fp (upd H2 p0 (.lst [])) H' sD.heap s'.heap := by
      have := I'.base
      rw [← hX'] at this
      exact this
    have hch : ∀ b ∈ fp, (b ∈ X.ex ∨ X.s₀.heap.objs.size ≤ b) ∧ b ≠ X.env.locals ∧ (∀ x c, X.env.cells.lookup x = some c → c ≠ b) ∧ ∀ p ∈ X.pn ++ pins, p.1 ≠ b := fun b hb => by
      obtain ⟨_, z1, _, z3, z4, z5⟩ := (f3 b hb).1
      exact ⟨z3, z1, z4, z5⟩
    have os' : s'.os = sD.os := by
      have := I'.os
      rw [← hX'] at this
      exact this
    have hok' : HOk X.prog X.w H' s'.heap := by
      have := I'.hok
      rw [← hX'] at this
      exact this
    have I5 : Inv X pins σ H' s' := I3.call' os' u hok' I'.bare hch
    have hC : H' sD.heap.objs.size = none := by
      have := I'.free
      rw [a1] at this
      exact this
    refine ⟨.ref p0, H', I5.turned (t' := s'.toks) (it := sD.heap.objs.size) (fun b o hb e => sb.extBut b o hb e) hC (Nat.ne_of_gt I3.lt) (.inr I3.sz) (fun x c e => ?_) (fun p hp => ?_), rfl, q⟩
    · obtain ⟨v, o, ho, _⟩ := I3.cell x c e
      exact Nat.ne_of_lt (Heap.lt_size ho)
    · exact Nat.ne_of_lt (Heap.lt_size (I3.pin p hp).1)
  have fp4 : ∀ {H' : Hp}, (∀ b ∈ fp, H' b = none) → ∀ b ∈ fp, FpOk X' [] H' b := fun hn b hb => by
    obtain ⟨_, z1, z2, z3, z4, z5⟩ := (f3 b hb).1
    rw [← hX']
    refine ⟨hn b hb, Nat.ne_of_lt (f3 b hb).2, fun z => ?_, .inl hb, fun x c e => z4 x c (S.sub x c e), fun p hp => z5 p (by simpa using hp)⟩
    rcases List.mem_cons.mp (I3.stkSub _ z) with z | z
    · exact z1 z
    · exact z2 z
  have loop : ∀ s₃ : Shared, Inv X' [] (initV js σ) (upd H2 p0 (.lst [])) s₃ → tn 0 s₃.heap →
      codeAny (model X.prog X.w) X.A (.compLoop (.ListComp elt [⟨target, iter, ifs, 0⟩] scope pos) 0 (.ref it) (.ref p0) (compEnvC scope cl sD.heap.objs.size X.env)) (compPost (model X.prog X.w) X.A X.xe none (EP X pins σ Q) (.ref p0) sD.heap.objs.size) s₃ := by
    intro s₃ I₃ st₃
    refine codeAny_loop rfl (fun n s' => ∃ i σ' H', Inv X' [] σ' H' s' ∧ tn i s'.heap ∧ (∀ b ∈ fp, H' b = none) ∧ W i n σ' H') (fun n s' hI => ?_) m0 ⟨0, initV js σ, _, I₃, st₃, fun b hb => (f3 b hb).1.1, w0⟩
    obtain ⟨i, σ3, H3, J3, st3, fr3, w3⟩ := hI
    have tr := turn i n σ3 H3 w3
    show wpAny _ X.A ((compTurn (.ListComp elt [⟨target, iter, ifs, 0⟩] scope pos) 0 (.ref it) (.ref p0) (compEnvC scope cl sD.heap.objs.size X.env)).onRaise (fun x => do noteFrame x (compEnvC scope cl sD.heap.objs.size X.env); theTreesLotGoes x)) _ _ s'
    refine wpAny_noted ?_
    rw [compTurn_list, ← a1, ← a2, ← a3, ← a4]
    have nof : ∀ {α : Type} {t : Sem α} {Q' : α → Shared → Prop} {s'' : Shared} {E : Value → Shared → Prop}, wpAny (model X'.prog X'.w) X'.A t Q' X'.xe s'' → wpAny (model X'.prog X'.w) X'.A t Q' E s'' := fun h => wpAny_mono h (fun _ _ q => q) fun _ _ z => by rw [a7] at z; exact z.elim
    rcases tr with ⟨stop, qn⟩ | ⟨go, step⟩
    · refine wpAny_bind (wpAny_standAt (wpAny_bind (nof (thn (T'.done X' rfl rfl rfl a6 i [] s' σ3 H3 X'.xe J3 (fp4 fr3) st3 stop) fun r s4 ⟨hr, J4⟩ => ?_))))
      subst hr
      exact wpAny_pure (fin J4 qn)
    · refine wpAny_bind (wpAny_standAt (wpAny_bind (nof (thn (T'.item X' rfl rfl rfl a6 i [] s' σ3 H3 X'.xe J3 (fp4 fr3) st3 go) fun r s4 ⟨u, hr, h4⟩ => ?_))))
      subst hr
      refine wpAny_bind (nof (thn h4 fun _ s5 ⟨x, H5, I5, r5, y5, st5, fr5⟩ => ?_))
      have I5' := I5.pinned (fp4 fr5) (T.obj _ _ st5)
      refine wpAny_bind (nof (thn (hg' _ s5 σ3 H5 x u _ I5' r5 (step x H5 y5)) fun _ s6 ⟨σ6, H6, I6, q6⟩ => ?_))
      refine wpAny_bind (nof (thn (ht' _ s6 σ6 H6 _ I6 q6) fun ok s7 ⟨H7, I7, q7⟩ => ?_))
      have again : ∀ {s8 : Shared} {σ8 : L2.St} {H8 : Hp}, Inv X' ([] ++ pinsAt fp s5.heap) σ8 H8 s8 → (∃ m', m' < n ∧ W (i + 1) m' σ8 H8) → ∃ m, m < n ∧ ∃ i σ' H', Inv X' [] σ' H' s8 ∧ tn i s8.heap ∧ (∀ b ∈ fp, H' b = none) ∧ W i m σ' H' := fun {s8 σ8 H8} I8 ⟨m', hm, w8⟩ => by
        refine ⟨m', hm, i + 1, σ8, H8, I8.unpinned, T.keep _ _ _ st5 fun b hb o e => (I8.pin (b, o) (List.mem_append_right _ (List.mem_append_right _ (mem_pinsAt hb e)))).1, fun b hb => ?_, w8⟩
        obtain ⟨o, e, d⟩ := T.obj _ _ st5 b hb
        exact (I8.pin (b, o) (List.mem_append_right _ (List.mem_append_right _ (mem_pinsAt hb e)))).2.1
      cases ok with
      | false => exact wpAny_pure ⟨rfl, again I7 q7⟩
      | true =>
        refine wpAny_bind (wpAny_bind (nof (thn (he' _ s7 σ6 H7 _ I7 q7) fun xv s8 ⟨y, H8, I8, r8, ys, q8, hlen, q9⟩ => wpAny_bind (nof ?_))))
        refine thn (mt_append (X := X') _ s8 σ6 H8 (.ref p0) [y] (.ref p0) [xv] (fun v H9 => v = .non ∧ H9 = upd H8 p0 (.lst (ys ++ [y]))) I8 rfl (.cons r8 .nil) ⟨p0, ys, y, rfl, rfl, q8, hlen, rfl, rfl⟩) fun rv s9 ⟨v9, H9, I9, _, _, e9⟩ => ?_
        subst e9
        exact wpAny_pure (wpAny_pure ⟨rfl, again I9 q9⟩)
  exact codeAny_compStart_list (loop _ I4 st4) (T.self X.A 0 _ _ _ st4 (loop _ I4 st4))
end
end Pv

namespace Pv
open PySem PySem.Spec PyProof.Rows L2
theorem bz_len : bootBuiltins "len" = some (.builtin "len") := by decide +kernel
theorem bz_sum : bootBuiltins "sum" = some (.builtin "sum") := by decide +kernel
theorem bz_tuple : bootBuiltins "tuple" = some (.type "tuple") := by decide +kernel
theorem bz_int : bootBuiltins "int" = some (.type "int") := by decide +kernel
theorem bz_list : bootBuiltins "list" = some (.type "list") := by decide +kernel
theorem bz_min : bootBuiltins "min" = some (.builtin "min") := by decide +kernel
theorem bz_max : bootBuiltins "max" = some (.builtin "max") := by decide +kernel
theorem bz_sorted : bootBuiltins "sorted" = some (.builtin "sorted") := by decide +kernel
noncomputable def RTs (X : Cx) (ifs : List Expr) (t : TT3) : Prop := ∃ tv, PTs X ifs tv ∧ RdT X.K tv t
theorem rts_nil {X : Cx} : RTs X [] tt3 := ⟨_, pts_nil, fun σ H Q ρ μ Q3 s m h k => k _ _ _ h (Kp.refl _) m⟩
theorem rts_one {X : Cx} {c : Expr} {t : TT3} (h : RT X c t) : RTs X [c] t := let ⟨tv, p, r⟩ := h; ⟨tv, pts_one p, r⟩
theorem init_rel {K : Fg} {H : Hp} {ρ : St3} {σ : L2.St} (s : RSt K H ρ σ) (js : List (Option Nat)) : RSt K H (js.map fun j => j.bind (getI ρ)) (initV js σ) := by
  refine ⟨by simp [initV], fun i d e => ?_⟩
  rw [getI_eq, List.getElem?_map] at e
  unfold initV
  rw [List.getElem?_map]
  cases q : js[i]? with
  | none => rw [q] at e; cases e
  | some o =>
    rw [q] at e
    cases o with
    | none => simp at e
    | some j =>
      have e' : getI ρ j = some d := by simpa using e
      obtain ⟨v, h1, h2⟩ := s.at' j d e'
      exact ⟨v, by simp [h1], h2⟩
theorem RdE.comp {K : Fg} {js : List (Option Nat)} {wi : TI} {g : TG} {tc : TT} {te : TE} {ti : TI3} {g3 : TG3} {tc3 : TT3} {te3 : TE3} (ri : RdI K wi ti) (rg : RdG K g g3) (rt : RdT K tc tc3) (re : RdE K te te3) : RdE K (tComp js wi g tc te) (comp3 js ti g3 tc3 te3) := by
  intro σ H Q ρ μ Q3 s m h k
  refine ri σ H _ ρ μ _ s m h fun l S μ1 J H1 h1 k1 m1 ok p hp => ?_
  obtain ⟨W, w0, hS, hn, hs⟩ := h1 p (m1.free hp)
  have kn : Kp H1 (upd H1 p (.lst [])) := Kp.new hp
  refine ⟨fun i n σ2 H2 => n = l.length - i ∧ i ≤ l.length ∧ ∃ ρ2 μ2 ys, RSt K H2 ρ2 σ2 ∧ RelM K μ2 H2 ∧ Kp H1 H2 ∧ W (l.drop i) ys ρ2 μ2, ⟨l.length, rfl, Nat.zero_le _, _, _, [], (init_rel (s.mono k1) js).mono kn, m1.newL hp .nil, kn, w0⟩, ?_⟩
  rintro i n σ2 H2 ⟨rfl, hi, ρ2, μ2, ys, s2, m2, k2, w2⟩
  obtain ⟨hS2, hp2⟩ := hS _ _ _ _ w2
  by_cases hlt : i < l.length
  · rw [List.drop_eq_getElem_cons hlt] at w2
    obtain ⟨hz, h2⟩ := hs _ _ _ _ _ w2
    obtain ⟨ok1, _⟩ := ok i H2 μ2 k2 m2 hS2
    obtain ⟨go, yl⟩ := ok1 l[i] (List.getElem?_eq_getElem hlt)
    refine .inr ⟨go, fun x H3 y => ?_⟩
    obtain ⟨k3, m3, r3⟩ := yl x H3 y
    refine rg x l[i] σ2 H3 _ ρ2 μ2 _ (s2.mono k3) m3 r3 h2 fun ρ4 μ4 σ4 H4 h4 k4 s4 m4 => ?_
    refine rt σ4 H4 _ ρ4 μ4 _ s4 m4 h4 fun b μ5 H5 h5 k5 m5 => ?_
    have k15 : Kp H1 H5 := k2.trans (k3.trans (k4.trans k5))
    cases b with
    | false => exact ⟨l.length - (i + 1), by omega, rfl, hlt, ρ4, μ5, ys, s4.mono k5, m5, k15, h5⟩
    | true =>
      refine re σ4 H5 _ ρ4 μ5 _ (s4.mono k5) m5 h5 fun d μ6 v H6 h6 k6 r6 m6 => ?_
      obtain ⟨vs, hv, rv⟩ := m6 p ys h6.1
      refine ⟨vs, hv, by rw [← rv.length]; exact hz, l.length - (i + 1), by omega, rfl, hlt, ρ4, _, _, ((s4.mono k5).mono k6).mono (Kp.wr hv), m6.wr hv (rv.append (.cons r6 .nil)), (k15.trans k6).trans (Kp.wr hv), h6.2⟩
  · have e : i = l.length := by omega
    subst e
    rw [List.drop_length] at w2
    exact .inl ⟨(ok _ H2 μ2 k2 m2 hS2).2 (Nat.le_refl _), k _ _ _ _ (hn _ _ _ w2) (k1.trans k2) (.ref p) m2⟩
section
variable {X : Cx} {elt target iter : Expr} {ifs : List Expr} {pos : Pos} {ti : TI3} {g : TG3} {tc : TT3} {te : TE3} {NN : List Str} {scope : Scope} {cl : List (Str × Addr)} {js : List (Option Nat)}
theorem re_compG (hc : X.calm = true) (S : CompSc X NN scope cl js) (hi : RI X target iter ti) (hg : ∀ C fp s₀ H₀ pn, RG (compCx X NN scope cl C fp s₀ H₀ pn) target g)
    (ht : ∀ C fp s₀ H₀ pn, RTs (compCx X NN scope cl C fp s₀ H₀ pn) ifs tc) (he : ∀ C fp s₀ H₀ pn, RE (compCx X NN scope cl C fp s₀ H₀ pn) elt te)
    (hs : ∀ x, foldedSetIterable iter X.env x = pure x) : RE X (.ListComp elt [⟨target, iter, ifs, 0⟩] scope pos) (comp3 js ti g tc te) := by
  obtain ⟨wi, pi, ri⟩ := hi
  -- one reading for all blocks: the union of theirs
  let gU : TG := fun v σ H Q => ∀ (r : TG3), r = g → ∃ d ρ μ Q3, RSt X.K H ρ σ ∧ RelM X.K μ H ∧ RelD X.K H d v ∧ g d ρ μ Q3 ∧ (∀ ρ' μ' σ' H', Q3 ρ' μ' → Kp H H' → RSt X.K H' ρ' σ' → RelM X.K μ' H' → Q σ' H')
  let tU : TT := fun σ H Q => ∃ ρ μ Q3, RSt X.K H ρ σ ∧ RelM X.K μ H ∧ tc ρ μ Q3 ∧ (∀ b μ' H', Q3 b μ' → Kp H H' → RelM X.K μ' H' → Q b H')
  let eU : TE := fun σ H Q => ∃ ρ μ Q3, RSt X.K H ρ σ ∧ RelM X.K μ H ∧ te ρ μ Q3 ∧ Ks X.K H Q3 Q
  have hg' : ∀ C fp s₀ H₀ pn, PG (compCx X NN scope cl C fp s₀ H₀ pn) target gU := fun C fp s₀ H₀ pn => by
    obtain ⟨tv, p, r⟩ := hg C fp s₀ H₀ pn
    intro pins s σ H v u Q I rv h
    obtain ⟨d, ρ, μ, Q3, a1, a2, a3, a4, a5⟩ := h g rfl
    exact p pins s σ H v u Q I rv (r v d σ H Q ρ μ Q3 a1 a2 a3 a4 a5)
  have ht' : ∀ C fp s₀ H₀ pn, PTs (compCx X NN scope cl C fp s₀ H₀ pn) ifs tU := fun C fp s₀ H₀ pn => by
    obtain ⟨tv, p, r⟩ := ht C fp s₀ H₀ pn
    intro pins s σ H Q I h
    obtain ⟨ρ, μ, Q3, a1, a2, a3, a4⟩ := h
    exact p pins s σ H Q I (r σ H Q ρ μ Q3 a1 a2 a3 a4)
  have he' : ∀ C fp s₀ H₀ pn, PE (compCx X NN scope cl C fp s₀ H₀ pn) elt eU := fun C fp s₀ H₀ pn => by
    obtain ⟨tv, p, r⟩ := he C fp s₀ H₀ pn
    intro pins s σ H Q I h
    obtain ⟨ρ, μ, Q3, a1, a2, a3, a4⟩ := h
    exact p pins s σ H Q I (r σ H Q ρ μ Q3 a1 a2 a3 a4)
  exact ⟨_, pe_comp hc S pi hg' ht' he' hs, RdE.comp ri (fun v d σ H Q ρ μ Q3 a1 a2 a3 a4 a5 _ _ => ⟨d, ρ, μ, Q3, a1, a2, a3, a4, a5⟩) (fun σ H Q ρ μ Q3 a1 a2 a3 a4 => ⟨ρ, μ, Q3, a1, a2, a3, a4⟩) (fun σ H Q ρ μ Q3 a1 a2 a3 a4 => ⟨ρ, μ, Q3, a1, a2, a3, a4⟩)⟩
/-- no name of the body's is used within -/
theorem re_comp (hf : ∀ y ∈ scope.names, y.2 ≠ .free) (hcl : ∀ y ∈ scope.names, y.2 ≠ .cell) (hn : ∀ y ∈ scope.names, y.2 = .local → scope.names.lookup y.1 = some .local) (hi : RI X target iter ti) (hg : ∀ C fp s₀ H₀ pn, RG (compCx X NN scope [] C fp s₀ H₀ pn) target g)
    (ht : ∀ C fp s₀ H₀ pn, RTs (compCx X NN scope [] C fp s₀ H₀ pn) ifs tc) (he : ∀ C fp s₀ H₀ pn, RE (compCx X NN scope [] C fp s₀ H₀ pn) elt te) (hc : X.calm = true := by rfl) (hk : scope.kind = .function := by rfl)
    (hs : ∀ x, foldedSetIterable iter X.env x = pure x := by intro _; rfl) : RE X (.ListComp elt [⟨target, iter, ifs, 0⟩] scope pos) (comp3 (NN.map fun _ => none) ti g tc te) :=
  re_compG hc (CompSc.closed hf hcl hk hn) hi hg ht he hs
end
end Pv

namespace Pv
open PySem PySem.Spec PyProof.Rows L2
/-! ### the module's constants -/
mutual
inductive TupK (K : Fg) : List D → Addr → Prop where
  | mk {a : Addr} {l : List D} {its : Array Value} {n : Nat} {od : Option Addr} {sl : Array (Option Value)} : K.lookup a = some ⟨.type "tuple", od, .seq its n, sl⟩ → its.size ≤ sizeLine → ItK K l its.toList → TupK K l a
inductive ItK (K : Fg) : List D → List Value → Prop where
  | nil : ItK K [] []
  | int {i : Int} {t : Tok} {l : List D} {us : List Value} : ItK K l us → ItK K (.int i :: l) (.int i t :: us)
  | str {x : Str} {t : Tok} {l : List D} {us : List Value} : ItK K l us → ItK K (.str x :: l) (.str x t :: us)
  | bl {b : Bool} {l : List D} {us : List Value} : ItK K l us → ItK K (.bl b :: l) (.bool b :: us)
  | tup {a : Addr} {l' l : List D} {us : List Value} : TupK K l' a → ItK K l us → ItK K (.ktp l' :: l) (.ref a :: us)
end
mutual
theorem TupK.rel {K : Fg} : ∀ {l : List D} {a : Addr}, TupK K l a → ∀ H, RelD K H (.ktp l) (.ref a)
  | _, _, .mk h1 h2 h3, H => by
    obtain ⟨vs, r, rd⟩ := h3.rel
    exact .ktp (.inr ⟨_, _, _, h1, rfl, rfl, h2, r⟩) (rd H)
theorem ItK.rel {K : Fg} : ∀ {l : List D} {us : List Value}, ItK K l us → ∃ vs, Vals vs us ∧ ∀ H, RelDs K H l vs
  | _, _, .nil => ⟨[], .nil, fun _ => .nil⟩
  | _, _, .int h => let ⟨vs, r, rd⟩ := h.rel; ⟨_, .cons (show RelV (.int _) _ from ⟨_, rfl⟩) r, fun H => .cons (.int _) (rd H)⟩
  | _, _, .str h => let ⟨vs, r, rd⟩ := h.rel; ⟨_, .cons (show RelV (.str _) _ from ⟨_, rfl⟩) r, fun H => .cons (.str _) (rd H)⟩
  | _, _, .bl h => let ⟨vs, r, rd⟩ := h.rel; ⟨_, .cons (show RelV (.bl _) _ from rfl) r, fun H => .cons (.bl _) (rd H)⟩
  | _, _, .tup h0 h => let ⟨vs, r, rd⟩ := h.rel; ⟨_, .cons (show RelV (.ref _) _ from rfl) r, fun H => .cons (h0.rel H) (rd H)⟩
end
section
variable {K : Fg} {h : Heap} {mg : Str → Option Value} {x : Str}
theorem gd_tup {a : Addr} {l : List D} (X : K.In h) (G : h.Ns mainGlobals mg) (e : PySem.W.nsIn K mainGlobals x = some (some (.ref a))) (r : TupK K l a) : Gd K mg x (.ktp l) := ⟨_, .ref a, PySem.W.mg_of X G e, rfl, fun H => r.rel H⟩
end
/-! ### the law's own call -/
theorem ints_rels {K : Fg} {H : Hp} : ∀ ns : List Int, RelDs K H (ns.map D.int) (ns.map V.int)
  | [] => .nil
  | n :: r => .cons (.int n) (ints_rels r)
theorem law_lift {K : Fg} {H : Hp} {a : Addr} {ns : List Int} {sp : Sp3} (hO : Only H) (hS : SqL K H a (ns.map V.int)) (h : sp [.fls (ns.map D.int)] (fun _ => none) (fun d _ => d = .bl true)) :
    lift K sp [.ref a] H (fun v _ => v = .bl true) fun _ _ _ => False := by
  have hF : SqF K H a (ns.map V.int) := by
    rcases hS with (h1 | ⟨o, h1⟩) | h1
    · rcases hO a with z | ⟨o, xs, z⟩
      · rw [h1] at z; cases z
      · rw [h1] at z; cases z
    · exact .inl ⟨o, h1⟩
    · exact .inr h1
  refine ⟨_, _, _, .cons (.fls hF (ints_rels ns)) .nil, (⟨fun p xs e => (by cases e), fun p c fs e => (by cases e), fun p kvs e => (by cases e), fun p kvs e => (by cases e)⟩), h, fun d μ' v H' q _ r _ => ?_⟩
  subst q
  cases r
  rfl
end Pv

namespace Pv
open PySem PySem.Spec PyProof.Rows L2
open PySem.AutoSeq1 (wpAny_loadPart')
/-! ### a tuple so often -/
theorem tuple_mulW0 (l : Addr) (items : Array Value) (n : Nat) (dd : Option Addr) (sl : Array (Option Value)) (x : Int) (u : Tok) (hc0 : (decide (x < -(2 ^ 63)) || decide (x ≥ 2 ^ 63)) = false) (hc1 : (items.isEmpty || x == 1) = true) :
    Meets (Builtin.«tuple.__mul__» ⟨[.ref l, .int x u], []⟩) (fun _ R s => s.heap.get? l = some { cls := .type "tuple", dict := dd, data := .seq items n, slots := sl } ∧ R (.ok (.ret (.ref l))) s) :=
  .of_wp fun prog w A R s h => by
    obtain ⟨hp, g, d, tk, os⟩ := s; obtain ⟨hl, h⟩ := h
    have f1 := AutoSeq1.idx_int
    have f2 := AutoSeq1.sub_tuple_tuple
    wp_walk using wpAny_loadPart' hl
    refine wpAny_ite_false (decide_eq_false (by rw [hc0]; exact Bool.false_ne_true)) ?_
    wp_walk using wpAny_loadPart' hl
    exact ⟨_, rfl, h⟩
theorem tuple_mulW1 (l : Addr) (items : Array Value) (n : Nat) (dd : Option Addr) (sl : Array (Option Value)) (x : Int) (u : Tok) (hc0 : (decide (x < -(2 ^ 63)) || decide (x ≥ 2 ^ 63)) = false) (hc1 : (items.isEmpty || x == 1) = false) (hc2 : (decide (x ≤ 0) || items.isEmpty) = true) :
    Meets (Builtin.«tuple.__mul__» ⟨[.ref l, .int x u], []⟩) (fun _ R s => s.heap.get? l = some { cls := .type "tuple", dict := dd, data := .seq items n, slots := sl } ∧ R (.ok (.ret (.ref s.heap.objs.size))) { s with heap := s.heap.push { cls := .type "tuple", data := .seq #[] } }) :=
  .of_wp fun prog w A R s h => by
    obtain ⟨hp, g, d, tk, os⟩ := s; obtain ⟨hl, h⟩ := h
    have f1 := AutoSeq1.idx_int
    have f2 := AutoSeq1.sub_tuple_tuple
    wp_walk using wpAny_loadPart' hl
    refine wpAny_ite_false (decide_eq_false (by rw [hc0]; exact Bool.false_ne_true)) ?_
    wp_walk using wpAny_loadPart' hl
    exact ⟨_, rfl, h⟩
theorem tuple_mulW2 (l : Addr) (items : Array Value) (n : Nat) (dd : Option Addr) (sl : Array (Option Value)) (x : Int) (u : Tok) (hc0 : (decide (x < -(2 ^ 63)) || decide (x ≥ 2 ^ 63)) = false) (hc1 : (items.isEmpty || x == 1) = false) (hc2 : (decide (x ≤ 0) || items.isEmpty) = false)
    (hc3 : ¬ ((items.size : Int) * x > (2 ^ 63 - 1) / 8)) (hc4 : Builtin.Tuple.tupleTooMany ((items.size : Int) * x) = false) (hz : ((List.replicate x.toNat items).foldl (· ++ ·) #[]).size ≤ sizeLine) :
    Meets (Builtin.«tuple.__mul__» ⟨[.ref l, .int x u], []⟩) (fun _ R s => s.heap.get? l = some { cls := .type "tuple", dict := dd, data := .seq items n, slots := sl } ∧ R (.ok (.ret (.ref s.heap.objs.size))) { s with heap := s.heap.push { cls := .type "tuple", data := .seq ((List.replicate x.toNat items).foldl (· ++ ·) #[]) } }) :=
  .of_wp fun prog w A R s h => by
    obtain ⟨hp, g, d, tk, os⟩ := s; obtain ⟨hl, h⟩ := h
    have f1 := AutoSeq1.idx_int
    have f2 := AutoSeq1.sub_tuple_tuple
    wp_walk using wpAny_loadPart' hl
    refine wpAny_ite_false (decide_eq_false (by rw [hc0]; exact Bool.false_ne_true)) ?_
    wp_walk using wpAny_loadPart' hl
    refine wpAny_ite_false (decide_eq_false hc3) ?_
    wp_walk using wpAny_loadPart' hl
    all_goals try (refine wpAny_ite_false (decide_eq_false (by rw [hc4]; exact Bool.false_ne_true)) ?_)
    have hsz : ((List.replicate x.toNat items).foldl (· ++ ·) #[]).size ≤ sizeLine := hz
    wp_walk using wpAny_loadPart' hl
    exact ⟨_, rfl, h⟩

theorem noFill_tupleMul : fillsNumberSlot (.type "tuple") "mul" = pure false :=
  PySem.fillsNumberSlot_seq (id := "tuple.__mul__") (r := some (.builtin "tuple.__rmul__")) F.slot_tuple_mul.lookup (by decide +kernel) F.slot_tuple_rmul.lookup (by decide +kernel)
theorem repeat_tupleMul : seqRepeat? (.type "tuple") = pure (some (.builtin "tuple.__mul__")) := by
  unfold seqRepeat?
  rw [PySem.seqSlot_of F.slot_tuple_mul.lookup (T := "tuple") (name := "__mul__") (id := "tuple.__mul__") (by decide +kernel), PySem.seqSlot_of F.slot_tuple_rmul.lookup (T := "tuple") (name := "__rmul__") (id := "tuple.__rmul__") (by decide +kernel)]
  rfl
theorem int_rmul_tuple (a : Int) (t : Tok) (l : Addr) (its : Array Value) (n : Nat) (dd : Option Addr) (sl : Array (Option Value)) :
    Meets (Builtin.«int.__rmul__» ⟨[.int a t, .ref l], []⟩) (fun _ R s => s.heap.get? l = some ⟨.type "tuple", dd, .seq its n, sl⟩ ∧ R (.ok (.ret .notImplemented)) s) :=
  .of_wp fun prog w A R s h => by
    obtain ⟨hp, g, d, tk, os⟩ := s
    obtain ⟨hl, h⟩ := h
    wp_walk using wpAny_loadPart' hl
    exact ⟨_, rfl, h⟩
section
variable {X : Cx}
noncomputable def rRepT (K : Fg) : R2 := fun x y H Q => ∃ a k xs, x = .ref a ∧ y = .int k ∧ SqT K H a xs ∧ -(2 ^ 62) ≤ k ∧ k < 2 ^ 62 ∧ xs.length * k.toNat ≤ 1000000 ∧ (xs = [] ∨ k = 1 → Q (.ref a) H) ∧ ∀ p, H p = none → Q (.ref p) (upd H p (.tup (List.replicate k.toNat xs).flatten))
theorem op_repT : OpR X (binaryOp .Mult) (rRepT X.K) := by
  intro pins s σ H x y v u Q I rx ry h
  obtain ⟨a, k, xs, rfl, rfl, hq, h1, h2, hz, q1, q2⟩ := h
  cases rx
  obtain ⟨t, rfl⟩ := ry
  obtain ⟨its, r, ⟨⟨cls, dd, data, sl⟩, ho, hc, n, hd⟩, hl⟩ := I.tuple hq
  simp only at hc hd
  subst hc hd
  have hlen : its.length = xs.length := r.length.symm
  have c0 : (decide (k < -(2 ^ 63)) || decide (k ≥ 2 ^ 63)) = false := by
    rw [decide_eq_false (by omega), decide_eq_false (by omega)]; rfl
  refine wpAny_binaryOp_repeat_ref (T := "tuple") (U := "int") (by decide) ⟨_, ho, rfl⟩ (fun s' => typeIs_int s' k t) noFill_tupleMul F.fills_int_mul F.slot_int_rmul repeat_tupleMul F.slot_int_index.lookup
    (call_meets F.slot_int_rmul (typeIs_int s k t) F.entry_int_rmul (F.args_int_rmul_2 _ _) (int_rmul_tuple k t a its.toArray n dd sl) ⟨ho, rfl, ⟨_, ho, rfl⟩, ?_⟩)
  by_cases e1 : xs = [] ∨ k = 1
  · refine call_meets F.slot_tuple_mul ⟨_, ho, rfl⟩ F.entry_tuple_mul (F.args_tuple_mul_2 _ _) (tuple_mulW0 a its.toArray n dd sl k t c0 ?_) ⟨ho, ⟨.ref a, H, I, rfl, q1 e1⟩⟩
    rcases e1 with e1 | e1
    · subst e1; cases r; rfl
    · subst e1; simp
  · have hne : its ≠ [] := fun z => e1 (.inl (by subst z; cases r; rfl))
    have hk1 : k ≠ 1 := fun z => e1 (.inr z)
    have c1 : (its.toArray.isEmpty || k == 1) = false := by simp [hne, hk1]
    have hf : H s.heap.objs.size = none := I.hok.fresh (Nat.le_refl _)
    by_cases e2 : k ≤ 0
    · have hk0 : k.toNat = 0 := by omega
      refine call_meets F.slot_tuple_mul ⟨_, ho, rfl⟩ F.entry_tuple_mul (F.args_tuple_mul_2 _ _) (tuple_mulW1 a its.toArray n dd sl k t c0 c1 (by simp [e2])) ⟨ho, ?_⟩
      refine ⟨.ref _, upd H s.heap.objs.size (.tup []), I.laid (t' := s.toks) (fun b ob q => Heap.get?_push_of_some _ q) (Nat.le_refl _) ⟨by rw [sizeLine_eq]; decide, [], .nil, IsTup.new _ _⟩, rfl, ?_⟩
      have := q2 _ hf
      rw [hk0] at this
      exact this
    · have fr : List.foldl (· ++ ·) #[] (List.replicate k.toNat its.toArray) = (List.replicate k.toNat its).flatten.toArray := by
        have := foldl_rep its k.toNat []
        rw [List.nil_append] at this
        exact this
      have hb : (1000000 : Nat) ≤ sizeLine := by rw [sizeLine_eq]; decide
      have hm : (its.toArray.size : Int) * k ≤ 1000000 := by
        rw [List.size_toArray, hlen]
        have : ((xs.length * k.toNat : Nat) : Int) ≤ 1000000 := by omega
        rw [Int.natCast_mul, Int.toNat_of_nonneg (by omega)] at this
        exact this
      have hsz : (List.replicate k.toNat its).flatten.length ≤ sizeLine := by rw [len_rep, Nat.mul_comm, hlen]; omega
      refine call_meets F.slot_tuple_mul ⟨_, ho, rfl⟩ F.entry_tuple_mul (F.args_tuple_mul_2 _ _) (tuple_mulW2 a its.toArray n dd sl k t c0 c1 (by simp [hne]; omega) (by omega) ?_ (by rw [fr, List.size_toArray]; exact hsz)) ⟨ho, ?_⟩
      · unfold Builtin.Tuple.tupleTooMany
        rw [decide_eq_false (by omega)]
      · rw [fr]
        refine ⟨.ref _, upd H s.heap.objs.size (.tup (List.replicate k.toNat xs).flatten), I.laid (t' := s.toks) (fun b ob q => Heap.get?_push_of_some _ q) (Nat.le_refl _) ⟨?_, _, r.rep k.toNat, IsTup.new _ _⟩, rfl, q2 _ hf⟩
        rw [len_rep, Nat.mul_comm]; omega
theorem q_mul : RO X (binaryOp .Mult) mulR := by
  refine ⟨_, op_mulB.or (op_repT.or op_rep), fun x y v u H Q μ Q3 m rx ry h k => ?_⟩
  cases ry with
  | int j =>
    cases rx with
    | int i => exact .inl ⟨i, j, rfl, rfl, h.1, k _ _ _ _ h.2 (Kp.refl _) (.int _) m⟩
    | tup hq rs =>
      rename_i a l vs
      refine .inr (.inl ⟨a, j, vs, rfl, rfl, (SqT.of hq), h.1.1.1, h.1.1.2, by rw [← rs.length]; exact h.1.2, fun e => ?_, fun p hp => ?_⟩)
      · rcases e with e | e
        · subst e; cases rs
          have h2 := h.2
          have e : (List.replicate j.toNat ([] : List D)).flatten = [] := by simp
          rw [e] at h2
          exact k _ _ _ _ h2 (Kp.refl _) (.tup hq .nil) m
        · subst e
          have h2 := h.2
          have e : (List.replicate (1 : Int).toNat l).flatten = l := by simp
          rw [e] at h2
          exact k _ _ _ _ h2 (Kp.refl _) (.tup hq rs) m
      · exact k _ _ _ _ h.2 (Kp.new hp) (.tup upd_same ((rs.rep _).mono (Kp.new hp))) (m.newT hp)
    | ref p =>
      dsimp only [mulR] at h
      cases e : μ p with
      | none => rw [e] at h; exact h.elim
      | some oo =>
        cases oo with
        | ins _ _ => rw [e] at h; exact h.elim
        | dct _ => rw [e] at h; exact h.elim
        | dcl _ => rw [e] at h; exact h.elim
        | lst l =>
          rw [e] at h
          obtain ⟨vs, hv, rv⟩ := m p l e
          have hb : (1000000 : Nat) ≤ sizeLine := by rw [sizeLine_eq]; decide
          refine .inr (.inr ⟨p, j, vs, rfl, rfl, hv, by have := h.1.1.1; omega, by have := h.1.1.2; omega, by rw [← rv.length]; exact Nat.le_trans h.1.2 hb, fun t ht => ?_⟩)
          exact k _ _ _ _ (h.2 t (m.free ht)) (Kp.new ht) (.ref t) (m.newL ht (rv.rep _))
    | _ => exact False.elim h
  | _ => cases rx <;> exact False.elim h
theorem call_intS : CallR X (.type "int") (fun xs H Q => ∃ z n, xs = [.str z] ∧ PySem.intText? z = some n ∧ z.length ≤ 640 ∧ Q (.int n) H) := by
  intro pins s σ H xs us Q I r h
  obtain ⟨z, n, rfl, e, hl, q⟩ := h
  obtain ⟨u, rfl, t, rfl⟩ := vals1 r
  exact PySem.W.KIN.call_text e hl ⟨.int n, H, I.tok _, ⟨_, rfl⟩, q⟩
theorem q_int : RC X (.type "int") intR := by
  refine ⟨_, call_int1.or call_intS, fun xs vs H Q μ Q3 m r h k => ?_⟩
  cases r with
  | nil => exact False.elim h
  | cons r1 r2 =>
    cases r2 with
    | cons _ _ => cases r1 <;> exact False.elim h
    | nil =>
      cases r1 with
      | int i => exact .inl (.inl ⟨i, rfl, k _ _ _ _ h (Kp.refl _) (.int _) m⟩)
      | bl b => exact .inl (.inr ⟨b, rfl, k _ _ _ _ h (Kp.refl _) (.int _) m⟩)
      | str z =>
        dsimp only [intR] at h
        cases e : PySem.intText? z with
        | none => rw [e] at h; exact h.elim
        | some n =>
          rw [e] at h
          exact .inr ⟨z, n, rfl, e, h.1, k _ _ _ _ h.2 (Kp.refl _) (.int _) m⟩
      | _ => exact False.elim h
/-! ### all, any of a list of truths -/
theorem bls_rel {K : Fg} {H : Hp} : ∀ {l : List D} {vs : List V} {bs : List Bool}, RelDs K H l vs → bls? l = some bs → vs = bs.map V.bl
  | _, _, bs, .nil, e => by simp [bls?] at e; subst e; rfl
  | _, _, bs, .cons h r, e => by
    cases h with
    | bl x =>
      simp only [bls?] at e
      split at e
      · next ys e1 =>
        simp only [Option.some.injEq] at e
        subst e
        rw [bls_rel r e1]; rfl
      · cases e
    | _ => simp [bls?] at e
theorem RdC.bools {K : Fg} {f : List Bool → Bool} {r3 : C3} (hr : ∀ ds μ Q3, r3 ds μ Q3 → ∃ p l bs, ds = [.ref p] ∧ μ p = some (.lst l) ∧ bls? l = some bs ∧ Q3 (.bl (f bs)) μ) :
    RdC K (fun xs H Q => ∃ (p : Addr) (bs : List Bool), xs = [.ref p] ∧ SqL K H p (bs.map V.bl) ∧ Q (.bl (f bs)) H) r3 := fun xs vs H Q μ Q3 m r h k => by
  obtain ⟨p, l, bs, rfl, e, e1, q⟩ := hr _ _ _ h
  cases r with
  | cons r1 r2 =>
    cases r2
    cases r1
    obtain ⟨us, hv, rs⟩ := m p l e
    have ev := bls_rel rs e1
    subst ev
    exact ⟨p, bs, rfl, SqL.of hv, k _ _ _ _ q (Kp.refl _) (.bl _) m⟩
end
end Pv

namespace Pv
open PySem PySem.Spec PyProof.Rows L2
open PySem.AutoSeq1 (wpAny_loadPart')
section
variable {prog : Program} {w : World} {A : Around} {R : Result → Shared → Prop} {I : Addr} {fp wr : List Addr} {n : Nat} {P : Nat → Value → Prop} {St : Nat → Heap → Prop}
end
section
variable {prog : Program} {w : World} {A : Around} {E : Value → Shared → Prop} {s : Shared}
end
section
variable {X : Cx}
end
end Pv

namespace Pv
open PySem PySem.Spec PyProof.Rows L2
/-! ### a comprehension that uses names of the body -/
noncomputable def closL (cells : List (Str × Addr)) : List (Str × NameKind) → List (Str × Addr) → List (Str × Addr)
  | [], acc => acc
  | (n, k) :: r, acc => if k == .free then closL cells r ((n, (cells.lookup n).getD 0) :: acc) else closL cells r acc
theorem closureFor_eq {scope : Scope} {env : Env} (h : ∀ y ∈ scope.names, y.2 = .free → (env.cells.lookup y.1).isSome = true) : closureFor scope env = pure (closL env.cells scope.names []) := by
  unfold closureFor
  have key : ∀ (l : List (Str × NameKind)) (acc : List (Str × Addr)), (∀ y ∈ l, y.2 = .free → (env.cells.lookup y.1).isSome = true) →
      (forIn l acc (fun x r => if (x.2 == NameKind.free) = true then do let c ← cellOf env x.1; pure (ForInStep.yield ((x.1, c) :: r)) else pure (ForInStep.yield r)) : Sem (List (Str × Addr))) = pure (closL env.cells l acc) := by
    intro l
    induction l with
    | nil => intro acc _; rfl
    | cons y r ih =>
      intro acc hl
      obtain ⟨n, k⟩ := y
      rw [List.forIn_cons]
      have ih' := fun a => ih a fun z hz => hl z (List.mem_cons_of_mem _ hz)
      by_cases hk : k = .free
      · subst hk
        have hs := hl (n, .free) (List.mem_cons_self ..) rfl
        obtain ⟨c, hc⟩ := Option.isSome_iff_exists.mp hs
        have ec : cellOf env n = pure c := by unfold cellOf; rw [hc]
        simp only [closL, ec, pure_bind, beq_self_eq_true, if_true, hc, Option.getD_some]
        exact ih' _
      · have hk' : (k == NameKind.free) = false := by simpa using hk
        simp only [closL, hk', Bool.false_eq_true, if_false, pure_bind]
        exact ih' _
  have := key scope.names [] h
  refine Eq.trans ?_ this
  refine Eq.trans (bind_pure (forIn scope.names ([] : List (Str × Addr)) _ : Sem (List (Str × Addr)))) ?_
  congr 1
theorem closL_sub {cells : List (Str × Addr)} {x : Str} {c : Addr} : ∀ (l : List (Str × NameKind)) (acc : List (Str × Addr)), (∀ y ∈ l, y.2 = .free → (cells.lookup y.1).isSome = true) → (acc.lookup x = some c → cells.lookup x = some c) →
    (closL cells l acc).lookup x = some c → cells.lookup x = some c
  | [], acc, _, ha, h => ha h
  | (n, k) :: r, acc, hl, ha, h => by
    unfold closL at h
    split at h
    · next hk =>
      refine closL_sub r _ (fun z hz => hl z (List.mem_cons_of_mem _ hz)) (fun h2 => ?_) h
      rw [List.lookup_cons] at h2
      split at h2
      · next e =>
        have e' : x = n := eq_of_beq e
        subst e'
        obtain ⟨c', hc⟩ := Option.isSome_iff_exists.mp (hl (x, k) (List.mem_cons_self ..) (eq_of_beq hk))
        rw [hc] at h2
        simp only [Option.getD_some, Option.some.injEq] at h2
        rw [hc, h2]
      · exact ha h2
    · exact closL_sub r acc (fun z hz => hl z (List.mem_cons_of_mem _ hz)) ha h
theorem closL_has {cells : List (Str × Addr)} {x : Str} : ∀ (l : List (Str × NameKind)) (acc : List (Str × Addr)), ((∃ c, acc.lookup x = some c) ∨ (x, NameKind.free) ∈ l) → ∃ c, (closL cells l acc).lookup x = some c
  | [], acc, h => by
    rcases h with h | h
    · exact h
    · cases h
  | (n, k) :: r, acc, h => by
    unfold closL
    split
    · next hk =>
      refine closL_has r _ ?_
      by_cases e : x = n
      · subst e
        left
        exact ⟨(cells.lookup x).getD 0, by rw [List.lookup_cons]; simp⟩
      · rcases h with ⟨c, h⟩ | h
        · left
          refine ⟨c, ?_⟩
          rw [List.lookup_cons]
          have : (x == n) = false := by simpa using e
          rw [this]; exact h
        · right
          rcases List.mem_cons.mp h with h | h
          · exact absurd (congrArg Prod.fst h) e
          · exact h
    · next hk =>
      refine closL_has r acc ?_
      rcases h with h | h
      · exact .inl h
      · rcases List.mem_cons.mp h with h | h
        · cases h; exact absurd rfl hk
        · exact .inr h
/-- free names are cells of the body: js tells where they lie among the body's names -/
theorem CompSc.free {X : Cx} {NN : List Str} {scope : Scope} {js : List (Option Nat)} (hcell : ∀ y ∈ scope.names, y.2 ≠ .cell) (hk : scope.kind = .function) (hfn : X.env.scope.kind = .function)
    (hn : ∀ y ∈ scope.names, y.2 = .local → scope.names.lookup y.1 = some .local) (hfree : ∀ y ∈ scope.names, y.2 = .free → X.env.scope.names.lookup y.1 = some .cell) (hlook : ∀ y ∈ scope.names, y.2 = .free → scope.names.lookup y.1 = some .free)
    (hcl : ∀ x, X.env.scope.names.lookup x = some .cell → (X.env.cells.lookup x).isSome = true) (len : js.length = NN.length)
    (hout : ∀ i ∈ List.range js.length, ∀ j, js.getD i none = some j → ∃ x, NN[i]? = some x ∧ X.N[j]? = some x ∧ scope.names.lookup x = some .free) :
    CompSc X NN scope (closL X.env.cells scope.names []) js where
  clos := closureFor_eq fun y hy e => hcl _ (hfree y hy e)
  cell := hcell
  kind := hk
  names := hn
  sub := fun x c h => closL_sub scope.names [] (fun y hy e => hcl _ (hfree y hy e)) (fun h => by simp at h) h
  has := fun x h => by
    refine closL_has scope.names [] (.inr ?_)
    have hm : ∃ k, (x, k) ∈ scope.names ∧ (k = .free ∨ k = .cell) := by
      have key : ∀ kk, (relabel scope X.env).names.lookup x = some kk → (kk = .cell ∨ kk = .free) → ∃ k, (x, k) ∈ scope.names ∧ (k = .free ∨ k = .cell) := fun kk hkk hc => by
        have hmem := lookup_mem hkk
        obtain ⟨⟨n, k⟩, hy, e⟩ := List.mem_map.mp hmem
        dsimp only at e
        split at e
        · next hq =>
          cases e
          simp only [Bool.and_eq_true] at hq
          exact ⟨k, hy, .inl (by simpa using hq.1.1)⟩
        · cases e
          exact ⟨kk, hy, hc.symm⟩
      rcases h with h | h
      · exact key _ h (.inl rfl)
      · exact key _ h (.inr rfl)
    obtain ⟨k, hk1, hk2⟩ := hm
    rcases hk2 with rfl | rfl
    · exact hk1
    · exact absurd rfl (hcell _ hk1)
  len := len
  out := fun i j h => by
    have hi : i < js.length := by
      rcases Nat.lt_or_ge i js.length with z | z
      · exact z
      · rw [List.getElem?_eq_none z] at h; cases h
    obtain ⟨x, e1, e2, e3⟩ := hout i (List.mem_range.mpr hi) j (by rw [List.getD_eq_getElem?_getD, h]; rfl)
    have hf := hfree (x, .free) (lookup_mem e3) rfl
    refine ⟨x, e1, e2, .inr (.inl hf), by rw [hf]; simp, ?_⟩
    left
    have key : ∀ (l : List (Str × NameKind)), l.lookup x = some .free → (l.map fun (n, k) => if (k == NameKind.free && X.env.scope.kind == .function && X.env.kindOf n == some .cell) then (n, NameKind.cell) else (n, k)).lookup x = some .cell := fun l => by
      induction l with
      | nil => intro h; simp at h
      | cons y r ih =>
        obtain ⟨n, k⟩ := y
        intro h
        rw [List.lookup_cons] at h
        rw [List.map_cons, List.lookup_cons]
        by_cases e : x = n
        · subst e
          simp only [beq_self_eq_true, Option.some.injEq] at h
          subst h
          have hkind : (X.env.kindOf x == some NameKind.cell) = true := by
            show (X.env.scope.names.lookup x == some NameKind.cell) = true
            rw [hf]; rfl
          simp [hfn, hkind]
        · have e' : (x == n) = false := by simpa using e
          rw [e'] at h
          have ih' := ih h
          by_cases hq : (k == NameKind.free && X.env.scope.kind == ScopeKind.function && X.env.kindOf n == some NameKind.cell) = true
          · simp only [hq, if_true, e']; exact ih'
          · simp only [hq, Bool.false_eq_true, if_false, e']; exact ih'
    exact key _ e3
/-- for a comprehension in the body of a def -/
theorem comp_sc {CX : CXT} {P : Program} {w : World} {K : Fg} {mg : Str → Option Value} {base : Heap} {N : List Str} {qual : Str} {sc : Scope} {f : Addr} {cdv : Value} {A : Around} {outer : List Env} {s : Shared} {H : Hp} {E : XK} {NN : List Str} {scope : Scope} {js : List (Option Nat)}
    (hcell : ∀ y ∈ scope.names, y.2 ≠ .cell := by decide +kernel) (hk : scope.kind = .function := by rfl) (hfn : sc.kind = .function := by rfl)
    (hn : ∀ y ∈ scope.names, y.2 = .local → scope.names.lookup y.1 = some .local := by decide +kernel) (hfree : ∀ y ∈ scope.names, y.2 = .free → sc.names.lookup y.1 = some .cell := by decide +kernel)
    (hlook : ∀ y ∈ scope.names, y.2 = .free → scope.names.lookup y.1 = some .free := by decide +kernel) (len : js.length = NN.length := by rfl)
    (hout : ∀ i ∈ List.range js.length, ∀ j ∈ (js.getD i none).toList, ∃ x ∈ NN[i]?.toList, N[j]? = some x ∧ scope.names.lookup x = some .free := by decide +kernel) :
    CompSc (cxOf CX P w K mg base N qual sc f cdv A outer s H E).nox NN scope (closL (cxOf CX P w K mg base N qual sc f cdv A outer s H E).nox.env.cells scope.names []) js :=
  CompSc.free (X := (cxOf CX P w K mg base N qual sc f cdv A outer s H E).nox) hcell hk hfn hn hfree hlook (fun x h => by
    obtain ⟨c, hc⟩ := cell_has (n := _) h
    exact Option.isSome_iff_exists.mpr ⟨c, hc⟩) len fun i hi j hj => by
      obtain ⟨x, h1, h2, h3⟩ := hout i hi j (by rw [hj]; simp)
      exact ⟨x, by simpa using h1, h2, h3⟩
end Pv

namespace Pv
open PySem
/-- max of two ints -/
noncomputable def maxR : C3 := fun ds μ Q => match ds with
  | [.int i, .int j] => Q (.int (if j > i then j else i)) μ
  | _ => False
/-- min of two ints -/
noncomputable def min2R : C3 := fun ds μ Q => match ds with
  | [.int i, .int j] => Q (.int (if j < i then j else i)) μ
  | _ => False
end Pv

namespace Pv
open PySem PySem.Spec PyProof.Rows L2
section
variable {X : Cx}
theorem q_max (hc : X.calm = true) : RC X (.builtin "max") maxR := by
  refine ⟨_, call_max2 hc, fun xs vs H Q μ Q3 m r h k => ?_⟩
  cases r with
  | nil => exact False.elim h
  | cons r1 r2 =>
    cases r1 with
    | int i =>
      cases r2 with
      | nil => exact False.elim h
      | cons r2 r3 =>
        cases r2 with
        | int j =>
          cases r3 with
          | nil => exact ⟨i, j, rfl, k _ _ _ _ h (Kp.refl _) (.int _) m⟩
          | cons _ _ => exact False.elim h
        | _ => exact False.elim h
    | _ => exact False.elim h
theorem q_min2 (hc : X.calm = true) : RC X (.builtin "min") min2R := by
  refine ⟨_, call_min2 hc, fun xs vs H Q μ Q3 m r h k => ?_⟩
  cases r with
  | nil => exact False.elim h
  | cons r1 r2 =>
    cases r1 with
    | int i =>
      cases r2 with
      | nil => exact False.elim h
      | cons r2 r3 =>
        cases r2 with
        | int j =>
          cases r3 with
          | nil => exact ⟨i, j, rfl, k _ _ _ _ h (Kp.refl _) (.int _) m⟩
          | cons _ _ => exact False.elim h
        | _ => exact False.elim h
    | _ => exact False.elim h
end
end Pv

namespace Pv
open PySem
noncomputable def mxR : C3 := fun ds μ Q => match ds with
  | [.int i, .int j] => Q (.int (if j > i then j else i)) μ
  | [.ref p] => match μ p with
    | some (.lst l) => match ints? l with
      | some ns => 0 < ns.length ∧ ∀ m, m ∈ ns → (∀ a, a ∈ ns → a ≤ m) → Q (.int m) μ
      | none => False
    | _ => False
  | _ => False
theorem mxR_ii (i j : Int) (μ : Mu) (Q : VK3) : mxR [.int i, .int j] μ Q = Q (.int (if j > i then j else i)) μ := propext ⟨fun h => h, fun h => h⟩
end Pv

namespace Pv
open PySem PySem.Spec PyProof.Rows L2
section
variable {X : Cx}
theorem RC.or {f : Value} {R1 R2 : C3} (h1 : RC X f R1) (h2 : RC X f R2) : RC X f (fun ds μ Q => R1 ds μ Q ∨ R2 ds μ Q) := by
  obtain ⟨c1, p1, r1⟩ := h1
  obtain ⟨c2, p2, r2⟩ := h2
  exact ⟨fun xs H Q => c1 xs H Q ∨ c2 xs H Q, fun pins s σ H xs us Q I r h => h.elim (p1 pins s σ H xs us Q I r) (p2 pins s σ H xs us Q I r),
    fun xs vs H Q μ Q3 m r h k => h.elim (fun h => .inl (r1 xs vs H Q μ Q3 m r h k)) fun h => .inr (r2 xs vs H Q μ Q3 m r h k)⟩
theorem RC.le {f : Value} {R1 R2 : C3} (h : RC X f R1) (e : ∀ ds μ Q, R2 ds μ Q → R1 ds μ Q) : RC X f R2 := by
  obtain ⟨c1, p1, r1⟩ := h
  exact ⟨c1, p1, fun xs vs H Q μ Q3 m r h k => r1 xs vs H Q μ Q3 m r (e _ _ _ h) k⟩
noncomputable def maxLR : C3 := fun ds μ Q => match ds with
  | [.ref p] => match μ p with
    | some (.lst l) => match ints? l with
      | some ns => 0 < ns.length ∧ ∀ m, m ∈ ns → (∀ a, a ∈ ns → a ≤ m) → Q (.int m) μ
      | none => False
    | _ => False
  | _ => False
theorem call_maxL (hc : X.calm = true) : CallR X (.builtin "max") (fun xs H Q => ∃ (p : Addr) (ns : List Int), xs = [.ref p] ∧ SqL X.K H p (ns.map V.int) ∧ 0 < ns.length ∧ ∀ m, m ∈ ns → (∀ a, a ∈ ns → a ≤ m) → Q (.int m) H) := by
  intro pins s σ H xs us Q I r h
  obtain ⟨p, ns, rfl, hq, hne, q⟩ := h
  obtain ⟨u, rfl, rx⟩ := vals1 r
  cases rx
  obtain ⟨its, r', pl, hz⟩ := I.list hq
  have hi := intsAre_of r'
  obtain ⟨ys, e⟩ := hi.allInts.items
  have hl := pl.isList
  rw [e] at hl
  have hns : ns = ys.toList.map (·.1) := by rw [← hi.numsOf, ← nums_intItems, ← e]
  have hsz : 0 < ys.size := by
    have h3 := hne; rw [hns, List.length_map, Array.length_toList] at h3; exact h3
  refine max_intList (I.ok.hd hc) hl hsz fun v h' tk hv hk => ?_
  obtain ⟨t, rfl⟩ := intItems_at hv
  obtain ⟨h1, h2⟩ := argBest_gt (numAt ys) (ys.size - 1)
  refine ⟨.int _, H, I.kept (t' := tk) hk, ⟨t, rfl⟩, q _ ?_ fun a ha => ?_⟩
  · rw [hns, numAt_eq]; exact getD_mem (by rw [List.length_map, Array.length_toList]; omega)
  · rw [hns] at ha
    obtain ⟨j, hj, rfl⟩ := mem_getD ha
    rw [List.length_map, Array.length_toList] at hj
    rw [← numAt_eq]; exact h2 j (by omega)
theorem q_maxL (hc : X.calm = true) : RC X (.builtin "max") maxLR := by
  refine ⟨_, call_maxL hc, fun xs vs H Q μ Q3 m r h k => ?_⟩
  unfold maxLR at h
  split at h
  · next p =>
    cases r with
    | cons r1 r2 =>
      cases r2
      cases r1
      split at h
      · next l e =>
        split at h
        · next ns e1 =>
          obtain ⟨vs, hv, rs⟩ := m p l e
          have ev := ints_rel rs e1
          subst ev
          exact ⟨p, ns, rfl, SqL.of hv, h.1, fun a h1 h2 => k _ _ _ _ (h.2 a h1 h2) (Kp.refl _) (.int _) m⟩
        · exact h.elim
      · exact h.elim
  · exact h.elim
theorem q_mx (hc : X.calm = true) : RC X (.builtin "max") mxR := by
  refine ((q_max hc).or (q_maxL hc)).le fun ds μ Q h => ?_
  unfold mxR at h
  split at h
  · exact .inl h
  · exact .inr h
  · exact h.elim
end
section
variable {X : Cx} {e : Expr} {te : TE3} {p p2 pos pos2 : Pos}
end
end Pv

/-! list.sort of fewer than 64 items, by an order: it is rightly ordered behind it -/
namespace Ms
open PySem.W PyProof.Rows
noncomputable def run (lt : Nat → Nat → Bool) {α : Type} : KasT α → α
  | .ret a => a
  | .ask i j k => run lt (k (lt i j))
theorem run_bind (lt : Nat → Nat → Bool) {α β : Type} (f : α → KasT β) : ∀ t : KasT α, run lt (t.bind f) = run lt (f (run lt t))
  | .ret _ => rfl
  | .ask i j k => run_bind lt f (k (lt i j))
/-- a strict order of numbers, where unlike ones may be alike -/
structure Ord (lt : Nat → Nat → Bool) : Prop where
  ir : ∀ a, lt a a = false
  tr : ∀ a b c, lt a b = true → lt b c = true → lt a c = true
  ng : ∀ a b c, lt a c = true → lt a b = true ∨ lt b c = true
section
variable {lt : Nat → Nat → Bool} (O : Ord lt)
noncomputable abbrev at' (p : Array Nat) (i : Nat) : Nat := p.getD i 0
noncomputable def le (lt : Nat → Nat → Bool) (a b : Nat) : Prop := lt b a = false
include O
theorem le_rf (a : Nat) : le lt a a := O.ir a
theorem le_tr {a b c : Nat} (h : le lt a b) (k : le lt b c) : le lt a c := by
  unfold le at *
  cases e : lt c a with
  | false => rfl
  | true =>
    rcases O.ng c b a e with h1 | h1
    · rw [k] at h1; cases h1
    · rw [h] at h1; cases h1
theorem le_lt {a b : Nat} (h : lt a b = true) : le lt a b := by
  unfold le
  cases e : lt b a with
  | false => rfl
  | true => have := O.tr a b a h e; rw [O.ir] at this; cases this
omit O
/-- rising, falling up to n -/
noncomputable def Up (lt : Nat → Nat → Bool) (p : Array Nat) (n : Nat) : Prop := ∀ a b, a ≤ b → b < n → le lt (at' p a) (at' p b)
noncomputable def Dn (lt : Nat → Nat → Bool) (p : Array Nat) (n : Nat) : Prop := ∀ a b, a ≤ b → b < n → le lt (at' p b) (at' p a)
theorem at_eq {p q : Array Nat} {i j : Nat} (h : p[i]? = q[j]?) : at' p i = at' q j := by
  show p.getD i 0 = q.getD j 0
  rw [Array.getD_eq_getD_getElem?, Array.getD_eq_getD_getElem?, h]
theorem at_rev {p : Array Nat} {i j : Nat} (hj : j ≤ p.size) (k : Nat) : at' (kas_rev p i j) k = if i ≤ k ∧ k < j then at' p (i + j - 1 - k) else at' p k := by
  have h := getElem?_mirror_all (xs := p) (i := i) hj k
  split
  · next c => rw [if_pos c] at h; exact at_eq h
  · next c => rw [if_neg c] at h; exact at_eq h
theorem at_bub {p : Array Nat} {k l : Nat} (hk : k < p.size) (hl : l ≤ k) (i : Nat) : at' (bubble p k (k - l)) i = if i = l then at' p k else if l < i ∧ i ≤ k then at' p (i - 1) else at' p i := by
  have h := getElem?_bubble (xs := p) hk (k - l) (by omega) i
  rw [show k - (k - l) = l by omega] at h
  by_cases c : i = l
  · rw [if_pos c] at h ⊢; exact at_eq h
  · rw [if_neg c] at h ⊢
    by_cases c2 : l < i ∧ i ≤ k
    · rw [if_pos c2] at h ⊢; exact at_eq h
    · rw [if_neg c2] at h ⊢; exact at_eq h
include O
theorem up_one (p : Array Nat) : Up lt p 1 := fun a b h1 h2 => by
  have e1 : a = 0 := by omega
  have e2 : b = 0 := by omega
  subst e1 e2
  exact le_rf O _
theorem up_snoc {p : Array Nat} {n : Nat} (h : Up lt p n) (h1 : 1 ≤ n) (k : le lt (at' p (n - 1)) (at' p n)) : Up lt p (n + 1) := fun a b hab hb => by
  by_cases e : b = n
  · subst e
    by_cases e2 : a = b
    · subst e2; exact le_rf O _
    · exact le_tr O (h a (b - 1) (by omega) (by omega)) k
  · exact h a b hab (by omega)
theorem dn_snoc {p : Array Nat} {n : Nat} (h : Dn lt p n) (h1 : 1 ≤ n) (k : le lt (at' p n) (at' p (n - 1))) : Dn lt p (n + 1) := fun a b hab hb => by
  by_cases e : b = n
  · subst e
    by_cases e2 : a = b
    · subst e2; exact le_rf O _
    · exact le_tr O k (h a (b - 1) (by omega) (by omega))
  · exact h a b hab (by omega)
theorem asc_ok (p : Array Nat) : ∀ (f n : Nat), 1 ≤ n → Up lt p n → n ≤ run lt (kas_asc p f n) ∧ run lt (kas_asc p f n) ≤ n + f ∧ Up lt p (run lt (kas_asc p f n)) ∧ (run lt (kas_asc p f n) < n + f → lt (at' p (run lt (kas_asc p f n))) (at' p (run lt (kas_asc p f n) - 1)) = true)
  | 0, n, h1, h => ⟨Nat.le_refl _, Nat.le_refl _, h, fun z => absurd z (Nat.lt_irrefl _)⟩
  | f + 1, n, h1, h => by
    cases e : lt (at' p n) (at' p (n - 1)) with
    | true =>
      have r : run lt (kas_asc p (f + 1) n) = n := by
        show run lt (if lt (at' p n) (at' p (n - 1)) = true then .ret n else kas_asc p f (n + 1)) = n
        rw [e]; rfl
      rw [r]
      exact ⟨Nat.le_refl _, by omega, h, fun _ => e⟩
    | false =>
      have r : run lt (kas_asc p (f + 1) n) = run lt (kas_asc p f (n + 1)) := by
        show run lt (if lt (at' p n) (at' p (n - 1)) = true then .ret n else kas_asc p f (n + 1)) = _
        rw [e]; rfl
      rw [r]
      obtain ⟨a1, a2, a3, a4⟩ := asc_ok p f (n + 1) (by omega) (up_snoc O h h1 e)
      exact ⟨by omega, by omega, a3, fun z => a4 (by omega)⟩
omit O
/-- the last q + 1 ahead of n are alike -/
noncomputable def Eqs (lt : Nat → Nat → Bool) (p : Array Nat) (n q : Nat) : Prop := ∀ a b, n - (q + 1) ≤ a → a < n → n - (q + 1) ≤ b → b < n → le lt (at' p a) (at' p b)
include O
theorem rev_eqs {p : Array Nat} {n q m : Nat} (hn : n ≤ p.size) (hq : q + 1 ≤ n) (h : Eqs lt p n q) (k : Nat) : le lt (at' (kas_rev p (n - (q + 1)) n) k) (at' p k) ∧ le lt (at' p k) (at' (kas_rev p (n - (q + 1)) n) k) := by
  rw [at_rev hn]
  split
  · next c => exact ⟨h _ _ (by omega) (by omega) c.1 c.2, h _ _ c.1 c.2 (by omega) (by omega)⟩
  · exact ⟨le_rf O _, le_rf O _⟩
theorem dn_like {p p' : Array Nat} {n : Nat} (h : Dn lt p n) (e : ∀ k, le lt (at' p' k) (at' p k) ∧ le lt (at' p k) (at' p' k)) : Dn lt p' n := fun a b hab hb =>
  le_tr O (e b).1 (le_tr O (h a b hab hb) (e a).2)
omit O
structure DOk (lt : Nat → Nat → Bool) (p0 : Array Nat) (N : Nat) (r : Array Nat × Nat × Nat) (n : Nat) : Prop where
  perm : r.1.Perm p0
  lo : n ≤ r.2.1
  hi : r.2.1 ≤ N
  dn : Dn lt r.1 r.2.1
  q : r.2.2 + 1 ≤ r.2.1
  eqs : Eqs lt r.1 r.2.1 r.2.2
include O
theorem desc_ok (p0 : Array Nat) : ∀ (f : Nat) (p : Array Nat) (n q : Nat), p.Perm p0 → n + f ≤ p0.size → Dn lt p n → q + 1 ≤ n → Eqs lt p n q → DOk lt p0 (n + f) (run lt (kas_desc f p n q)) n
  | 0, p, n, q, hp, hs, h, hq, he => ⟨hp, Nat.le_refl _, Nat.le_refl _, h, hq, he⟩
  | f + 1, p, n, q, hp, hs, h, hq, he => by
    have hsz : p.size = p0.size := hp.size_eq
    cases e : lt (at' p n) (at' p (n - 1)) with
    | true =>
      have one : ∀ p' : Array Nat, Eqs lt p' (n + 1) 0 := fun p' a b a1 a2 b1 b2 => by
        have e1 : a = n := by omega
        have e2 : b = n := by omega
        subst e1 e2; exact le_rf O _
      by_cases c : q > 0
      · have r : run lt (kas_desc (f + 1) p n q) = run lt (kas_desc f (kas_rev p (n - (q + 1)) n) (n + 1) 0) := by
          show run lt (if lt (at' p n) (at' p (n - 1)) = true then (if q > 0 then kas_desc f (kas_rev p (n - (q + 1)) n) (n + 1) 0 else kas_desc f p (n + 1) 0) else _) = _
          rw [e, if_pos rfl, if_pos c]
        rw [r]
        have lk := rev_eqs O (m := 0) (by omega) hq he
        have d := desc_ok p0 f (kas_rev p (n - (q + 1)) n) (n + 1) 0 ((mirror_perm _ _ _ _).trans hp) (by omega) (dn_like O (dn_snoc O h (by omega) (le_lt O e)) lk) (by omega) (one _)
        exact ⟨d.perm, by have := d.lo; omega, by have := d.hi; omega, d.dn, d.q, d.eqs⟩
      · have r : run lt (kas_desc (f + 1) p n q) = run lt (kas_desc f p (n + 1) 0) := by
          show run lt (if lt (at' p n) (at' p (n - 1)) = true then (if q > 0 then kas_desc f (kas_rev p (n - (q + 1)) n) (n + 1) 0 else kas_desc f p (n + 1) 0) else _) = _
          rw [e, if_pos rfl, if_neg c]
        rw [r]
        have d := desc_ok p0 f p (n + 1) 0 hp (by omega) (dn_snoc O h (by omega) (le_lt O e)) (by omega) (one _)
        exact ⟨d.perm, by have := d.lo; omega, by have := d.hi; omega, d.dn, d.q, d.eqs⟩
    | false =>
      cases e2 : lt (at' p (n - 1)) (at' p n) with
      | true =>
        have r : run lt (kas_desc (f + 1) p n q) = (p, n, q) := by
          show run lt (if lt (at' p n) (at' p (n - 1)) = true then _ else (KasT.ask (at' p (n - 1)) (at' p n) fun d => if d = true then .ret (p, n, q) else kas_desc f p (n + 1) (q + 1))) = _
          rw [e, if_neg (by decide)]
          show run lt (if lt (at' p (n - 1)) (at' p n) = true then .ret (p, n, q) else kas_desc f p (n + 1) (q + 1)) = _
          rw [e2]; rfl
        rw [r]
        exact ⟨hp, Nat.le_refl _, by show n ≤ n + (f + 1); omega, h, hq, he⟩
      | false =>
        have r : run lt (kas_desc (f + 1) p n q) = run lt (kas_desc f p (n + 1) (q + 1)) := by
          show run lt (if lt (at' p n) (at' p (n - 1)) = true then _ else (KasT.ask (at' p (n - 1)) (at' p n) fun d => if d = true then .ret (p, n, q) else kas_desc f p (n + 1) (q + 1))) = _
          rw [e, if_neg (by decide)]
          show run lt (if lt (at' p (n - 1)) (at' p n) = true then .ret (p, n, q) else kas_desc f p (n + 1) (q + 1)) = _
          rw [e2, if_neg (by decide)]
        rw [r]
        have he' : Eqs lt p (n + 1) (q + 1) := fun a b a1 a2 b1 b2 => by
          by_cases ca : a = n
          · subst ca
            by_cases cb : b = a
            · subst cb; exact le_rf O _
            · exact le_tr O e2 (he (a - 1) b (by omega) (by omega) (by omega) (by omega))
          · by_cases cb : b = n
            · subst cb; exact le_tr O (he a (b - 1) (by omega) (by omega) (by omega) (by omega)) e
            · exact he a b (by omega) (by omega) (by omega) (by omega)
        have d := desc_ok p0 f p (n + 1) (q + 1) hp (by omega) (dn_snoc O h (by omega) e2) (by omega) he'
        exact ⟨d.perm, by have := d.lo; omega, by have := d.hi; omega, d.dn, d.q, d.eqs⟩
omit O
/-- a run at the front: so many, rising -/
structure ROk (lt : Nat → Nat → Bool) (p0 : Array Nat) (N : Nat) (r : Nat × Array Nat) : Prop where
  perm : r.2.Perm p0
  lo : 1 ≤ r.1
  hi : r.1 ≤ N
  up : Up lt r.2 r.1
theorem dn_rev {p : Array Nat} {n : Nat} (hn : n ≤ p.size) (h : Dn lt p n) : Up lt (kas_rev p 0 n) n := fun a b hab hb => by
  rw [at_rev hn, at_rev hn, if_pos ⟨by omega, by omega⟩, if_pos ⟨by omega, by omega⟩]
  exact h _ _ (by omega) (by omega)
include O
theorem tail3_ok {p0 p : Array Nat} {n N : Nat} (hp : p.Perm p0) (hN : N ≤ p0.size) (h1 : 1 ≤ n) (hn : n ≤ N) (h : Dn lt p n) : ROk lt p0 N (run lt (kas_tail3 n N p)) := by
  have hsz : p.size = p0.size := hp.size_eq
  have u := dn_rev (by omega) h
  unfold kas_tail3
  rw [run_bind]
  obtain ⟨a1, a2, a3, _⟩ := asc_ok O (kas_rev p 0 n) (N - n) n h1 u
  exact ⟨(mirror_perm _ _ _ _).trans hp, by show 1 ≤ run lt _; omega, by show run lt _ ≤ N; omega, a3⟩
theorem descPart_ok {p0 p : Array Nat} {n N : Nat} (hp : p.Perm p0) (hN : N ≤ p0.size) (hn : n + 1 ≤ N) (h : Dn lt p (n + 1)) : ROk lt p0 N (run lt (kas_descPart n N p)) := by
  have hsz : p.size = p0.size := hp.size_eq
  unfold kas_descPart
  rw [run_bind]
  have one : Eqs lt p (n + 1) 0 := fun a b a1 a2 b1 b2 => by
    have e1 : a = n := by omega
    have e2 : b = n := by omega
    subst e1 e2; exact le_rf O _
  have d := desc_ok O p0 (N - (n + 1)) p (n + 1) 0 hp (by omega) h (by omega) one
  generalize run lt (kas_desc (N - (n + 1)) p (n + 1) 0) = r at d
  obtain ⟨p', n', q'⟩ := r
  have d1 := d.lo
  have d2 := d.hi
  have d3 := d.q
  dsimp only at d1 d2 d3
  have hs' : p'.size = p0.size := d.perm.size_eq
  show ROk lt p0 N (run lt (if q' > 0 then kas_tail3 n' N (kas_rev p' (n' - (q' + 1)) n') else kas_tail3 n' N p'))
  split
  · have lk := rev_eqs O (p := p') (n := n') (q := q') (m := 0) (by omega) d3 d.eqs
    exact tail3_ok O ((mirror_perm _ _ _ _).trans d.perm) hN (by omega) (by omega) (dn_like O d.dn lk)
  · exact tail3_ok O d.perm hN (by omega) (by omega) d.dn
theorem count_ok {p : Array Nat} {N : Nat} (hN : N ≤ p.size) (h1 : 1 ≤ N) : ROk lt p N (run lt (kas_count N p)) := by
  unfold kas_count
  rw [run_bind]
  obtain ⟨a1, a2, a3, a4⟩ := asc_ok O p (N - 1) 1 (Nat.le_refl _) (up_one O p)
  generalize run lt (kas_asc p (N - 1) 1) = n at a1 a2 a3 a4
  by_cases c : n = N
  · rw [if_pos (by rw [c]; exact beq_self_eq_true _)]
    exact ⟨Array.Perm.refl _, by show 1 ≤ n; omega, by show n ≤ N; omega, a3⟩
  · rw [if_neg (by simpa using c)]
    have lt1 := a4 (by omega)
    by_cases c2 : n > 1
    · rw [if_pos c2]
      show ROk lt p N (run lt (if lt (at' p 0) (at' p (n - 1)) = true then .ret (n, p) else kas_descPart n N (kas_rev p 0 n)))
      cases e : lt (at' p 0) (at' p (n - 1)) with
      | true =>
        rw [if_pos rfl]
        exact ⟨Array.Perm.refl _, by show 1 ≤ n; omega, by show n ≤ N; omega, a3⟩
      | false =>
        rw [if_neg (by decide)]
        have eq : ∀ a b, a < n → b < n → le lt (at' p a) (at' p b) := fun a b ha hb => le_tr O (a3 a (n - 1) (by omega) (by omega)) (le_tr O e (a3 0 b (by omega) hb))
        refine descPart_ok O (mirror_perm _ _ _ _) hN (by omega) ?_
        have d0 : Dn lt (kas_rev p 0 n) n := fun a b hab hb => by
          rw [at_rev (by omega), at_rev (by omega), if_pos ⟨by omega, by omega⟩, if_pos ⟨by omega, by omega⟩]
          exact eq _ _ (by omega) (by omega)
        refine dn_snoc O d0 (by omega) ?_
        rw [at_rev (by omega), at_rev (by omega), if_neg (by omega), if_pos ⟨by omega, by omega⟩]
        exact le_tr O (le_lt O lt1) (eq _ _ (by omega) (by omega))
    · rw [if_neg c2]
      have e1 : n = 1 := by omega
      subst e1
      refine descPart_ok O (Array.Perm.refl _) hN (by omega) ?_
      have d0 : Dn lt p 1 := fun a b h1 h2 => by
        have e1 : a = 0 := by omega
        have e2 : b = 0 := by omega
        subst e1 e2; exact le_rf O _
      exact dn_snoc O d0 (Nat.le_refl _) (le_lt O lt1)
theorem place_ok {p : Array Nat} {k : Nat} (h : Up lt p k) : ∀ (f l r : Nat), l ≤ r → r ≤ k → r - l ≤ f → (∀ a, a < l → le lt (at' p a) (at' p k)) → (∀ b, r ≤ b → b < k → lt (at' p k) (at' p b) = true) →
    run lt (kas_place p k f l r) ≤ k ∧ (∀ a, a < run lt (kas_place p k f l r) → le lt (at' p a) (at' p k)) ∧ ∀ b, run lt (kas_place p k f l r) ≤ b → b < k → lt (at' p k) (at' p b) = true
  | 0, l, r, hlr, hrk, hf, h1, h2 => ⟨by show l ≤ k; omega, h1, fun b hb1 hb2 => h2 b (by have : l ≤ b := hb1; omega) hb2⟩
  | f + 1, l, r, hlr, hrk, hf, h1, h2 => by
    by_cases c : l ≥ r
    · have e : run lt (kas_place p k (f + 1) l r) = l := by
        show run lt (if l ≥ r then .ret l else _) = l
        rw [if_pos c]; rfl
      rw [e]
      exact ⟨by omega, h1, fun b hb1 hb2 => h2 b (by omega) hb2⟩
    · cases e : lt (at' p k) (at' p ((l + r) / 2)) with
      | true =>
        have e2 : run lt (kas_place p k (f + 1) l r) = run lt (kas_place p k f l ((l + r) / 2)) := by
          show run lt (if l ≥ r then .ret l else .ask (at' p k) (at' p ((l + r) / 2)) fun c => if c = true then kas_place p k f l ((l + r) / 2) else kas_place p k f ((l + r) / 2 + 1) r) = _
          rw [if_neg c]
          show run lt (if lt (at' p k) (at' p ((l + r) / 2)) = true then _ else _) = _
          rw [e, if_pos rfl]
        rw [e2]
        refine place_ok h f l ((l + r) / 2) (by omega) (by omega) (by omega) h1 fun b hb1 hb2 => ?_
        have z := h ((l + r) / 2) b hb1 hb2
        rcases O.ng (at' p k) (at' p b) (at' p ((l + r) / 2)) e with y | y
        · exact y
        · unfold le at z; rw [z] at y; cases y
      | false =>
        have e2 : run lt (kas_place p k (f + 1) l r) = run lt (kas_place p k f ((l + r) / 2 + 1) r) := by
          show run lt (if l ≥ r then .ret l else .ask (at' p k) (at' p ((l + r) / 2)) fun c => if c = true then kas_place p k f l ((l + r) / 2) else kas_place p k f ((l + r) / 2 + 1) r) = _
          rw [if_neg c]
          show run lt (if lt (at' p k) (at' p ((l + r) / 2)) = true then _ else _) = _
          rw [e, if_neg (by decide)]
        rw [e2]
        exact place_ok h f ((l + r) / 2 + 1) r (by omega) hrk (by omega) (fun a ha => le_tr O (h a ((l + r) / 2) (by omega) (by omega)) e) h2
theorem bin_ok {p0 : Array Nat} : ∀ (f : Nat) (p : Array Nat) (k : Nat), p.Perm p0 → 1 ≤ k → k + f ≤ p0.size → Up lt p k → (run lt (kas_bin f p k)).Perm p0 ∧ Up lt (run lt (kas_bin f p k)) (k + f)
  | 0, p, k, hp, h1, hs, h => ⟨hp, h⟩
  | f + 1, p, k, hp, h1, hs, h => by
    have hsz : p.size = p0.size := hp.size_eq
    have e : run lt (kas_bin (f + 1) p k) = run lt (kas_bin f (bubble p k (k - run lt (kas_place p k k 0 k))) (k + 1)) := by
      show run lt ((kas_place p k k 0 k).bind fun l => kas_bin f (bubble p k (k - l)) (k + 1)) = _
      rw [run_bind]
    rw [e]
    obtain ⟨b1, b2, b3⟩ := place_ok O h k 0 k (by omega) (Nat.le_refl _) (by omega) (fun a ha => absurd ha (Nat.not_lt_zero _)) (fun b hb1 hb2 => by omega)
    generalize run lt (kas_place p k k 0 k) = l at b1 b2 b3
    have u : Up lt (bubble p k (k - l)) (k + 1) := fun a b hab hb => by
      rw [at_bub (by omega) b1, at_bub (by omega) b1]
      by_cases ca : a = l
      · rw [if_pos ca]
        by_cases cb : b = l
        · rw [if_pos cb]; exact le_rf O _
        · rw [if_neg cb, if_pos ⟨by omega, by omega⟩]; exact le_lt O (b3 _ (by omega) (by omega))
      · rw [if_neg ca]
        by_cases cb : b = l
        · rw [if_pos cb, if_neg (by omega)]; exact b2 _ (by omega)
        · rw [if_neg cb]
          by_cases ca2 : l < a ∧ a ≤ k
          · rw [if_pos ca2, if_pos ⟨by omega, by omega⟩]; exact h _ _ (by omega) (by omega)
          · rw [if_neg ca2]
            by_cases cb2 : l < b ∧ b ≤ k
            · rw [if_pos cb2]; exact h _ _ (by omega) (by omega)
            · rw [if_neg cb2]; exact h _ _ (by omega) (by omega)
    have z := bin_ok f (bubble p k (k - l)) (k + 1) ((bubble_perm _ _ _).trans hp) (by omega) (by omega) u
    rw [show k + 1 + f = k + (f + 1) by omega] at z
    exact z
/-- list.sort's tree: a permutation, rising -/
theorem sort_ok {n : Nat} (hn : 1 ≤ n) : (run lt (kas_sort n)).Perm (List.toArray (List.range n)) ∧ Up lt (run lt (kas_sort n)) n := by
  have hs : (List.toArray (List.range n)).size = n := by simp
  unfold kas_sort
  rw [run_bind]
  have c := count_ok O (p := List.toArray (List.range n)) (N := n) (by omega) hn
  generalize run lt (kas_count n (List.toArray (List.range n))) = r at c
  obtain ⟨m, p⟩ := r
  have c1 := c.lo
  have c2 := c.hi
  dsimp only at c1 c2
  show (run lt (if m < n then kas_bin (n - max m 1) p (max m 1) else .ret p)).Perm _ ∧ Up lt (run lt (if m < n then kas_bin (n - max m 1) p (max m 1) else .ret p)) n
  rw [show max m 1 = m by omega]
  by_cases e : m < n
  · rw [if_pos e]
    have z := bin_ok O (n - m) p m c.perm c1 (by omega) c.up
    rw [show m + (n - m) = n by omega] at z
    exact z
  · rw [if_neg e]
    have e2 : m = n := by omega
    subst e2
    exact ⟨c.perm, c.up⟩
end
/-! which numbers are asked -/
noncomputable def Bd (N : Nat) {α : Type} (P : α → Prop) : KasT α → Prop
  | .ret a => P a
  | .ask i j k => i < N ∧ j < N ∧ ∀ b, Bd N P (k b)
theorem Bd.bind {N : Nat} {α β : Type} {P : α → Prop} {R : β → Prop} {f : α → KasT β} (hf : ∀ a, P a → Bd N R (f a)) : ∀ t : KasT α, Bd N P t → Bd N R (t.bind f)
  | .ret a, h => hf a h
  | .ask i j k, h => ⟨h.1, h.2.1, fun b => Bd.bind hf (k b) (h.2.2 b)⟩
theorem Bd.wp {N : Nat} {lt : Nat → Nat → Bool} {cmp : Nat → Nat → (Bool → PySem.Shared → Prop) → PySem.Shared → Prop} {s : PySem.Shared} (hc : ∀ i j C, i < N → j < N → C (lt i j) s → cmp i j C s) {α : Type} {P : α → Prop} {Q : α → PySem.Shared → Prop} :
    ∀ t : KasT α, Bd N P t → Q (run lt t) s → t.kasWp cmp Q s
  | .ret _, _, q => q
  | .ask i j k, h, q => hc i j _ h.1 h.2.1 (Bd.wp hc (k (lt i j)) (h.2.2 _) q)
section
variable {N : Nat}
theorem in_rng {p : Array Nat} (hN : 1 ≤ N) (hp : p.Perm (List.toArray (List.range N))) (k : Nat) : at' p k < N := by
  show p.getD k 0 < N
  rw [Array.getD_eq_getD_getElem?]
  cases e : p[k]? with
  | none => exact hN
  | some x =>
    have h1 : x ∈ p := Array.mem_of_getElem? e
    have h2 : x ∈ List.toArray (List.range N) := hp.mem_iff.mp h1
    simpa using h2
theorem bd_asc (hN : 1 ≤ N) {p : Array Nat} (hp : p.Perm (List.toArray (List.range N))) : ∀ f n, Bd N (fun _ => True) (kas_asc p f n)
  | 0, _ => trivial
  | f + 1, n => ⟨in_rng hN hp _, in_rng hN hp _, fun b => by
    show Bd N _ (if b = true then .ret n else kas_asc p f (n + 1))
    split
    · trivial
    · exact bd_asc hN hp f (n + 1)⟩
theorem bd_desc (hN : 1 ≤ N) : ∀ f (p : Array Nat) n q, p.Perm (List.toArray (List.range N)) → Bd N (fun r => r.1.Perm (List.toArray (List.range N))) (kas_desc f p n q)
  | 0, _, _, _, hp => hp
  | f + 1, p, n, q, hp => ⟨in_rng hN hp _, in_rng hN hp _, fun b => by
    show Bd N _ (if b = true then (if q > 0 then kas_desc f (kas_rev p (n - (q + 1)) n) (n + 1) 0 else kas_desc f p (n + 1) 0) else _)
    split
    · split
      · exact bd_desc hN f _ _ _ ((mirror_perm _ _ _ _).trans hp)
      · exact bd_desc hN f _ _ _ hp
    · refine ⟨in_rng hN hp _, in_rng hN hp _, fun d => ?_⟩
      show Bd N _ (if d = true then .ret (p, n, q) else kas_desc f p (n + 1) (q + 1))
      split
      · exact hp
      · exact bd_desc hN f _ _ _ hp⟩
theorem bd_tail3 (hN : 1 ≤ N) {p : Array Nat} {n m : Nat} (hp : p.Perm (List.toArray (List.range N))) : Bd N (fun r => r.2.Perm (List.toArray (List.range N))) (kas_tail3 n m p) := by
  have hr : (kas_rev p 0 n).Perm (List.toArray (List.range N)) := (mirror_perm _ _ _ _).trans hp
  unfold kas_tail3
  refine Bd.bind (P := fun _ => True) (f := fun m => .ret (m, kas_rev p 0 n)) (fun a _ => ?_) _ (bd_asc hN hr _ _)
  exact hr
theorem bd_descPart (hN : 1 ≤ N) {p : Array Nat} {n m : Nat} (hp : p.Perm (List.toArray (List.range N))) : Bd N (fun r => r.2.Perm (List.toArray (List.range N))) (kas_descPart n m p) := by
  refine Bd.bind (fun r hr => ?_) _ (bd_desc hN _ _ _ _ hp)
  show Bd N _ (if r.2.2 > 0 then kas_tail3 r.2.1 m (kas_rev r.1 (r.2.1 - (r.2.2 + 1)) r.2.1) else kas_tail3 r.2.1 m r.1)
  split
  · exact bd_tail3 hN ((mirror_perm _ _ _ _).trans hr)
  · exact bd_tail3 hN hr
theorem bd_count (hN : 1 ≤ N) {p : Array Nat} {m : Nat} (hp : p.Perm (List.toArray (List.range N))) : Bd N (fun r => r.2.Perm (List.toArray (List.range N))) (kas_count m p) := by
  refine Bd.bind (fun n _ => ?_) _ (bd_asc hN hp _ _)
  split
  · exact hp
  · split
    · refine ⟨in_rng hN hp _, in_rng hN hp _, fun b => ?_⟩
      show Bd N _ (if b = true then .ret (n, p) else kas_descPart n m (kas_rev p 0 n))
      split
      · exact hp
      · exact bd_descPart hN ((mirror_perm _ _ _ _).trans hp)
    · exact bd_descPart hN hp
theorem bd_place (hN : 1 ≤ N) {p : Array Nat} {k : Nat} (hp : p.Perm (List.toArray (List.range N))) : ∀ f l r, Bd N (fun _ => True) (kas_place p k f l r)
  | 0, _, _ => trivial
  | f + 1, l, r => by
    show Bd N _ (if l ≥ r then .ret l else .ask (at' p k) (at' p ((l + r) / 2)) fun c => if c = true then kas_place p k f l ((l + r) / 2) else kas_place p k f ((l + r) / 2 + 1) r)
    split
    · trivial
    · refine ⟨in_rng hN hp _, in_rng hN hp _, fun b => ?_⟩
      show Bd N _ (if b = true then kas_place p k f l ((l + r) / 2) else kas_place p k f ((l + r) / 2 + 1) r)
      split
      · exact bd_place hN hp f _ _
      · exact bd_place hN hp f _ _
theorem bd_bin (hN : 1 ≤ N) : ∀ f (p : Array Nat) k, p.Perm (List.toArray (List.range N)) → Bd N (fun _ => True) (kas_bin f p k)
  | 0, _, _, _ => trivial
  | f + 1, p, k, hp => Bd.bind (fun l _ => bd_bin hN f _ _ ((bubble_perm _ _ _).trans hp)) _ (bd_place hN hp _ _ _)
theorem bd_sort (hN : 1 ≤ N) : Bd N (fun _ => True) (kas_sort N) := by
  refine Bd.bind (fun r hr => ?_) _ (bd_count hN (Array.Perm.refl _))
  split
  · exact bd_bin hN _ _ _ hr
  · trivial
end
end Ms

/-! sorted: of fewer than 64 tuples of three ints -/
namespace Pv
open PySem PySem.Spec PySem.W PyProof.Rows L2
noncomputable abbrev T3 := Int × Int × Int
noncomputable def lt3 (a b : T3) : Bool := decide (a.1 < b.1) || (a.1 == b.1 && (decide (a.2.1 < b.2.1) || (a.2.1 == b.2.1 && decide (a.2.2 < b.2.2))))
noncomputable def IsT3 (h : Heap) (v : Value) (t : T3) : Prop := ∃ a o t1 t2 t3 n, v = .ref a ∧ h.get? a = some o ∧ o.cls = .type "tuple" ∧ o.data = .seq #[.int t.1 t1, .int t.2.1 t2, .int t.2.2 t3] n
theorem IsT3.kept {h h' : Heap} {v : Value} {t : T3} (k : ∀ b o, h.get? b = some o → h'.get? b = some o) (i : IsT3 h v t) : IsT3 h' v t := by
  obtain ⟨a, o, t1, t2, t3, n, e1, e2, e3, e4⟩ := i
  exact ⟨a, o, t1, t2, t3, n, e1, k _ _ e2, e3, e4⟩
theorem lt3_ord (ts : List T3) : Ms.Ord fun i j => lt3 (ts.getD i (0, 0, 0)) (ts.getD j (0, 0, 0)) where
  ir := fun a => by simp [lt3]
  tr := fun a b c h k => by
    simp only [lt3, Bool.or_eq_true, Bool.and_eq_true, decide_eq_true_eq, beq_iff_eq] at h k ⊢
    omega
  ng := fun a b c h => by
    simp only [lt3, Bool.or_eq_true, Bool.and_eq_true, decide_eq_true_eq, beq_iff_eq] at h ⊢
    omega
section
variable {prog : Program} {w : World} {A : Around} {E : Value → Shared → Prop} {s : Shared}
theorem t3_lt {x y : Value} {a b : T3} {Q : Bool → Shared → Prop} (hx : IsT3 s.heap x a) (hy : IsT3 s.heap y b) (h : Q (lt3 a b) s) : wpAny (model prog w) A (keyLt' (tuples' true) x y) Q E s := by
  obtain ⟨x, ox, t1, t2, t3, n, rfl, ex, _, dx⟩ := hx
  obtain ⟨y, oy, u1, u2, u3, m, rfl, ey, _, dy⟩ := hy
  obtain ⟨a1, a2, a3⟩ := a
  obtain ⟨b1, b2, b3⟩ := b
  refine kat_lt ex dx ey dy ?_
  refine kat_cons (wpAny_eqBool_int ?_)
  by_cases c1 : a1 = b1
  · rw [show (a1 == b1) = true from beq_iff_eq.mpr c1]
    refine kat_yes (kat_cons (wpAny_eqBool_int ?_))
    by_cases c2 : a2 = b2
    · rw [show (a2 == b2) = true from beq_iff_eq.mpr c2]
      refine kat_yes (kat_cons (wpAny_eqBool_int ?_))
      by_cases c3 : a3 = b3
      · rw [show (a3 == b3) = true from beq_iff_eq.mpr c3]
        refine kat_yes (kat_nil ?_)
        have e : lt3 (a1, a2, a3) (b1, b2, b3) = false := by subst c1 c2 c3; simp [lt3]
        rw [e] at h
        exact h
      · rw [show (a3 == b3) = false from by simpa using c3]
        have e : lt3 (a1, a2, a3) (b1, b2, b3) = decide (a3 < b3) := by subst c1 c2; simp [lt3]
        rw [e] at h
        exact kat_no (kat_one _ _ (lt_int h))
    · rw [show (a2 == b2) = false from by simpa using c2]
      have e : lt3 (a1, a2, a3) (b1, b2, b3) = decide (a2 < b2) := by subst c1; simp [lt3, c2]
      rw [e] at h
      exact kat_no (kat_one _ _ (lt_int h))
  · rw [show (a1 == b1) = false from by simpa using c1]
    have e : lt3 (a1, a2, a3) (b1, b2, b3) = decide (a1 < b1) := by simp [lt3, c1]
    rw [e] at h
    exact kat_no (oneLt_int h)
/-- values that are such tuples, one by one -/
noncomputable def T3s (h : Heap) : List Value → List T3 → Prop
  | [], [] => True
  | v :: vs, t :: ts => IsT3 h v t ∧ T3s h vs ts
  | _, _ => False
theorem T3s.kept {h h' : Heap} (k : ∀ b o, h.get? b = some o → o.cls = .type "tuple" → h'.get? b = some o) : ∀ {vs : List Value} {ts : List T3}, T3s h vs ts → T3s h' vs ts
  | [], [], _ => trivial
  | [], _ :: _, i => i.elim
  | _ :: _, [], i => i.elim
  | v :: vs, t :: ts, i => by
    obtain ⟨⟨a, o, t1, t2, t3, n, e1, e2, e3, e4⟩, r⟩ := i
    exact ⟨⟨a, o, t1, t2, t3, n, e1, k _ _ e2 e3, e3, e4⟩, T3s.kept k r⟩
theorem T3s.len {h : Heap} : ∀ {vs : List Value} {ts : List T3}, T3s h vs ts → vs.length = ts.length
  | [], [], _ => rfl
  | [], _ :: _, i => i.elim
  | _ :: _, [], i => i.elim
  | v :: vs, t :: ts, i => by rw [List.length_cons, List.length_cons, T3s.len i.2]
theorem T3s.get {h : Heap} : ∀ {vs : List Value} {ts : List T3}, T3s h vs ts → ∀ i, i < vs.length → IsT3 h (vs.getD i .none) (ts.getD i (0, 0, 0))
  | [], [], _, i, hi => absurd hi (Nat.not_lt_zero _)
  | [], _ :: _, z, _, _ => z.elim
  | _ :: _, [], z, _, _ => z.elim
  | v :: vs, t :: ts, z, 0, _ => z.1
  | v :: vs, t :: ts, z, i + 1, hi => T3s.get z.2 i (Nat.lt_of_succ_lt_succ hi)
theorem T3s.firsts {h : Heap} : ∀ {vs : List Value} {ts : List T3}, T3s h vs ts → ∃ fs, KatTups h vs fs ∧ fs.length = vs.length ∧ ∀ v ∈ fs, ∃ i t, v = Value.int i t
  | [], [], _ => ⟨[], trivial, rfl, fun _ hv => nomatch hv⟩
  | [], _ :: _, z => z.elim
  | _ :: _, [], z => z.elim
  | v :: vs, t :: ts, z => by
    obtain ⟨fs, f1, f2, f3⟩ := T3s.firsts z.2
    obtain ⟨a, o, t1, t2, t3, n, rfl, e2, e3, e4⟩ := z.1
    refine ⟨.int t.1 t1 :: fs, KatTups.cons e2 e3 e4 rfl f1, by rw [List.length_cons, List.length_cons, f2], fun x hx => ?_⟩
    rcases List.mem_cons.mp hx with rfl | hx
    · exact ⟨_, _, rfl⟩
    · exact f3 x hx
noncomputable abbrev ltI (ts : List T3) : Nat → Nat → Bool := fun i j => lt3 (ts.getD i (0, 0, 0)) (ts.getD j (0, 0, 0))
noncomputable abbrev outV (vs : List Value) (p : Array Nat) : List Value := p.toList.map fun i => vs.getD i Value.none
theorem outV_range (vs : List Value) : outV vs (List.toArray (List.range vs.length)) = vs := by
  apply List.ext_getElem
  · simp
  · intro i h1 h2
    simp [List.getD_eq_getElem?_getD, List.getElem?_eq_getElem h2]
theorem no_lt {vs : Array Value} {n : Nat} {C : Prop} (h : (seqObj "list" vs n).cls = Value.type "tuple") : C := by
  have h' : Value.type "list" = Value.type "tuple" := h
  injection h' with e
  exact absurd e (by decide)
theorem lsort_t3 {a : Addr} {vs : List Value} {ts : List T3} {n : Nat} {P : PySem.Fin → Shared → Prop} (ho : s.heap.get? a = some (seqObj "list" vs.toArray n)) (ht : T3s s.heap vs ts) (h64 : vs.length < 64)
    (h : ∀ (p : Array Nat) (h' : Heap) (c : Nat), p.Perm (List.toArray (List.range vs.length)) → Ms.Up (ltI ts) p vs.length → (∀ b o, b ≠ a → s.heap.get? b = some o → h'.get? b = some o) →
      h'.get? a = some (seqObj "list" (outV vs p).toArray c) → P (.done (.ret .none)) { s with heap := h' }) :
    wpAny (model prog w) A (Builtin.«list.sort» ⟨[.ref a], []⟩) P E s := by
  have hz : vs.length ≤ sizeLine := by rw [sizeLine_eq]; omega
  have ha : a < s.heap.objs.size := Heap.lt_size ho
  obtain ⟨e1, ho1⟩ : ∃ e1, (s.heap.update a (Obj.mapSeq fun _ => (#[] : Array Value))).get? a = some (seqObj "list" #[] e1) := ⟨_, get?_update_seq ho fun _ => #[]⟩
  have kp : ∀ b o, b ≠ a → s.heap.get? b = some o → (((s.heap.update a (Obj.mapSeq fun _ => (#[] : Array Value))).push (seqObj "tuple" vs.toArray 0)).push (seqObj "list" #[] 0)).get? b = some o := fun b o hb e =>
    Heap.get?_push_of_some _ (Heap.get?_push_of_some _ (by rw [Heap.get?_update_ne _ _ _ _ hb]; exact e))
  have ht3 := T3s.kept (h' := ((s.heap.update a (Obj.mapSeq fun _ => (#[] : Array Value))).push (seqObj "tuple" vs.toArray 0)).push (seqObj "list" #[] 0)) (fun b o e ec => kp b o (by intro z; subst z; rw [ho] at e; cases e; exact no_lt ec) e) ht
  have hoN := Heap.get?_push_of_some (seqObj "list" #[] 0) (Heap.get?_push_of_some (seqObj "tuple" vs.toArray 0) ho1)
  generalize hN : ((s.heap.update a (Obj.mapSeq fun _ => (#[] : Array Value))).push (seqObj "tuple" vs.toArray 0)).push (seqObj "list" #[] 0) = hp3 at kp ht3 hoN
  have fin : ∀ (p : Array Nat), p.Perm (List.toArray (List.range vs.length)) → Ms.Up (ltI ts) p vs.length → P (.done (.ret .none)) { s with heap := hp3.update a (Obj.mapSeq fun _ => (outV vs p).toArray) } := fun p hp hu => by
    refine h p _ _ hp hu (fun b o hb e => by rw [Heap.get?_update_ne _ _ _ _ hb]; exact kp b o hb e) (get?_update_seq hoN fun _ => (outV vs p).toArray)
  have szO : ∀ p : Array Nat, p.Perm (List.toArray (List.range vs.length)) → (outV vs p).toArray.size ≤ sizeLine + 1 := fun p hp => by
    have := hp.size_eq
    simp at this
    simp
    omega
  rw [list_sort_plain]
  refine wpAny_bind (listItems_at ho rfl (wpAny_bind (listUpdate_at ho rfl ?_ (by simpa using hz) (Nat.zero_le _))))
  refine wpAny_bind (seqEpoch_at ho1 rfl (wpAny_bind (wpAny_newTuple ?_ (by simpa using hz))))
  refine wpAny_bind (wpAny_newList (wpAny_holding ?_) (Nat.zero_le _))
  show wpAny (model prog w) A _ P E { s with heap := ((s.heap.update a (Obj.mapSeq fun _ => (#[] : Array Value))).push (seqObj "tuple" vs.toArray 0)).push (seqObj "list" #[] 0) }
  rw [hN]
  dsimp only
  by_cases c : vs.toArray.size < 2
  · rw [if_pos c, if_pos c]
    refine wpAny_bind (wpAny_pure ?_)
    rw [StateT.run_pure]
    refine wpAny_bind (wpAny_pure ?_)
    have id1 : (arrOf (SortSt.mk' general' (vs.toArray.zip vs.toArray) #[] 7 none)).map (·.2) = (outV vs (List.toArray (List.range vs.length))).toArray := by
      rw [outV_range]
      show (vs.toArray.zip vs.toArray).map (·.2) = vs.toArray
      apply Array.toList_inj.mp
      simp [List.map_snd_zip]
    dsimp only
    rw [id1]
    have pr := Array.Perm.refl (List.toArray (List.range vs.length))
    refine wpAny_bind (seqEpoch_at hoN rfl (wpAny_bind (listUpdate_at hoN rfl ?_ (Nat.zero_le _) (szO _ pr))))
    simp only [bne_self_eq_false, Bool.false_eq_true, if_false]
    refine wpAny_pure (fin _ pr ?_)
    intro x y hxy hy
    have : x = y := by simp at c; omega
    subst this
    exact Ms.le_rf (lt3_ord ts) _
  · rw [if_neg c, if_neg c]
    have c2 : 2 ≤ vs.length := by simp at c; omega
    obtain ⟨fs, f1, f2, f3⟩ := ht3.firsts
    refine wpAny_bind (kat_kind f1 (by omega) (T := .type "int") (fun v hv => ?_) (by decide) ?_)
    · obtain ⟨i, t, rfl⟩ := f3 v hv
      exact Looks.of_pure rfl
    show wpAny _ _ _ _ _ _
    rw [show (Value.type "int" != Value.type "tuple") = true by decide]
    have srt := Ms.sort_ok (lt3_ord ts) (n := vs.length) (by omega)
    refine wpAny_bind (wpAny_mono (kat_run (ks := vs) (Q := fun st' s' => s' = { s with heap := hp3 } ∧ ∃ p : Array Nat, arrOf st' = p.map (kas_item (vs.toArray.zip vs.toArray)) ∧ failedOf st' = none ∧ p = Ms.run (ltI ts) (kas_sort vs.length)) (G := fun p s' => s' = { s with heap := hp3 } ∧ p = Ms.run (ltI ts) (kas_sort vs.length)) rfl c2 h64
      (fun p st' s' _ b2 b3 b4 => ⟨b4.1, p, b2, b3, b4.2⟩) ?_) ?_ fun _ _ z => z)
    · refine Ms.Bd.wp (N := vs.length) (lt := ltI ts) (fun i j C hi hj hc => ?_) _ (Ms.bd_sort (by omega)) ⟨rfl, rfl⟩
      exact t3_lt (ht3.get i hi) (ht3.get j hj) hc
    · rintro ⟨⟨⟩, st'⟩ s' ⟨rfl, p, hp1, hp2, rfl⟩
      dsimp only
      rw [kat_snds rfl hp1]
      refine wpAny_bind (seqEpoch_at hoN rfl (wpAny_bind (listUpdate_at hoN rfl ?_ (Nat.zero_le _) (szO _ srt.1))))
      rw [hp2]
      simp only [bne_self_eq_false, Bool.false_eq_true, if_false]
      exact wpAny_pure (fin _ srt.1 srt.2)
end
end Pv

namespace Pv
open PySem PySem.Spec PySem.W PyProof.Rows L2
section
variable {prog : Program} {w : World} {A : Around} {E : Value → Shared → Prop} {s : Shared}
/-- sorted(l): a new list, two behind the last object -/
theorem sorted_t3 {l : Addr} {vs : List Value} {ts : List T3} {Q : Value → Shared → Prop} (hl : s.heap.IsList l vs.toArray) (ht : T3s s.heap vs ts) (h64 : vs.length < 64)
    (h : ∀ (p : Array Nat) (h' : Heap) (c : Nat), p.Perm (List.toArray (List.range vs.length)) → Ms.Up (ltI ts) p vs.length → (∀ b o, s.heap.get? b = some o → h'.get? b = some o) →
      h'.get? (s.heap.objs.size + 1) = some (seqObj "list" (outV vs p).toArray c) → Q (.ref (s.heap.objs.size + 1)) { s with heap := h' }) :
    wpAny (model prog w) A (call (.builtin "sorted") [.ref l]) Q E s := by
  have hz : vs.length ≤ sizeLine := by rw [sizeLine_eq]; omega
  refine Calls.call_function_entry kind_sorted plain_sorted entry_sorted (args_sorted1 _) ?_
  unfold Builtin.«sorted»
  refine wpAny_bind (m := checkCount "sorted" 1 1 _) (wpAny_pure (wpAny_bind (collect_list hl ?_ hz)))
  refine wpAny_bind (wpAny_newList ?_ hz)
  have z1 : ((s.heap.push (seqObj "list" #[] 0)).update s.heap.objs.size (Obj.mapSeq (· ++ vs.toArray))).objs.size = s.heap.objs.size + 1 := by
    rw [Heap.size_update, size_push']
  have kp : ∀ b o, s.heap.get? b = some o → (((s.heap.push (seqObj "list" #[] 0)).update s.heap.objs.size (Obj.mapSeq (· ++ vs.toArray))).push (seqObj "list" vs.toArray 0)).get? b = some o := fun b o q => by
    have hb : b < s.heap.objs.size := Heap.lt_size q
    exact Heap.get?_push_of_some _ (by rw [Heap.get?_update_ne _ _ _ _ (Nat.ne_of_lt hb)]; exact Heap.get?_push_of_some _ q)
  have zo : (((s.heap.push (seqObj "list" #[] 0)).update s.heap.objs.size (Obj.mapSeq (· ++ vs.toArray))).push (seqObj "list" vs.toArray 0)).get? (s.heap.objs.size + 1) = some (seqObj "list" vs.toArray 0) := by
    have q := Heap.get?_push_size ((s.heap.push (seqObj "list" #[] 0)).update s.heap.objs.size (Obj.mapSeq (· ++ vs.toArray))) (o := seqObj "list" vs.toArray 0) rfl
    rw [z1] at q
    exact q
  show wpAny _ _ _ _ _ { s with heap := ((s.heap.push (seqObj "list" #[] 0)).update s.heap.objs.size (Obj.mapSeq (· ++ vs.toArray))).push (seqObj "list" vs.toArray 0) }
  rw [z1]
  have tt := T3s.kept (fun b o e _ => kp b o e) ht
  generalize ((s.heap.push (seqObj "list" #[] 0)).update s.heap.objs.size (Obj.mapSeq (· ++ vs.toArray))).push (seqObj "list" vs.toArray 0) = hp at kp zo tt
  refine wpAny_bind (wpAny_holding (wpAny_call_entry slot_list_sort ⟨_, zo, rfl⟩ entry_list_sort (lsort_t3 (s := { s with heap := hp }) zo tt h64 fun p h' c a1 a2 a3 a4 => ⟨_, rfl, ?_⟩) (args_list_sort _)))
  refine wpAny_pure ⟨_, rfl, h p h' c a1 a2 (fun b o q => a3 b o (Nat.ne_of_lt (Nat.lt_succ_of_lt (Heap.lt_size q))) (kp b o q)) a4⟩
end
/-! the layer's values -/
noncomputable def V3s (K : Fg) (H : Hp) : List V → List T3 → Prop
  | [], [] => True
  | v :: vs, t :: ts => (∃ a, v = .ref a ∧ H a = some (.tup [.int t.1, .int t.2.1, .int t.2.2])) ∧ V3s K H vs ts
  | _, _ => False
section
variable {X : Cx}
theorem v3s_heap {pins : List (Addr × Obj)} {σ : L2.St} {H : Hp} {s : Shared} (I : Inv X pins σ H s) : ∀ {vs : List V} {ts : List T3} {us : List Value}, V3s X.K H vs ts → Vals vs us → T3s s.heap us ts
  | [], [], _, _, .nil => trivial
  | [], _ :: _, _, z, _ => z.elim
  | _ :: _, [], _, z, _ => z.elim
  | v :: vs, t :: ts, _, z, .cons r rs => by
    obtain ⟨⟨a, rfl, hq⟩, z⟩ := z
    refine ⟨?_, v3s_heap I z rs⟩
    cases r
    obtain ⟨its, rv, ⟨o, p1, p2, n, p3⟩, _⟩ := I.tuple (SqT.of hq)
    cases rv with
    | cons r1 rv =>
      cases rv with
      | cons r2 rv =>
        cases rv with
        | cons r3 rv =>
          cases rv
          obtain ⟨t1, rfl⟩ := r1
          obtain ⟨t2, rfl⟩ := r2
          obtain ⟨t3, rfl⟩ := r3
          exact ⟨a, o, t1, t2, t3, n, rfl, p1, p2, p3⟩
theorem vals_getD {vs : List V} {us : List Value} (r : Vals vs us) : ∀ (l : List Nat), (∀ i ∈ l, i < vs.length) → Vals (l.map fun i => vs.getD i .non) (l.map fun i => us.getD i Value.none)
  | [], _ => .nil
  | i :: l, h => by
    refine .cons ?_ (vals_getD r l fun j hj => h j (List.mem_cons_of_mem _ hj))
    have hi := h i (List.mem_cons_self ..)
    obtain ⟨u, e, z⟩ := Vals.get r (i := i) (x := vs.getD i .non) (by rw [List.getD_eq_getElem?_getD, List.getElem?_eq_getElem hi]; rfl)
    dsimp only
    rw [show us.getD i Value.none = u by rw [List.getD_eq_getElem?_getD, e]; rfl]
    exact z
/-- sorted, of the layer -/
noncomputable def rSort (K : Fg) : List V → Hp → VK → Prop := fun xs H Q => ∃ p vs ts, xs = [.ref p] ∧ SqL K H p vs ∧ V3s K H vs ts ∧ vs.length < 64 ∧
  ∀ q : Array Nat, q.Perm (List.toArray (List.range vs.length)) → Ms.Up (ltI ts) q vs.length → ∀ r, H r = none → Q (.ref r) (upd H r (.lst (q.toList.map fun i => vs.getD i .non)))
theorem call_sort : CallR X (.builtin "sorted") (rSort X.K) := by
  intro pins s σ H xs us Q I r h
  obtain ⟨p, vs, ts, rfl, hq, h3, h64, k⟩ := h
  cases r with
  | cons r rr =>
    cases rr
    cases r
    obtain ⟨its, rv, pl, hz⟩ := I.list hq
    have hl := rv.length
    refine sorted_t3 pl.isList (v3s_heap I h3 rv) (by omega) fun q h' c a1 a2 a3 a4 => ?_
    have a1' : q.Perm (List.toArray (List.range vs.length)) := by rw [hl]; exact a1
    have lt' : ∀ i ∈ q.toList, i < vs.length := fun i hi => by
      have e : i ∈ List.toArray (List.range vs.length) := a1'.mem_iff.mp (by simpa using hi)
      simpa using e
    have sz : q.toList.length = vs.length := by have := a1'.size_eq; simpa using this
    have nw : s.heap.objs.size ≤ s.heap.objs.size + 1 := Nat.le_succ _
    refine ⟨.ref _, _, I.laid (t' := s.toks) a3 nw (show ObjOk X.prog X.w _ h' _ (.lst (q.toList.map fun i => vs.getD i .non)) from ⟨by rw [List.length_map, sz]; exact hz, _, c, vals_getD rv _ lt', a4⟩), rfl, k q a1' (by rw [hl]; exact a2) _ (I.hok.fresh nw)⟩
end
/-! .. and of this layer -/
noncomputable def encT (t : T3) : D := .tup [.int t.1, .int t.2.1, .int t.2.2]
noncomputable def t3? : D → Option T3
  | .tup [.int a, .int b, .int c] => some (a, b, c)
  | _ => none
noncomputable def t3s? : List D → Option (List T3)
  | [] => some []
  | d :: r => match t3? d with
    | some t => match t3s? r with
      | some ts => some (t :: ts)
      | none => none
    | none => none
theorem t3s_enc : ∀ ts : List T3, t3s? (ts.map encT) = some ts
  | [] => rfl
  | t :: ts => by simp only [List.map_cons, t3s?, encT, t3?, t3s_enc ts]
theorem t3_of {d : D} {t : T3} (h : t3? d = some t) : d = encT t := by
  unfold t3? at h
  split at h
  · cases h; rfl
  · cases h
theorem t3s_of : ∀ {l : List D} {ts : List T3}, t3s? l = some ts → l = ts.map encT
  | [], ts, h => by cases h; rfl
  | d :: r, ts, h => by
    unfold t3s? at h
    split at h
    · next t e =>
      split at h
      · next us e2 => cases h; rw [t3_of e, t3s_of e2]; rfl
      · cases h
    · cases h
theorem v3s_of {K : Fg} {H : Hp} : ∀ {ts : List T3} {vs : List V}, RelDs K H (ts.map encT) vs → V3s K H vs ts
  | [], _, .nil => trivial
  | t :: ts, _, .cons r rs => by
    refine ⟨?_, v3s_of rs⟩
    cases r with
    | tup hq r2 =>
      cases r2 with
      | cons x r2 =>
        cases r2 with
        | cons y r2 =>
          cases r2 with
          | cons z r2 =>
            cases r2
            cases x
            cases y
            cases z
            exact ⟨_, rfl, hq⟩
theorem relDs_getD {K : Fg} {H : Hp} {ts : List T3} {vs : List V} (r : RelDs K H (ts.map encT) vs) : ∀ (l : List Nat), (∀ i ∈ l, i < vs.length) → RelDs K H ((l.map fun i => ts.getD i (0, 0, 0)).map encT) (l.map fun i => vs.getD i .non)
  | [], _ => .nil
  | i :: l, h => by
    refine .cons ?_ (relDs_getD r l fun j hj => h j (List.mem_cons_of_mem _ hj))
    have hi := h i (List.mem_cons_self ..)
    have hl := r.length
    rw [List.length_map] at hl
    obtain ⟨v, e, z⟩ := r.get (i := i) (d := encT (ts.getD i (0, 0, 0))) (by rw [List.getElem?_map, List.getD_eq_getElem?_getD, List.getElem?_eq_getElem (by omega)]; rfl)
    dsimp only
    rw [show vs.getD i .non = v by rw [List.getD_eq_getElem?_getD, e]; rfl]
    exact z
noncomputable def le3 (a b : T3) : Prop := lt3 b a = false
theorem sort_perm {ts : List T3} {q : Array Nat} (h : q.Perm (List.toArray (List.range ts.length))) : (q.toList.map fun i => ts.getD i (0, 0, 0)).Perm ts := by
  have h1 : q.toList.Perm (List.range ts.length) := h.toList
  refine (h1.map _).trans (List.Perm.of_eq ?_)
  apply List.ext_getElem
  · simp
  · intro i h1 h2
    simp [List.getD_eq_getElem?_getD, List.getElem?_eq_getElem h2]
theorem sort_up {ts : List T3} {q : Array Nat} (h : q.Perm (List.toArray (List.range ts.length))) (u : Ms.Up (ltI ts) q ts.length) : (q.toList.map fun i => ts.getD i (0, 0, 0)).Pairwise le3 := by
  have sz : q.size = ts.length := by have := h.size_eq; simpa using this
  rw [List.pairwise_iff_getElem]
  intro i j hi hj hij
  simp only [List.length_map, Array.length_toList] at hi hj
  have z := u i j (Nat.le_of_lt hij) (by omega)
  simp only [List.getElem_map, Array.getElem_toList]
  have e1 : Ms.at' q i = q[i] := by show q.getD i 0 = _; simp [Array.getD, hi]
  have e2 : Ms.at' q j = q[j] := by show q.getD j 0 = _; simp [Array.getD, hj]
  rw [e1, e2] at z
  exact z
noncomputable def srtR : C3 := fun ds μ Q => match ds with
  | [.ref p] => match μ p with
    | some (.lst l) => match t3s? l with
      | some ts => ts.length < 64 ∧ ∀ us : List T3, us.Perm ts → us.Pairwise le3 → ∀ r, μ r = none → Q (.ref r) (updM μ r (.lst (us.map encT)))
      | none => False
    | _ => False
  | _ => False
section
variable {X : Cx}
theorem q_sorted : RC X (.builtin "sorted") srtR := by
  refine ⟨_, call_sort, fun xs vs H Q μ Q3 m r h k => ?_⟩
  unfold srtR at h
  split at h
  · next p =>
    split at h
    · next l e =>
      split at h
      · next ts e2 =>
        cases r with
        | cons r1 r2 =>
          cases r2
          cases r1
          have el := t3s_of e2
          subst el
          obtain ⟨us, hv, rv⟩ := m p _ e
          have hl := rv.length
          rw [List.length_map] at hl
          refine ⟨p, us, ts, rfl, SqL.of hv, v3s_of rv, by omega, fun q a1 a2 r hr => ?_⟩
          rw [← hl] at a1 a2
          have lt' : ∀ i ∈ q.toList, i < us.length := fun i hi => by
            have e : i ∈ List.toArray (List.range ts.length) := a1.mem_iff.mp (by simpa using hi)
            have e' : i < ts.length := by simpa using e
            omega
          exact k _ _ _ _ (h.2 _ (sort_perm a1) (sort_up a1 a2) r (m.free hr)) (Kp.new hr) (.ref r) (m.newL hr (relDs_getD rv _ lt'))
      · exact h.elim
    · exact h.elim
  · exact h.elim
end
end Pv

/-! a dict walked by its keys, whatever they are -/
namespace Pv
open PySem PySem.Spec PySem.W PyProof.Rows L2
/-- a dict with these entries -/
noncomputable def DG (h : Heap) (d : Addr) (es : Array DictEntry) (ep : Nat) : Prop := ∃ o, h.get? d = some o ∧ o.ExactDict ∧ o.data = .dict es ep
theorem DG.keep {h h' : Heap} {d : Addr} {es : Array DictEntry} {ep : Nat} (x : DG h d es ep) (k : ∀ o, h.get? d = some o → h'.get? d = some o) : DG h' d es ep := by
  obtain ⟨o, a, b⟩ := x
  exact ⟨o, k o a, b⟩
theorem DG.ty {s : Shared} {d : Addr} {es : Array DictEntry} {ep : Nat} (x : DG s.heap d es ep) : s.TypeIs (.ref d) "dict" := by
  obtain ⟨o, a, b, _⟩ := x
  exact ⟨o, a, b.1⟩
section
variable {prog : Program} {w : World} {A : Around} {E : Value → Shared → Prop} {s : Shared} {d it : Addr} {es : Array DictEntry} {ep i : Nat}
theorem dg_iter {Q : Value → Shared → Prop} (lo : (d == sysModules) = false) (x : DG s.heap d es ep) (q : Q (.ref s.heap.objs.size) { s with heap := s.heap.push { cls := .type "dict_keyiterator", data := .fields #[.ref d, .int 0 0, .int es.size 0, .int ep 0] } }) :
    wpAny (model prog w) A (pyIter (.ref d)) Q E s := by
  have ty := x.ty
  obtain ⟨o, e1, e2, e3⟩ := x
  refine wpAny_pyIter_slot ty F.slot_dict_iter (wpAny_call_entry F.slot_dict_iter ty F.entry_dict_iter ?a (F.args_dict_iter_1 _))
  case a =>
    unfold Builtin.«dict.__iter__»
    refine wpAny_bind ?_; unfold Builtin.Dict.dictSlotNone
    refine wpAny_bind (wpAny_notOrdered_dict ty (show wpAny _ _ (pure (Value.ref d)) _ _ s from wpAny_pure ?_))
    show wpAny _ _ (Builtin.Dict.showsAll d >>= _) _ _ s; unfold Builtin.Dict.showsAll
    rw [if_neg (by rw [lo]; exact Bool.false_ne_true)]
    refine wpAny_bind (wpAny_pure (wpAny_bind (wpAny_dictEntries e1 e3 (wpAny_bind (wpAny_dictEpoch e1 e3 ?_)))))
    refine wpAny_bind (wpAny_newObj_type (wpAny_pure ⟨_, rfl, "dict_keyiterator", _, ⟨_, Heap.get?_push_size _ rfl, rfl⟩, F.slot_dict_keyiterator_next.lookup, q⟩))
theorem dg_next {Q : Option Value → Shared → Prop} (hi : s.heap.IsKeyIter it d i es.size ep) (x : DG s.heap d es ep) (lt : i < es.size)
    (q : ∀ h', h'.IsKeyIter it d (i + 1) es.size ep → Heap.SameBut it s.heap h' → Q (some es[i].key) { s with heap := h' }) : wpAny (model prog w) A (pyNext (.ref it)) Q E s := by
  obtain ⟨o, a1, a2, a3⟩ := id hi
  obtain ⟨od, e1, e2, e3⟩ := x
  have ty := hi.typeIs
  have own0 : Builtin.Dict_items.ownsTuple "dict_keyiterator" = false := by decide
  unfold pyNext
  refine wpAny_bind (wpAny_attempt (wpAny_callSpecial?_slot (name := Str.ofString "__next__") ty F.slot_dict_keyiterator_next (wpAny_call_entry F.slot_dict_keyiterator_next ty F.entry_dict_keyiterator_next ?a (F.args_dict_keyiterator_next_1 _))))
  case a =>
    refine wpAny_bind (wpAny_pure (wpAny_bind (wpAny_bind ?_)))
    first | refine wpAny_bind (wpAny_typeNameOfWhole_keyiter ty (wpAny_pure ?_)) | refine wpAny_bind (wpAny_typeNameOf_keyiter ty (wpAny_pure ?_))
    refine wpAny_bind (wpAny_fieldsOf a1 a3 ?_); simp only [own0, Bool.false_eq_true, if_false]
    show wpAny _ _ (if (Value.ref d == Value.none) = true then _ else _) _ _ s; rw [if_neg (show ¬ ((Value.ref d == Value.none) = true) from Bool.false_ne_true)]
    refine wpAny_bind (wpAny_pure (wpAny_bind (wpAny_dictEntries e1 e3 ?_))); rw [if_neg (by simp)]
    refine wpAny_bind (wpAny_pure (wpAny_bind (wpAny_dictEpoch e1 e3 ?_))); rw [if_neg (by simp)]
    refine wpAny_pure ?_
    simp only [show ¬ ((i : Int) < 0) from by omega, if_false, Int.toNat_natCast, Array.getElem?_eq_getElem lt]
    refine wpAny_bind ?_
    first | refine wpAny_bind (wpAny_typeNameOfWhole_keyiter ty (wpAny_pure ?_)) | refine wpAny_bind (wpAny_typeNameOf_keyiter ty (wpAny_pure ?_))
    refine wpAny_bind (wpAny_isOneOf_keyiter ty (show wpAny _ _ (setField (.ref it) 1 (rawInt ((i : Int) + 1)) >>= _) _ _ s from wpAny_bind (wpAny_setField a1 a3 (by simp) ?_)))
    have hi' : (s.heap.update it (Obj.mapFields (·.setIfInBounds 1 (rawInt ((i : Int) + 1))))).IsKeyIter it d (i + 1) es.size ep := ⟨_, Heap.get?_update_self _ a1 (Obj.isFreed_of_fields (Obj.data_mapFields a3 _)), (Obj.cls_mapFields ..).trans a2, by rw [Obj.data_mapFields a3]; simp [rawInt]⟩
    refine wpAny_bind (wpAny_holding (wpAny_bind (wpAny_isOneOf_keyiter (s := { s with heap := s.heap.update it (Obj.mapFields (·.setIfInBounds 1 (rawInt ((i : Int) + 1)))) }) hi'.typeIs ?_)))
    show wpAny _ _ (pure es[i].key) _ _ _
    exact wpAny_pure (wpAny_pure ⟨_, rfl, wpAny_pure (q _ hi' (Heap.SameBut.update ..))⟩)
theorem dg_end {Q : Option Value → Shared → Prop} (hh : A.handled = none) (hi : s.heap.IsKeyIter it d i es.size ep) (x : DG s.heap d es ep) (ge : es.size ≤ i)
    (q : ∀ h', Heap.ExtBut it s.heap h' → Q none { s with heap := h' }) : wpAny (model prog w) A (pyNext (.ref it)) Q E s := by
  obtain ⟨o, a1, a2, a3⟩ := id hi
  obtain ⟨od, e1, e2, e3⟩ := x
  have ty := hi.typeIs
  have own0 : Builtin.Dict_items.ownsTuple "dict_keyiterator" = false := by decide
  unfold pyNext
  refine wpAny_bind (wpAny_attempt (wpAny_callSpecial?_slot (name := Str.ofString "__next__") ty F.slot_dict_keyiterator_next (wpAny_call_entry F.slot_dict_keyiterator_next ty F.entry_dict_keyiterator_next ?a (F.args_dict_keyiterator_next_1 _))))
  case a =>
    refine wpAny_bind (wpAny_pure (wpAny_bind (wpAny_bind ?_)))
    first | refine wpAny_bind (wpAny_typeNameOfWhole_keyiter ty (wpAny_pure ?_)) | refine wpAny_bind (wpAny_typeNameOf_keyiter ty (wpAny_pure ?_))
    refine wpAny_bind (wpAny_fieldsOf a1 a3 ?_); simp only [own0, Bool.false_eq_true, if_false]
    show wpAny _ _ (if (Value.ref d == Value.none) = true then _ else _) _ _ s; rw [if_neg (show ¬ ((Value.ref d == Value.none) = true) from Bool.false_ne_true)]
    refine wpAny_bind (wpAny_pure (wpAny_bind (wpAny_dictEntries e1 e3 ?_))); rw [if_neg (by simp)]
    refine wpAny_bind (wpAny_pure (wpAny_bind (wpAny_dictEpoch e1 e3 ?_))); rw [if_neg (by simp)]
    refine wpAny_pure ?_
    simp only [show ¬ ((i : Int) < 0) from by omega, if_false, Int.toNat_natCast, Array.getElem?_eq_none ge]
    refine wpAny_bind ?_
    first | refine wpAny_bind (wpAny_typeNameOfWhole_keyiter ty (wpAny_pure ?_)) | refine wpAny_bind (wpAny_typeNameOf_keyiter ty (wpAny_pure ?_))
    show wpAny _ _ (setField (.ref it) 0 .none >>= _) _ _ s; refine wpAny_bind (wpAny_setField a1 a3 (by simp) ?_)
    show wpAny _ _ (newExc (.type "StopIteration") [] >>= _) _ _ _; refine wpAny_bind ?_; simp only [newExc, newTuple]
    refine wpAny_bind (wpAny_newObj_type (wpAny_bind (m := firstArgMember _ _) (wpAny_of_eq (a := Value.none) (by first | rfl | (simp only [firstArgMember]; rfl)) (wpAny_newObj_type ?_ (by size_fits)))) (by size_fits))
    simp only [raiseNew]; refine wpAny_bind (wpAny_handled ?_); rw [show A.in1.handled = none from hh]
    refine wpAny_bind (wpAny_pure (wpAny_throw ?_)); refine wpAny_bind (wpAny_isInstance (T := "StopIteration") (b := true) ⟨_, Heap.get?_push_size _ rfl, rfl⟩ isSubtype_stop ?_)
    exact wpAny_pure (q _ (((Heap.SameBut.update ..).extBut.push _).push _))
theorem dg_walks (hh : A.handled = none) (I d : Addr) (ne : d ≠ I) : Walks prog w A I [I, d] [I] es.size (fun i v => ∃ e, es[i]? = some e ∧ v = e.key) (fun i h => h.IsKeyIter I d i es.size ep ∧ DG h d es ep) where
  sub := fun b hb => by simp at hb; simp [hb]
  frame := fun _ _ _ z hk => ⟨z.1.at fun o e => hk I (by simp) o e, z.2.keep fun o e => hk d (by simp) o e⟩
  item := fun i s Q E hi z q => by
    refine dg_next z.1 z.2 hi fun h' k1 k2 => ?_
    exact q _ h' s.toks ⟨es[i], by simp [hi], rfl⟩ ⟨k1, z.2.keep fun o e => k2.extBut d o ne e⟩ fun b o hb e => k2.extBut b o (fun y => hb (by simp [y])) e
  done := fun s Q E z q => dg_end hh z.1 z.2 (Nat.le_refl _) fun h' k => q h' s.toks fun b o hb e => k b o (fun y => hb (by simp [y])) e
  self := fun _ _ _ _ z q => wpAny_pyIter_keyiter z.1 q
theorem dg_src (lo : (d == sysModules) = false) : KdlSrc prog w "dict" d d es.size (fun i v => ∃ e, es[i]? = some e ∧ v = e.key) (fun h => DG h d es ep) where
  type := fun _ x => x.ty
  there := fun _ x => by obtain ⟨o, a, _⟩ := x; exact ⟨Heap.lt_size a, Heap.lt_size a⟩
  keep := fun _ _ x k => x.keep fun o e => k d (.inl rfl) o e
  notList := by decide
  notTuple := by decide
  hint := fun _ _ _ _ x q => kdl_hint_dict x.ty q
  iter := fun _ s hh x => by
    have hl : d < s.heap.objs.size := by obtain ⟨o, a, _⟩ := x; exact Heap.lt_size a
    exact ⟨_, _, (fun _ _ q => dg_iter lo x q), dg_walks hh _ d (Nat.ne_of_lt hl), ⟨⟨_, Heap.get?_push_size _ rfl, rfl, rfl⟩, x.keep fun o e => Heap.get?_push_of_some _ e⟩⟩
end
end Pv

namespace Pv
open PySem PySem.Spec PySem.W PyProof.Rows L2
section
variable {prog : Program} {w : World} {A : Around} {E : Value → Shared → Prop} {s : Shared} {d : Addr} {es : Array DictEntry} {ep : Nat}
theorem items_keys {acc : Array Value} (h : ItemsOf (fun i v => ∃ e, es[i]? = some e ∧ v = e.key) acc es.size) : acc.toList = es.toList.map (·.key) := by
  obtain ⟨h1, h2⟩ := h
  apply List.ext_getElem?
  intro i
  rw [List.getElem?_map, Array.getElem?_toList, Array.getElem?_toList]
  by_cases c : i < es.size
  · obtain ⟨e, e1, e2⟩ := h2 i (acc[i]'(by omega)) (by simp)
    rw [e1, Array.getElem?_eq_getElem (by omega), e2]
    rfl
  · rw [Array.getElem?_eq_none (by omega), Array.getElem?_eq_none (by omega)]
    rfl
/-- sorted(d): a new list of the keys -/
theorem sorted_dg {ts : List T3} {Q : Value → Shared → Prop} (hh : A.handled = none) (lo : (d == sysModules) = false) (x : DG s.heap d es ep) (ht : T3s s.heap (es.toList.map (·.key)) ts) (h64 : es.size < 64)
    (h : ∀ (p : Array Nat) (h1 h' : Heap) (c tk : Nat), p.Perm (List.toArray (List.range es.size)) → Ms.Up (ltI ts) p es.size → (∀ b o, s.heap.get? b = some o → h1.get? b = some o) → (∀ b o, h1.get? b = some o → h'.get? b = some o) →
      h'.get? h1.objs.size = some (seqObj "list" (outV (es.toList.map (·.key)) p).toArray c) → Q (.ref h1.objs.size) { s with heap := h', toks := tk }) :
    wpAny (model prog w) A (call (.builtin "sorted") [.ref d]) Q E s := by
  have hz : es.size ≤ sizeLine := by rw [sizeLine_eq]; omega
  refine Calls.call_function_entry kind_sorted plain_sorted entry_sorted (args_sorted1 _) ?_
  unfold Builtin.«sorted»
  refine wpAny_bind (m := checkCount "sorted" 1 1 _) (wpAny_pure (wpAny_bind (kdu_collect (dg_src lo) hh x hz fun h1 tk acc k1 ia => ?_)))
  rw [items_keys ia]
  have l1 : (es.toList.map (·.key)).length = es.size := by simp
  refine wpAny_bind (wpAny_newList ?_ (by rw [l1]; exact hz))
  have k2 : ∀ b o, s.heap.get? b = some o → (h1.push (seqObj "list" (es.toList.map (·.key)).toArray 0)).get? b = some o := fun b o q => Heap.get?_push_of_some _ (k1 b o q)
  have zo : (h1.push (seqObj "list" (es.toList.map (·.key)).toArray 0)).get? h1.objs.size = some (seqObj "list" (es.toList.map (·.key)).toArray 0) := Heap.get?_push_size _ rfl
  have tt := T3s.kept (fun b o e _ => k2 b o e) ht
  show wpAny _ _ _ _ _ { s with heap := h1.push (seqObj "list" (es.toList.map (·.key)).toArray 0), toks := tk }
  refine wpAny_bind (wpAny_holding (wpAny_call_entry slot_list_sort ⟨_, zo, rfl⟩ entry_list_sort (lsort_t3 (s := { s with heap := h1.push (seqObj "list" (es.toList.map (·.key)).toArray 0), toks := tk }) zo tt (by rw [l1]; exact h64) fun p h' c a1 a2 a3 a4 => ⟨_, rfl, ?_⟩) (args_list_sort _)))
  rw [l1] at a1 a2
  exact wpAny_pure ⟨_, rfl, h p h1 h' c tk a1 a2 k1 (fun b o q => a3 b o (Nat.ne_of_lt (Heap.lt_size q)) (Heap.get?_push_of_some _ q)) a4⟩
end
section
variable {X : Cx}
/-- the layer's dict by tuples of three ints: its keys' addresses -/
theorem dT_keys {P : Program} {w : World} {H : Hp} {h : Heap} : ∀ {kvs : List (List Key × V)} {xs : List (List Key × Addr × Value)} {ts : List T3},
    Paired (fun (p : List Key × V) (q : List Key × Addr × Value) => p.1 = q.1 ∧ H q.2.1 = some (.tup (p.1.map kV)) ∧ RelV p.2 q.2.2) kvs xs → kvs.map (·.1) = ts.map kT →
    V3s X.K H (xs.map fun q => V.ref q.2.1) ts ∧ Vals (xs.map fun q => V.ref q.2.1) (xs.map fun q => Value.ref q.2.1)
  | [], _, ts, .nil, e => by
    cases ts with
    | nil => exact ⟨trivial, .nil⟩
    | cons _ _ => cases e
  | p :: kvs, q :: xs, ts, .cons r rs, e => by
    cases ts with
    | nil => cases e
    | cons t ts =>
      rw [List.map_cons, List.map_cons] at e
      injection e with e1 e2
      obtain ⟨a, b⟩ := dT_keys (P := P) (w := w) (h := h) rs e2
      have hq := r.2.1
      rw [e1] at hq
      exact ⟨⟨⟨_, rfl, hq⟩, a⟩, .cons rfl b⟩
noncomputable def rSortD (K : Fg) : List V → Hp → VK → Prop := fun xs H Q => ∃ d kvs ts, xs = [.ref d] ∧ H d = some (.dT kvs) ∧ kvs.map (·.1) = ts.map kT ∧ kvs.length < 64 ∧
  ∀ vs, V3s K H vs ts → ∀ q : Array Nat, q.Perm (List.toArray (List.range ts.length)) → Ms.Up (ltI ts) q ts.length → ∀ r, H r = none → Q (.ref r) (upd H r (.lst (q.toList.map fun i => vs.getD i .non)))
theorem V3s.len {K : Fg} {H : Hp} : ∀ {vs : List V} {ts : List T3}, V3s K H vs ts → vs.length = ts.length
  | [], [], _ => rfl
  | [], _ :: _, z => z.elim
  | _ :: _, [], z => z.elim
  | _ :: vs, _ :: ts, z => by rw [List.length_cons, List.length_cons, V3s.len z.2]
theorem call_sortD (hc : X.calm = true) : CallR X (.builtin "sorted") (rSortD X.K) := by
  intro pins s σ H xs us Q I r h
  obtain ⟨d, kvs, ts, rfl, hd, ek, h64, k⟩ := h
  cases r with
  | cons r rr =>
    cases rr
    cases r
    obtain ⟨hz, lo, ys, pr, o, es, ep, o1, o2, o3, o4, _⟩ := (show ObjOk X.prog X.w H s.heap d (.dT kvs) from I.hok d _ hd)
    obtain ⟨v3, vv⟩ := dT_keys (X := X) (P := X.prog) (w := X.w) (h := s.heap) pr ek
    have ekey : es.toList.map (·.key) = ys.map fun q => Value.ref q.2.1 := by rw [o4, List.map_map]; rfl
    have l1 : kvs.length = ys.length := pr.length
    have l2 : ts.length = kvs.length := by have := congrArg List.length ek; simpa using this.symm
    have l3 : es.size = ys.length := by rw [← Array.length_toList, o4, List.length_map]
    refine sorted_dg (I.ok.hd hc) lo ⟨o, o1, o2, o3⟩ (by rw [ekey]; exact v3s_heap I v3 vv) (by omega) fun p h1 h' c tk a1 a2 a3 a4 a5 => ?_
    rw [ekey] at a5
    have e0 : es.size = ts.length := by omega
    rw [e0] at a1 a2
    have lt' : ∀ i ∈ p.toList, i < (ys.map fun q => V.ref q.2.1).length := fun i hi => by
      have e : i ∈ List.toArray (List.range ts.length) := a1.mem_iff.mp (by simpa using hi)
      have e' : i < ts.length := by simpa using e
      rw [List.length_map]
      omega
    have sz : p.toList.length = ts.length := by have := a1.size_eq; simpa using this
    have I1 : Inv X pins σ H { s with heap := h1, toks := tk } := I.kept a3
    refine ⟨.ref _, _, I1.laid (t' := tk) a4 (Nat.le_refl _) (show ObjOk X.prog X.w _ h' _ (.lst (p.toList.map fun i => (ys.map fun q => V.ref q.2.1).getD i .non)) from ⟨by rw [List.length_map, sz]; omega, _, c, vals_getD vv _ lt', a5⟩), rfl, k _ v3 p a1 a2 _ (I1.hok.fresh (Nat.le_refl _))⟩
/-- .. of this layer -/
theorem relDs_v3 {K : Fg} {H : Hp} : ∀ {ts : List T3} {vs : List V}, V3s K H vs ts → RelDs K H (ts.map encT) vs
  | [], [], _ => .nil
  | [], _ :: _, z => z.elim
  | _ :: _, [], z => z.elim
  | t :: ts, v :: vs, z => by
    obtain ⟨⟨a, rfl, hq⟩, z⟩ := z
    exact .cons (.tup hq (.cons (.int _) (.cons (.int _) (.cons (.int _) .nil)))) (relDs_v3 z)
theorem RelKs.keys {K : Fg} {H : Hp} {l : List (T3 × D)} {vs : List (List Key × V)} (r : RelKs K H l vs) : vs.map (·.1) = (l.map (·.1)).map kT ∧ l.length = vs.length := by
  induction r with
  | nil => exact ⟨rfl, rfl⟩
  | cons _ _ ih => exact ⟨by rw [List.map_cons, ih.1]; rfl, by rw [List.length_cons, List.length_cons, ih.2]⟩
noncomputable def srtDR : C3 := fun ds μ Q => match ds with
  | [.ref p] => match μ p with
    | some (.dct kvs) => kvs.length < 64 ∧ ∀ us : List T3, us.Perm (kvs.map (·.1)) → us.Pairwise le3 → ∀ r, μ r = none → Q (.ref r) (updM μ r (.lst (us.map encT)))
    | _ => False
  | _ => False
theorem q_sortedD (hc : X.calm = true) : RC X (.builtin "sorted") srtDR := by
  refine ⟨_, call_sortD hc, fun xs vs H Q μ Q3 m r h k => ?_⟩
  unfold srtDR at h
  split at h
  · next p =>
    split at h
    · next kvs e =>
      cases r with
      | cons r1 r2 =>
        cases r2
        cases r1
        obtain ⟨ws, hv, rk⟩ := m.dct p kvs e
        obtain ⟨k1, k2⟩ := rk.keys
        refine ⟨p, ws, kvs.map (·.1), rfl, hv, k1, by omega, fun vs v3 q a1 a2 r hr => ?_⟩
        have lt' : ∀ i ∈ q.toList, i < vs.length := fun i hi => by
          have e : i ∈ List.toArray (List.range (kvs.map (·.1)).length) := a1.mem_iff.mp (by simpa using hi)
          have e' : i < (kvs.map (·.1)).length := by simpa using e
          rw [v3.len]
          exact e'
        exact k _ _ _ _ (h.2 _ (sort_perm a1) (sort_up a1 a2) r (m.free hr)) (Kp.new hr) (.ref r) (m.newL hr (relDs_getD (relDs_v3 v3) _ lt'))
    · exact h.elim
  · exact h.elim
noncomputable def sortedR : C3 := fun ds μ Q => srtR ds μ Q ∨ srtDR ds μ Q
theorem q_sortedA (hc : X.calm = true) : RC X (.builtin "sorted") sortedR := RC.or q_sorted (q_sortedD hc)
end
end Pv

namespace Pv
open PySem PySem.Spec PySem.W PyProof.Rows L2
open PySem.AutoSeq1 (wpAny_loadPart')
/-! {} and d[(a, b, c)] = v -/
theorem Kp.wrD {H : Hp} {p : Addr} {o : HO} {xs : List (List Key × V)} (h : H p = some (.dT xs)) : Kp H (upd H p o) :=
  ⟨fun b ys q => by rw [upd_ne (ne_of q h (by intro z; cases z))]; exact q, fun b o u q => by rw [upd_ne (ne_of q h (by intro z; cases z))]; exact q⟩
theorem RelM.newD {K : Fg} {μ : Mu} {H : Hp} {p : Addr} (h : H p = none) (m : RelM K μ H) : RelM K (updM μ p (.dct [])) (upd H p (.dT [])) := by
  have m' := m.newT (o := .dT []) h
  refine ⟨fun q ys e => ?_, fun q c fs e => ?_, fun q kvs e => ?_, fun q kvs e => ?_⟩
  · by_cases z : q = p
    · subst z; rw [updM_same] at e; cases e
    · rw [updM_ne z] at e; exact m'.lst q ys e
  · by_cases z : q = p
    · subst z; rw [updM_same] at e; cases e
    · rw [updM_ne z] at e; exact m'.ins q c fs e
  · by_cases z : q = p
    · subst z; rw [updM_same] at e; cases e; exact ⟨[], upd_same, .nil⟩
    · rw [updM_ne z] at e; exact m'.dct q kvs e
  · by_cases z : q = p
    · subst z; rw [updM_same] at e; cases e
    · rw [updM_ne z] at e; exact m'.dcl q kvs e
theorem RelM.wrD {K : Fg} {μ : Mu} {H : Hp} {p : Addr} {kvs : List (T3 × D)} {vs ws : List (List Key × V)} (h : H p = some (.dT ws)) (r : RelKs K H kvs vs) (m : RelM K μ H) : RelM K (updM μ p (.dct kvs)) (upd H p (.dT vs)) := by
  refine ⟨fun q ys e => ?_, fun q c fs e => ?_, fun q ks e => ?_, fun q ks e => ?_⟩
  · by_cases z : q = p
    · subst z; rw [updM_same] at e; cases e
    · rw [updM_ne z] at e
      obtain ⟨us, q1, r1⟩ := m.lst q ys e
      exact ⟨us, by rw [upd_ne z]; exact q1, r1.mono (Kp.wrD h)⟩
  · by_cases z : q = p
    · subst z; rw [updM_same] at e; cases e
    · rw [updM_ne z] at e
      obtain ⟨C, dx, us, n, q1, q2, r1⟩ := m.ins q c fs e
      refine ⟨C, dx, us, n, by rw [upd_ne z]; exact q1, ?_, r1.mono (Kp.wrD h)⟩
      rw [upd_ne]
      · exact q2
      · intro y; subst y; rw [h] at q2; cases q2
  · by_cases z : q = p
    · subst z; rw [updM_same] at e; cases e; exact ⟨vs, upd_same, r.mono (Kp.wrD h)⟩
    · rw [updM_ne z] at e
      obtain ⟨us, q1, r1⟩ := m.dct q ks e
      exact ⟨us, by rw [upd_ne z]; exact q1, r1.mono (Kp.wrD h)⟩
  · by_cases z : q = p
    · subst z; rw [updM_same] at e; cases e
    · rw [updM_ne z] at e
      obtain ⟨us, q1, r1⟩ := m.dcl q ks e
      exact ⟨us, by rw [upd_ne z]; exact q1, r1.mono (Kp.wrD h)⟩
noncomputable def dnew3 : TE3 := fun _ μ Q => ∀ p, μ p = none → Q (.ref p) (updM μ p (.dct []))
noncomputable def putT (kvs : List (T3 × D)) (t : T3) (y : D) : List (T3 × D) := if (kvs.any fun kv => decide (kv.1 = t)) = true then kvs.map (fun kv => if kv.1 = t then (kv.1, y) else kv) else kvs ++ [(t, y)]
noncomputable def dset3 (to : TE3) (tk : TA3) (tv : TE3) : TS3 := fun D' ρ μ => tv ρ μ fun y μ1 => to ρ μ1 fun d μ2 => tk ρ μ2 fun ks μ3 => match d, ks with
  | .ref p, [.int a, .int b, .int c] => match μ3 p with
    | some (.dct kvs) => kvs.length < 1000 ∧ D'.nx ρ (updM μ3 p (.dct (putT kvs (a, b, c) y)))
    | _ => False
  | _, _ => False
theorem kT_inj {a b : T3} (h : kT a = kT b) : a = b := by
  obtain ⟨a1, a2, a3⟩ := a
  obtain ⟨b1, b2, b3⟩ := b
  simp only [kT, List.cons.injEq, Sum.inl.injEq, and_true] at h
  obtain ⟨rfl, rfl, rfl⟩ := h
  rfl
theorem RelKs.any {K : Fg} {H : Hp} {t : T3} {l : List (T3 × D)} {vs : List (List Key × V)} (r : RelKs K H l vs) : (vs.any fun kv => decide (kv.1 = kT t)) = l.any fun kv => decide (kv.1 = t) := by
  induction r with
  | nil => rfl
  | cons _ _ ih =>
    rw [List.any_cons, List.any_cons, ih]
    congr 1
    rw [decide_eq_decide]
    exact ⟨kT_inj, fun h => congrArg kT h⟩
theorem RelKs.rep {K : Fg} {H : Hp} {t : T3} {y : D} {v : V} (ry : RelD K H y v) {l : List (T3 × D)} {vs : List (List Key × V)} (r : RelKs K H l vs) : RelKs K H (l.map fun kv => if kv.1 = t then (kv.1, y) else kv) (vs.map fun kv => if kv.1 = kT t then (kv.1, v) else kv) := by
  induction r with
  | nil => exact .nil
  | cons h _ ih =>
    rename_i t' d' v' l' vs' _
    rw [List.map_cons, List.map_cons]
    by_cases c : t' = t
    · rw [if_pos c, if_pos (by rw [c])]; exact .cons ry ih
    · rw [if_neg c, if_neg (fun z => c (kT_inj z))]; exact .cons h ih
theorem RelKs.snoc {K : Fg} {H : Hp} {t : T3} {y : D} {v : V} (ry : RelD K H y v) {l : List (T3 × D)} {vs : List (List Key × V)} (r : RelKs K H l vs) : RelKs K H (l ++ [(t, y)]) (vs ++ [(kT t, v)]) := by
  induction r with
  | nil => exact .cons ry .nil
  | cons h _ ih => exact .cons h ih
theorem RelKs.put {K : Fg} {H : Hp} {t : T3} {y : D} {v : V} (ry : RelD K H y v) {l : List (T3 × D)} {vs : List (List Key × V)} (r : RelKs K H l vs) : RelKs K H (putT l t y) (putK vs (kT t) v) := by
  unfold putT putK
  rw [r.any]
  split
  · exact r.rep ry
  · exact r.snoc ry
section
variable {X : Cx} {pos pos' : Pos}
theorem re_dnew : RE X (.Dict [] [] pos) dnew3 := ⟨_, pe_dnewT, fun σ H Q ρ μ Q3 s m h k p hp => k _ _ _ _ (h p (m.free hp)) (Kp.new hp) (.ref p) (m.newD hp)⟩
theorem rs_dset {o value : Expr} {es : List Expr} {to tv : TE3} {tk : TA3} {x1} {pos2 : Pos} (hu : X.A.units + 64 < cLine) (ho : RE X o to) (hk : RA X es tk) (hv : RE X value tv)
    (hs : swapsWith value (some (.Subscript o (.Tuple es x1 pos2) pos')) pos.line X.env = pure false := by rfl) : RS X (.Assign [.Subscript o (.Tuple es x1 pos2) pos'] value pos) (dset3 to tk tv) := by
  obtain ⟨vo, po, ro⟩ := ho
  obtain ⟨vk, pk, rk⟩ := hk
  obtain ⟨vv, pv, rv⟩ := hv
  refine ⟨_, ps_dput (by omega) po (pe_tup pk) pv hs, fun σ H D ρ μ D3 s m h k => rv σ H _ ρ μ _ s m h fun y μ1 v H1 h1 k1 r1 m1 => ro σ H1 _ ρ μ1 _ (s.mono k1) m1 h1 fun d μ2 x H2 h2 k2 r2 m2 =>
    rk σ H2 _ ρ μ2 _ (s.mono (k1.trans k2)) m2 h2 fun ks μ3 xs H3 h3 k3 r3 m3 => ?_⟩
  split at h3
  · next p a b c =>
    split at h3
    · next kvs e =>
      cases r2
      cases r3 with
      | cons x1 r3 =>
        cases r3 with
        | cons x2 r3 =>
          cases r3 with
          | cons x3 r3 =>
            cases r3
            cases x1
            cases x2
            cases x3
            obtain ⟨ws, hw, rw'⟩ := m3.dct p kvs e
            refine ⟨show 3 ≤ sizeLine by decide, fun t ht => ?_⟩
            have hpt : p ≠ t := by intro z; subst z; rw [hw] at ht; cases ht
            have hw2 : upd H3 t (.tup [.int a, .int b, .int c]) p = some (.dT ws) := by rw [upd_ne hpt]; exact hw
            have m4 := m3.newT (o := .tup [.int a, .int b, .int c]) ht
            have kt := Kp.new (o := .tup [.int a, .int b, .int c]) ht
            have ry := r1.mono (k2.trans (k3.trans kt))
            have hl := rw'.keys.2
            have hz : (1000 : Nat) < sizeLine := by decide
            refine ⟨p, _, rfl, DPut.t (k := kT (a, b, c)) hw2 upd_same (by omega), ?_⟩
            exact k.nx _ _ _ _ h3.2 (k1.trans (k2.trans (k3.trans (kt.trans (Kp.wrD hw2))))) (s.mono (k1.trans (k2.trans (k3.trans (kt.trans (Kp.wrD hw2)))))) (m4.wrD hw2 ((rw'.mono kt).put ry))
    · exact h3.elim
  · exact h3.elim
end
end Pv

namespace Pv
open PySem PySem.Spec PyProof.Rows L2
open PySem.AutoSeq1 (wpAny_loadPart')
theorem ndlt (x y : Int) : (!decide (x < y)) = decide (y ≤ x) := by
  by_cases h : x < y
  · rw [decide_eq_true h, decide_eq_false (by omega)]; rfl
  · rw [decide_eq_false h, decide_eq_true (by omega)]; rfl
theorem ge_trip (p q : Addr) (a b : T3) (t1 t2 t3 u1 u2 u3 : Tok) (n m : Nat) (dd dd2 : Option Addr) (sl sl2 : Array (Option Value)) :
    Meets (Builtin.«tuple.__ge__» ⟨[.ref p, .ref q], []⟩) (fun A R s => s.heap.get? p = some { cls := .type "tuple", dict := dd, data := .seq #[.int a.1 t1, .int a.2.1 t2, .int a.2.2 t3] n, slots := sl } ∧ s.heap.get? q = some { cls := .type "tuple", dict := dd2, data := .seq #[.int b.1 u1, .int b.2.1 u2, .int b.2.2 u3] m, slots := sl2 } ∧
      R (.ok (.ret (.bool (!lt3 a b)))) s) :=
  .of_wp fun prog w A R s h => by
    obtain ⟨hp, g, dr, tk, os⟩ := s; obtain ⟨hl, hb, h⟩ := h
    obtain ⟨a1, a2, a3⟩ := a
    obtain ⟨b1, b2, b3⟩ := b
    have f2 := AutoSeq1.sub_tuple_tuple
    have ge : ∀ (x y : Int) (tx ty : Tok) {Q : Value → Shared → Prop} {E : Value → Shared → Prop} {A : Around} {s : Shared}, Q (.bool (decide (y ≤ x))) s → wpAny (model prog w) A (richCompare .GtE (.int x tx) (.int y ty)) Q E s := fun x y tx ty Q E A s hq => ge_int hq
    have eqb : ∀ (x y : Int) (tx ty : Tok) {Q : Bool → Shared → Prop} {E : Value → Shared → Prop} {A : Around} {s : Shared}, Q (x == y) s → wpAny (model prog w) A (eqBool (.int x tx) (.int y ty)) Q E s := fun x y tx ty Q E A s hq => wpAny_eqBool_int hq
    wp_walk using wpAny_loadPart' hl, wpAny_loadPart' hb, eqb a1 b1 t1 u1
    by_cases h1 : a1 = b1
    · rw [show (a1 == b1) = true by simpa using h1]
      wp_walk using eqb a2 b2 t2 u2
      by_cases h2 : a2 = b2
      · rw [show (a2 == b2) = true by simpa using h2]
        wp_walk using eqb a3 b3 t3 u3
        by_cases h3 : a3 = b3
        · rw [show (a3 == b3) = true by simpa using h3]
          wp_walk
          have h' : R (.ok (.ret (.bool true))) ⟨hp, g, dr, tk, os⟩ := by simpa [lt3, h1, h2, h3] using h
          exact ⟨_, rfl, h'⟩
        · rw [show (a3 == b3) = false by simpa using h3]
          wp_walk using ge a3 b3 t3 u3
          have e : (!lt3 (a1, a2, a3) (b1, b2, b3)) = decide (b3 ≤ a3) := by rw [show lt3 (a1, a2, a3) (b1, b2, b3) = decide (a3 < b3) by subst h1 h2; simp [lt3], ndlt]
          rw [e] at h
          exact ⟨_, rfl, by simpa using h⟩
      · rw [show (a2 == b2) = false by simpa using h2]
        wp_walk using ge a2 b2 t2 u2
        have e : (!lt3 (a1, a2, a3) (b1, b2, b3)) = decide (b2 ≤ a2) := by rw [show lt3 (a1, a2, a3) (b1, b2, b3) = decide (a2 < b2) by subst h1; simp [lt3, h2], ndlt]
        rw [e] at h
        exact ⟨_, rfl, by simpa using h⟩
    · rw [show (a1 == b1) = false by simpa using h1]
      wp_walk using ge a1 b1 t1 u1
      have e : (!lt3 (a1, a2, a3) (b1, b2, b3)) = decide (b1 ≤ a1) := by rw [show lt3 (a1, a2, a3) (b1, b2, b3) = decide (a1 < b1) by simp [lt3, h1], ndlt]
      rw [e] at h
      exact ⟨_, rfl, by simpa using h⟩
section
variable {prog : Program} {w : World} {A : Around} {R : Result → Shared → Prop} {I : Addr} {fp wr : List Addr} {n : Nat} {P : Nat → Value → Prop} {St : Nat → Heap → Prop}
end
section
variable {prog : Program} {w : World} {A : Around} {E : Value → Shared → Prop} {s : Shared}
end
end Pv

namespace Pv
open PySem PySem.Spec PyProof.Rows L2
section
variable {X : Cx}
noncomputable def ge3R : R3 := fun x y μ Q => match x, y with
  | .int i, .int j => Q (.bl (decide (j ≤ i))) μ
  | .tup [.int a, .int b, .int c], .tup [.int d, .int e, .int f] => Q (.bl (!lt3 (a, b, c) (d, e, f))) μ
  | _, _ => False
noncomputable def rGe3 (K : Fg) : R2 := fun x y H Q => ∃ p q a b, x = .ref p ∧ y = .ref q ∧ SqT K H p [.int a.1, .int a.2.1, .int a.2.2] ∧ SqT K H q [.int b.1, .int b.2.1, .int b.2.2] ∧ Q (.bl (!lt3 a b)) H
theorem vals3 {x y z : V} {us : List Value} (r : Vals [x, y, z] us) : ∃ a b c, us = [a, b, c] ∧ RelV x a ∧ RelV y b ∧ RelV z c := by
  cases r with
  | cons r1 r =>
    cases r with
    | cons r2 r =>
      cases r with
      | cons r3 r => cases r; exact ⟨_, _, _, rfl, r1, r2, r3⟩
theorem op_ge3 (hu : X.A.units < cLine) : OpR X (compareOp .GtE) (rGe3 X.K) := by
  intro pins s σ H x y v u Q I rx ry h
  obtain ⟨p, q, a, b, rfl, rfl, ha, hb, k⟩ := h
  cases rx
  cases ry
  obtain ⟨its, r1, ⟨⟨c1, d1, e1, l1⟩, o1, o2, n1, o3⟩, _⟩ := I.tuple ha
  obtain ⟨its2, r2, ⟨⟨c2, d2, e2, l2⟩, o4, o5, n2, o6⟩, _⟩ := I.tuple hb
  obtain ⟨_, _, _, rfl, ⟨t1, rfl⟩, ⟨t2, rfl⟩, ⟨t3, rfl⟩⟩ := vals3 r1
  obtain ⟨_, _, _, rfl, ⟨u1, rfl⟩, ⟨u2, rfl⟩, ⟨u3, rfl⟩⟩ := vals3 r2
  dsimp only at o2 o3 o5 o6
  subst o2 o3 o5 o6
  exact richCompare_meets_room (op := .GtE) (T := "tuple") ⟨_, o1, rfl⟩ ⟨_, o4, rfl⟩ PySem.F.slot_tuple_ge PySem.F.entry_tuple_ge (PySem.F.args_tuple_ge_2 _ _) (ge_trip p q a b t1 t2 t3 u1 u2 u3 n1 n2 d1 d2 l1 l2) ⟨o1, o4, by simp, ⟨.bl (!lt3 a b), H, I, rfl, k⟩⟩ hu
theorem q_ge3 (hu : X.A.units + 64 < cLine) : RO X (compareOp .GtE) ge3R := by
  refine ⟨_, op_ge.or (op_ge3 (by omega)), fun x y v u H Q μ Q3 m rx ry h k => ?_⟩
  unfold ge3R at h
  split at h
  · cases rx
    cases ry
    exact .inl ⟨_, _, rfl, rfl, k _ _ _ _ h (Kp.refl _) (.bl _) m⟩
  · next a b c d e f =>
    cases rx with
    | tup hq rs =>
      cases ry with
      | tup hq2 rs2 =>
        cases rs with
        | cons x1 rs =>
          cases rs with
          | cons x2 rs =>
            cases rs with
            | cons x3 rs =>
              cases rs
              cases rs2 with
              | cons y1 rs2 =>
                cases rs2 with
                | cons y2 rs2 =>
                  cases rs2 with
                  | cons y3 rs2 =>
                    cases rs2
                    cases x1; cases x2; cases x3; cases y1; cases y2; cases y3
                    exact .inr ⟨_, _, (a, b, c), (d, e, f), rfl, rfl, (SqT.of hq), (SqT.of hq2), k _ _ _ _ h (Kp.refl _) (.bl _) m⟩
  · exact h.elim
end
end Pv

/-! l.clear(), l.pop(i), list(e) -/
namespace Pv
open PySem PySem.Spec PySem.W PyProof.Rows L2
noncomputable def listR : C3 := fun ds μ Q => match ds with
  | [.tup l] => ∀ r, μ r = none → Q (.ref r) (updM μ r (.lst l))
  | [.ref p] => match μ p with
    | some (.lst l) => ∀ r, μ r = none → Q (.ref r) (updM μ r (.lst l))
    | _ => False
  | _ => False
section
variable {X : Cx} {o e : Expr} {es : List Expr} {to : TE3} {t : TA3} {apos cpos : Pos}
theorem q_list : RC X (.type "list") listR := by
  refine ⟨_, call_list_of, fun xs vs H Q μ Q3 m r h k => ?_⟩
  cases r with
  | nil => exact h.elim
  | cons r1 r2 =>
    cases r2 with
    | cons _ _ => cases r1 <;> exact h.elim
    | nil =>
      cases r1 with
      | tup hq rs => exact ⟨_, _, rfl, .inr (SqT.of hq), fun r hr => k _ _ _ _ (h r (m.free hr)) (Kp.new hr) (.ref r) (m.newL hr rs)⟩
      | ref p =>
        dsimp only [listR] at h
        cases e0 : μ p with
        | none => rw [e0] at h; exact h.elim
        | some oo =>
          cases oo with
          | ins _ _ => rw [e0] at h; exact h.elim
          | dct _ => rw [e0] at h; exact h.elim
          | dcl _ => rw [e0] at h; exact h.elim
          | lst l =>
            rw [e0] at h
            dsimp only at h
            obtain ⟨us, hv, rs⟩ := m p l e0
            exact ⟨_, _, rfl, .inl (SqL.of hv), fun r hr => k _ _ _ _ (h r (m.free hr)) (Kp.new hr) (.ref r) (m.newL hr rs)⟩
      | _ => exact h.elim
end
end Pv

/-! x = [.. for ..], x a plain name: stored ahead of the block's end -/
namespace Pv
open PySem PySem.Spec PyProof.Rows L2
section
variable {X : Cx} {NN : List Str} {scope : Scope} {cl : List (Str × Addr)} {js : List (Option Nat)}
theorem comp_go {elt target iter : Expr} {ifs : List Expr} {pos : Pos} {wi : TI} {g : TG} {tc : TT} {te : TE} (hc : X.calm = true) (S : CompSc X NN scope cl js) (hi : PI X target iter wi)
    (hg : ∀ C fp s₀ H₀ pn, PG (compCx X NN scope cl C fp s₀ H₀ pn) target g) (ht : ∀ C fp s₀ H₀ pn, PTs (compCx X NN scope cl C fp s₀ H₀ pn) ifs tc) (he : ∀ C fp s₀ H₀ pn, PE (compCx X NN scope cl C fp s₀ H₀ pn) elt te)
    (hs : ∀ x, foldedSetIterable iter X.env x = pure x) {use : Option (Value → Sem Unit)} {Q' : Value → Shared → Prop} {pins : List (Addr × Obj)} {s : Shared} {σ : L2.St} {H : Hp} {Q : VK} (I : Inv X pins σ H s) (h : tComp js wi g tc te σ H Q)
    (hu : ∀ (p0 C : Addr) (H' : Hp) (s' : Shared) (m' : Str → Option Value), Inv X pins σ H' s' → s'.heap.Ns C m' → H' C = none → C ≠ X.env.locals → X.s₀.heap.objs.size ≤ C → (∀ x c, X.env.cells.lookup x = some c → c ≠ C) → (∀ p ∈ X.pn ++ pins, p.1 ≠ C) → Q (.ref p0) H' →
      compPost (model X.prog X.w) X.A X.xe use Q' (.ref p0) C (.ok .next) s') :
    wpAny (model X.prog X.w) X.A (comprehension (.ListComp elt [⟨target, iter, ifs, 0⟩] scope pos) scope X.env (firstIterPos [⟨target, iter, ifs, 0⟩] pos) (newList []) (firstAsync [⟨target, iter, ifs, 0⟩]) (firstIter [⟨target, iter, ifs, 0⟩] X.env) use) Q' X.xe s := by
  refine wpAny_comprehension_free (use := use) rfl hs S.clos S.kind S.names (thn (hi pins s σ H _ I h) fun xv s1 h1 => thn h1 fun itv s2 h2 => ?_)
  obtain ⟨it, fp, tn, J, H2, rfl, I2, T, st2, f2, hW⟩ := h2
  refine wpAny_newObj_type (wpAny_newFunctionEnv S.cell (by intro y hy; simp at hy) (fun h₁ hns₁ hsb₁ => ?_) S.kind)
  dsimp only at hns₁ hsb₁ ⊢
  have hD : H2 s2.heap.objs.size = none := I2.hok.fresh (Nat.le_refl _)
  have I3 : Inv X pins σ (upd H2 s2.heap.objs.size (.lst [])) { s2 with heap := s2.heap.push { cls := .type "list", dict := none, data := .seq ([] : List Value).toArray } } :=
    I2.lnew (t' := s2.toks) (its := []) .nil (by rw [sizeLine_eq]; decide)
  generalize hsD : ({ s2 with heap := s2.heap.push { cls := .type "list", dict := none, data := .seq ([] : List Value).toArray } } : Shared) = sD at I3
  have eh : sD.heap = s2.heap.push { cls := .type "list", dict := none, data := .seq ([] : List Value).toArray } := by rw [← hsD]
  have es : ∀ (h : Heap) (tk : Nat), ({ s2 with heap := h, toks := tk } : Shared) = { sD with heap := h, toks := tk } := fun h tk => by rw [← hsD]
  have hsz : s2.heap.objs.size < sD.heap.objs.size := by rw [eh, Heap.size_push]; exact Nat.lt_succ_self _
  rw [← eh] at hns₁ hsb₁ ⊢
  generalize hp0 : s2.heap.objs.size = p0 at *
  have up : ∀ b u, s2.heap.get? b = some u → sD.heap.get? b = some u := fun b u e => by rw [eh]; exact Heap.get?_push_of_some _ e
  have k : ∀ b u, sD.heap.get? b = some u → h₁.get? b = some u := fun b u e => hsb₁.extBut b u (Nat.ne_of_lt (Heap.lt_size e)) (Heap.get?_push_of_some _ e)
  have f3 : ∀ b ∈ fp, FpOk X pins (upd H2 p0 (.lst [])) b ∧ b < sD.heap.objs.size := fun b hb => by
    obtain ⟨o, ho, _⟩ := T.obj 0 _ st2 b hb
    have hlt : b < p0 := by rw [← hp0]; exact Heap.lt_size ho
    refine ⟨⟨?_, (f2 b hb).2⟩, Nat.lt_trans hlt hsz⟩
    rw [upd_ne (Nat.ne_of_lt hlt)]; exact (f2 b hb).1
  obtain ⟨W, ⟨m0, w0⟩, turn⟩ := hW p0 hD
  have I4 := comp_inv0 (tk := s2.toks + ([] : List (Str × Value)).length) hc S I3 f3 hns₁ k
  have st4 : tn 0 h₁ := T.keep 0 _ _ st2 fun b _ o e => k b o (up b o e)
  rw [es]
  generalize hX' : compCx X NN scope cl sD.heap.objs.size fp sD (upd H2 p0 (.lst [])) (X.pn ++ pins) = X' at I4
  have a1 : X'.env = compEnvC scope cl sD.heap.objs.size X.env := by rw [← hX']
  have a2 : X'.prog = X.prog := by rw [← hX']
  have a3 : X'.w = X.w := by rw [← hX']
  have a4 : X'.A = X.A := by rw [← hX']
  have a5 : X'.K = X.K := by rw [← hX']
  have a6 : X'.calm = true := by rw [← hX']; exact hc
  have a7 : X'.xe = fun _ _ => False := by rw [← hX']
  have a8 : X'.ex = fp := by rw [← hX']
  have T' : Turn X'.prog X'.w X'.K target J fp it tn := by rw [a2, a3, a5]; exact T
  have hg' : PG X' target g := by rw [← hX']; exact hg _ _ _ _ _
  have ht' : PTs X' ifs tc := by rw [← hX']; exact ht _ _ _ _ _
  have he' : PE X' elt te := by rw [← hX']; exact he _ _ _ _ _
  have fin : ∀ {σ' : L2.St} {H' : Hp} {s' : Shared}, Inv X' [] σ' H' s' → Q (.ref p0) H' → compPost (model X.prog X.w) X.A X.xe use Q' (.ref p0) sD.heap.objs.size (.ok .next) s' := fun {σ' H' s'} I' q => by
    obtain ⟨m', hn', _⟩ := I'.loc
    rw [a1] at hn'
    have u : Un (frs X.stack) fp (upd H2 p0 (.lst [])) H' sD.heap s'.heap := by
      have := I'.base
      rw [← hX'] at this
      exact this
    have hch : ∀ b ∈ fp, (b ∈ X.ex ∨ X.s₀.heap.objs.size ≤ b) ∧ b ≠ X.env.locals ∧ (∀ x c, X.env.cells.lookup x = some c → c ≠ b) ∧ ∀ p ∈ X.pn ++ pins, p.1 ≠ b := fun b hb => by
      obtain ⟨_, z1, _, z3, z4, z5⟩ := (f3 b hb).1
      exact ⟨z3, z1, z4, z5⟩
    have os' : s'.os = sD.os := by
      have := I'.os
      rw [← hX'] at this
      exact this
    have hok' : HOk X.prog X.w H' s'.heap := by
      have := I'.hok
      rw [← hX'] at this
      exact this
    have I5 : Inv X pins σ H' s' := I3.call' os' u hok' I'.bare hch
    have hC : H' sD.heap.objs.size = none := by
      have := I'.free
      rw [a1] at this
      exact this
    refine hu p0 _ H' s' m' I5 hn' hC (Nat.ne_of_gt I3.lt) I3.sz (fun x c e => ?_) (fun p hp => ?_) q
    · obtain ⟨v, o, ho, _⟩ := I3.cell x c e
      exact Nat.ne_of_lt (Heap.lt_size ho)
    · exact Nat.ne_of_lt (Heap.lt_size (I3.pin p hp).1)
  have fp4 : ∀ {H' : Hp}, (∀ b ∈ fp, H' b = none) → ∀ b ∈ fp, FpOk X' [] H' b := fun hn b hb => by
    obtain ⟨_, z1, z2, z3, z4, z5⟩ := (f3 b hb).1
    rw [← hX']
    refine ⟨hn b hb, Nat.ne_of_lt (f3 b hb).2, fun z => ?_, .inl hb, fun x c e => z4 x c (S.sub x c e), fun p hp => z5 p (by simpa using hp)⟩
    rcases List.mem_cons.mp (I3.stkSub _ z) with z | z
    · exact z1 z
    · exact z2 z
  have loop : ∀ s₃ : Shared, Inv X' [] (initV js σ) (upd H2 p0 (.lst [])) s₃ → tn 0 s₃.heap →
      codeAny (model X.prog X.w) X.A (.compLoop (.ListComp elt [⟨target, iter, ifs, 0⟩] scope pos) 0 (.ref it) (.ref p0) (compEnvC scope cl sD.heap.objs.size X.env)) (compPost (model X.prog X.w) X.A X.xe use Q' (.ref p0) sD.heap.objs.size) s₃ := by
    intro s₃ I₃ st₃
    refine codeAny_loop rfl (fun n s' => ∃ i σ' H', Inv X' [] σ' H' s' ∧ tn i s'.heap ∧ (∀ b ∈ fp, H' b = none) ∧ W i n σ' H') (fun n s' hI => ?_) m0 ⟨0, initV js σ, _, I₃, st₃, fun b hb => (f3 b hb).1.1, w0⟩
    obtain ⟨i, σ3, H3, J3, st3, fr3, w3⟩ := hI
    have tr := turn i n σ3 H3 w3
    show wpAny _ X.A ((compTurn (.ListComp elt [⟨target, iter, ifs, 0⟩] scope pos) 0 (.ref it) (.ref p0) (compEnvC scope cl sD.heap.objs.size X.env)).onRaise (fun x => do noteFrame x (compEnvC scope cl sD.heap.objs.size X.env); theTreesLotGoes x)) _ _ s'
    refine wpAny_noted ?_
    rw [compTurn_list, ← a1, ← a2, ← a3, ← a4]
    have nof : ∀ {α : Type} {t : Sem α} {Q' : α → Shared → Prop} {s'' : Shared} {E : Value → Shared → Prop}, wpAny (model X'.prog X'.w) X'.A t Q' X'.xe s'' → wpAny (model X'.prog X'.w) X'.A t Q' E s'' := fun h => wpAny_mono h (fun _ _ q => q) fun _ _ z => by rw [a7] at z; exact z.elim
    rcases tr with ⟨stop, qn⟩ | ⟨go, step⟩
    · refine wpAny_bind (wpAny_standAt (wpAny_bind (nof (thn (T'.done X' rfl rfl rfl a6 i [] s' σ3 H3 X'.xe J3 (fp4 fr3) st3 stop) fun r s4 ⟨hr, J4⟩ => ?_))))
      subst hr
      refine wpAny_pure ?_
      show compPost (model X'.prog X'.w) X'.A X.xe use Q' (.ref p0) sD.heap.objs.size (.ok .next) s4
      rw [a2, a3, a4]
      exact fin J4 qn
    · refine wpAny_bind (wpAny_standAt (wpAny_bind (nof (thn (T'.item X' rfl rfl rfl a6 i [] s' σ3 H3 X'.xe J3 (fp4 fr3) st3 go) fun r s4 ⟨u, hr, h4⟩ => ?_))))
      subst hr
      refine wpAny_bind (nof (thn h4 fun _ s5 ⟨x, H5, I5, r5, y5, st5, fr5⟩ => ?_))
      have I5' := I5.pinned (fp4 fr5) (T.obj _ _ st5)
      refine wpAny_bind (nof (thn (hg' _ s5 σ3 H5 x u _ I5' r5 (step x H5 y5)) fun _ s6 ⟨σ6, H6, I6, q6⟩ => ?_))
      refine wpAny_bind (nof (thn (ht' _ s6 σ6 H6 _ I6 q6) fun ok s7 ⟨H7, I7, q7⟩ => ?_))
      have again : ∀ {s8 : Shared} {σ8 : L2.St} {H8 : Hp}, Inv X' ([] ++ pinsAt fp s5.heap) σ8 H8 s8 → (∃ m', m' < n ∧ W (i + 1) m' σ8 H8) → ∃ m, m < n ∧ ∃ i σ' H', Inv X' [] σ' H' s8 ∧ tn i s8.heap ∧ (∀ b ∈ fp, H' b = none) ∧ W i m σ' H' := fun {s8 σ8 H8} I8 ⟨m', hm, w8⟩ => by
        refine ⟨m', hm, i + 1, σ8, H8, I8.unpinned, T.keep _ _ _ st5 fun b hb o e => (I8.pin (b, o) (List.mem_append_right _ (List.mem_append_right _ (mem_pinsAt hb e)))).1, fun b hb => ?_, w8⟩
        obtain ⟨o, e, d⟩ := T.obj _ _ st5 b hb
        exact (I8.pin (b, o) (List.mem_append_right _ (List.mem_append_right _ (mem_pinsAt hb e)))).2.1
      cases ok with
      | false => exact wpAny_pure ⟨rfl, again I7 q7⟩
      | true =>
        refine wpAny_bind (wpAny_bind (nof (thn (he' _ s7 σ6 H7 _ I7 q7) fun xv s8 ⟨y, H8, I8, r8, ys, q8, hlen, q9⟩ => wpAny_bind (nof ?_))))
        refine thn (mt_append (X := X') _ s8 σ6 H8 (.ref p0) [y] (.ref p0) [xv] (fun v H9 => v = .non ∧ H9 = upd H8 p0 (.lst (ys ++ [y]))) I8 rfl (.cons r8 .nil) ⟨p0, ys, y, rfl, rfl, q8, hlen, rfl, rfl⟩) fun rv s9 ⟨v9, H9, I9, _, _, e9⟩ => ?_
        subst e9
        exact wpAny_pure (wpAny_pure ⟨rfl, again I9 q9⟩)
  exact codeAny_compStart_list (loop _ I4 st4) (T.self X.A 0 _ _ _ st4 (loop _ I4 st4))
theorem ps_setC {i : Nat} {x : Str} {px apos : Pos} {elt target iter : Expr} {ifs : List Expr} {pos : Pos} {wi : TI} {g : TG} {tc : TT} {te : TE} (hN : X.N.Nodup) (hi' : X.N[i]? = some x) (hl : X.env.scope.names.lookup x = some .local) (hc : X.calm = true) (S : CompSc X NN scope cl js) (hi : PI X target iter wi)
    (hg : ∀ C fp s₀ H₀ pn, PG (compCx X NN scope cl C fp s₀ H₀ pn) target g) (ht : ∀ C fp s₀ H₀ pn, PTs (compCx X NN scope cl C fp s₀ H₀ pn) ifs tc) (he : ∀ C fp s₀ H₀ pn, PE (compCx X NN scope cl C fp s₀ H₀ pn) elt te)
    (hs : ∀ x, foldedSetIterable iter X.env x = pure x) (hw : swapsWith (.ListComp elt [⟨target, iter, ifs, 0⟩] scope pos) (some (.Name x px)) apos.line X.env = pure true) :
    PS X (.Assign [.Name x px] (.ListComp elt [⟨target, iter, ifs, 0⟩] scope pos) apos) (tAsg (tComp js wi g tc te) (gName i)) := by
  intro pins s σ H D I h
  rw [exec_Assign_Name_used _ _ _ _ hw]
  refine wpAny_bind (wpAny_standAt (wpAny_bind ?_))
  show wpAny _ _ (comprehension (.ListComp elt [⟨target, iter, ifs, 0⟩] scope pos) scope X.env (firstIterPos [⟨target, iter, ifs, 0⟩] pos) (newList []) (firstAsync [⟨target, iter, ifs, 0⟩]) (firstIter [⟨target, iter, ifs, 0⟩] X.env) (some (assign (.Name x px) X.env)) >>= fun _ => pure ()) _ _ s
  refine wpAny_bind (wpAny_mono (comp_go (use := some (assign (.Name x px) X.env)) (Q' := fun _ s' => SP X pins D .next s') hc S hi hg ht he hs I h fun p0 C H' s' m' I5 hn hC n1 n2 n3 n4 q => ?_) (fun _ s' hq => wpAny_pure (wpAny_pure hq)) fun _ _ e => e)
  show wpAny _ _ (assign (.Name x px) X.env (.ref p0)) _ _ s'
  refine wpAny_assign_Name (store_ok2 I5 hN hi' (.inl hl) (v := .ref p0) rfl (fun s2 I6 ⟨b, sb, hb⟩ => ?_) (.inr hl))
  have nb : C ≠ b := by
    rcases hb with hb | hb
    · rw [hb]; exact n1
    · exact Ne.symm (n3 x b hb)
  exact ⟨m', hn.sameBut sb nb, fun h' sb' => ⟨_, H', I6.turned (t' := s2.toks) (fun b o hb e => sb'.extBut b o hb e) hC n1 (.inr n2) n3 n4, q⟩⟩
end
section
variable {X : Cx} {elt target iter : Expr} {ifs : List Expr} {pos : Pos} {ti : TI3} {g : TG3} {tc : TT3} {te : TE3} {NN : List Str} {scope : Scope} {cl : List (Str × Addr)} {js : List (Option Nat)}
theorem rs_setCG {i : Nat} {x : Str} {px apos : Pos} (hN : X.N.Nodup) (hc : X.calm = true) (S : CompSc X NN scope cl js) (hi : RI X target iter ti) (hg : ∀ C fp s₀ H₀ pn, RG (compCx X NN scope cl C fp s₀ H₀ pn) target g)
    (ht : ∀ C fp s₀ H₀ pn, RTs (compCx X NN scope cl C fp s₀ H₀ pn) ifs tc) (he : ∀ C fp s₀ H₀ pn, RE (compCx X NN scope cl C fp s₀ H₀ pn) elt te)
    (hs : ∀ x, foldedSetIterable iter X.env x = pure x) (hi' : X.N[i]? = some x := by rfl) (hl : X.env.scope.names.lookup x = some .local := by rfl)
    (hw : swapsWith (.ListComp elt [⟨target, iter, ifs, 0⟩] scope pos) (some (.Name x px)) apos.line X.env = pure true := by rfl) : RS X (.Assign [.Name x px] (.ListComp elt [⟨target, iter, ifs, 0⟩] scope pos) apos) (set3 i (comp3 js ti g tc te)) := by
  obtain ⟨wi, pi, ri⟩ := hi
  -- one reading for all blocks: the union of theirs
  let gU : TG := fun v σ H Q => ∀ (r : TG3), r = g → ∃ d ρ μ Q3, RSt X.K H ρ σ ∧ RelM X.K μ H ∧ RelD X.K H d v ∧ g d ρ μ Q3 ∧ (∀ ρ' μ' σ' H', Q3 ρ' μ' → Kp H H' → RSt X.K H' ρ' σ' → RelM X.K μ' H' → Q σ' H')
  let tU : TT := fun σ H Q => ∃ ρ μ Q3, RSt X.K H ρ σ ∧ RelM X.K μ H ∧ tc ρ μ Q3 ∧ (∀ b μ' H', Q3 b μ' → Kp H H' → RelM X.K μ' H' → Q b H')
  let eU : TE := fun σ H Q => ∃ ρ μ Q3, RSt X.K H ρ σ ∧ RelM X.K μ H ∧ te ρ μ Q3 ∧ Ks X.K H Q3 Q
  have hg' : ∀ C fp s₀ H₀ pn, PG (compCx X NN scope cl C fp s₀ H₀ pn) target gU := fun C fp s₀ H₀ pn => by
    obtain ⟨tv, p, r⟩ := hg C fp s₀ H₀ pn
    intro pins s σ H v u Q I rv h
    obtain ⟨d, ρ, μ, Q3, a1, a2, a3, a4, a5⟩ := h g rfl
    exact p pins s σ H v u Q I rv (r v d σ H Q ρ μ Q3 a1 a2 a3 a4 a5)
  have ht' : ∀ C fp s₀ H₀ pn, PTs (compCx X NN scope cl C fp s₀ H₀ pn) ifs tU := fun C fp s₀ H₀ pn => by
    obtain ⟨tv, p, r⟩ := ht C fp s₀ H₀ pn
    intro pins s σ H Q I h
    obtain ⟨ρ, μ, Q3, a1, a2, a3, a4⟩ := h
    exact p pins s σ H Q I (r σ H Q ρ μ Q3 a1 a2 a3 a4)
  have he' : ∀ C fp s₀ H₀ pn, PE (compCx X NN scope cl C fp s₀ H₀ pn) elt eU := fun C fp s₀ H₀ pn => by
    obtain ⟨tv, p, r⟩ := he C fp s₀ H₀ pn
    intro pins s σ H Q I h
    obtain ⟨ρ, μ, Q3, a1, a2, a3, a4⟩ := h
    exact p pins s σ H Q I (r σ H Q ρ μ Q3 a1 a2 a3 a4)
  have rd : RdE X.K (tComp js wi gU tU eU) (comp3 js ti g tc te) := RdE.comp ri (fun v d σ H Q ρ μ Q3 a1 a2 a3 a4 a5 _ _ => ⟨d, ρ, μ, Q3, a1, a2, a3, a4, a5⟩) (fun σ H Q ρ μ Q3 a1 a2 a3 a4 => ⟨ρ, μ, Q3, a1, a2, a3, a4⟩) (fun σ H Q ρ μ Q3 a1 a2 a3 a4 => ⟨ρ, μ, Q3, a1, a2, a3, a4⟩)
  exact ⟨_, ps_setC hN hi' hl hc S pi hg' ht' he' hs hw, fun σ H D ρ μ D3 s m h k => rd σ H _ ρ μ _ s m h fun d μ1 v H1 h1 k1 r1 m1 => k.nx _ _ _ _ h1 k1 ((s.mono k1).set i r1) m1⟩
end
end Pv

/-! dicts by tuples of ints: {}, d[k], k in d, d[k] = v -/
namespace Pv
open PySem PySem.Spec PyProof.Rows L2
noncomputable def keyI : D → Option (List Int)
  | .tup l => ints? l
  | _ => none
noncomputable def valL (kvs : List (List Int × D)) (k : List Int) : Option D := (kvs.find? fun kv => decide (kv.1 = k)).map (·.2)
noncomputable def putL (kvs : List (List Int × D)) (k : List Int) (y : D) : List (List Int × D) := if (kvs.any fun kv => decide (kv.1 = k)) = true then kvs.map (fun kv => if kv.1 = k then (kv.1, y) else kv) else kvs ++ [(k, y)]
noncomputable def dnl3 : TE3 := fun _ μ Q => ∀ p, μ p = none → Q (.ref p) (updM μ p (.dcl []))
/-- d[k], there -/
noncomputable def dgR : R3 := fun x y μ Q => match x, keyI y with
  | .ref p, some k => match μ p with
    | some (.dcl kvs) => match valL kvs k with
      | some v => Q v μ
      | none => False
    | _ => False
  | _, _ => False
/-- k in d, k not in d -/
noncomputable def dinR (neg : Bool) : R3 := fun y x μ Q => match x, keyI y with
  | .ref p, some k => match μ p with
    | some (.dcl kvs) => Q (.bl (if neg then !(valL kvs k).isSome else (valL kvs k).isSome)) μ
    | _ => False
  | _, _ => False
/-- d[k] = v -/
noncomputable def dput3 (to ti tv : TE3) : TS3 := fun D' ρ μ => tv ρ μ fun v μ1 => to ρ μ1 fun x μ2 => ti ρ μ2 fun y μ3 => match x, keyI y with
  | .ref p, some k => match μ3 p with
    | some (.dcl kvs) => kvs.length < 1000 ∧ D'.nx ρ (updM μ3 p (.dcl (putL kvs k v)))
    | _ => False
  | _, _ => False
theorem RelM.newC {K : Fg} {μ : Mu} {H : Hp} {p : Addr} (h : H p = none) (m : RelM K μ H) : RelM K (updM μ p (.dcl [])) (upd H p (.dT [])) := by
  have m' := m.newT (o := .dT []) h
  refine ⟨fun q ys e => ?_, fun q c fs e => ?_, fun q kvs e => ?_, fun q kvs e => ?_⟩
  · by_cases z : q = p
    · subst z; rw [updM_same] at e; cases e
    · rw [updM_ne z] at e; exact m'.lst q ys e
  · by_cases z : q = p
    · subst z; rw [updM_same] at e; cases e
    · rw [updM_ne z] at e; exact m'.ins q c fs e
  · by_cases z : q = p
    · subst z; rw [updM_same] at e; cases e
    · rw [updM_ne z] at e; exact m'.dct q kvs e
  · by_cases z : q = p
    · subst z; rw [updM_same] at e; cases e; exact ⟨[], upd_same, .nil⟩
    · rw [updM_ne z] at e; exact m'.dcl q kvs e
theorem RelM.wrC {K : Fg} {μ : Mu} {H : Hp} {p : Addr} {kvs : List (List Int × D)} {vs ws : List (List Key × V)} (h : H p = some (.dT ws)) (r : RelKl K H kvs vs) (m : RelM K μ H) : RelM K (updM μ p (.dcl kvs)) (upd H p (.dT vs)) := by
  refine ⟨fun q ys e => ?_, fun q c fs e => ?_, fun q ks e => ?_, fun q ks e => ?_⟩
  · by_cases z : q = p
    · subst z; rw [updM_same] at e; cases e
    · rw [updM_ne z] at e
      obtain ⟨us, q1, r1⟩ := m.lst q ys e
      exact ⟨us, by rw [upd_ne z]; exact q1, r1.mono (Kp.wrD h)⟩
  · by_cases z : q = p
    · subst z; rw [updM_same] at e; cases e
    · rw [updM_ne z] at e
      obtain ⟨C, dx, us, n, q1, q2, r1⟩ := m.ins q c fs e
      refine ⟨C, dx, us, n, by rw [upd_ne z]; exact q1, ?_, r1.mono (Kp.wrD h)⟩
      rw [upd_ne]
      · exact q2
      · intro y; subst y; rw [h] at q2; cases q2
  · by_cases z : q = p
    · subst z; rw [updM_same] at e; cases e
    · rw [updM_ne z] at e
      obtain ⟨us, q1, r1⟩ := m.dct q ks e
      exact ⟨us, by rw [upd_ne z]; exact q1, r1.mono (Kp.wrD h)⟩
  · by_cases z : q = p
    · subst z; rw [updM_same] at e; cases e; exact ⟨vs, upd_same, r.mono (Kp.wrD h)⟩
    · rw [updM_ne z] at e
      obtain ⟨us, q1, r1⟩ := m.dcl q ks e
      exact ⟨us, by rw [upd_ne z]; exact q1, r1.mono (Kp.wrD h)⟩
theorem kL_inj : ∀ {a b : List Int}, kL a = kL b → a = b
  | [], [], _ => rfl
  | [], _ :: _, h => by cases h
  | _ :: _, [], h => by cases h
  | x :: a, y :: b, h => by
    have h' : (Sum.inl x : Key) :: kL a = Sum.inl y :: kL b := h
    injection h' with h1 h2
    cases h1
    rw [kL_inj h2]
theorem RelKl.len {K : Fg} {H : Hp} {l : List (List Int × D)} {vs : List (List Key × V)} (r : RelKl K H l vs) : l.length = vs.length := by
  induction r with
  | nil => rfl
  | cons _ _ ih => rw [List.length_cons, List.length_cons, ih]
theorem RelKl.any {K : Fg} {H : Hp} {t : List Int} {l : List (List Int × D)} {vs : List (List Key × V)} (r : RelKl K H l vs) : (vs.any fun kv => decide (kv.1 = kL t)) = l.any fun kv => decide (kv.1 = t) := by
  induction r with
  | nil => rfl
  | cons _ _ ih =>
    rw [List.any_cons, List.any_cons, ih]
    congr 1
    rw [decide_eq_decide]
    exact ⟨kL_inj, fun h => congrArg kL h⟩
theorem RelKl.val {K : Fg} {H : Hp} {t : List Int} {l : List (List Int × D)} {vs : List (List Key × V)} (r : RelKl K H l vs) : (valL l t = none ∧ valV vs (kL t) = none) ∨ ∃ d v, valL l t = some d ∧ valV vs (kL t) = some v ∧ RelD K H d v := by
  induction r with
  | nil => exact .inl ⟨rfl, rfl⟩
  | cons h _ ih =>
    rename_i t' d' v' l' vs' _
    by_cases c : t' = t
    · subst c
      exact .inr ⟨d', v', by simp [valL], valV_pos rfl, h⟩
    · have e1 : valL ((t', d') :: l') t = valL l' t := by simp [valL, c]
      rw [e1, valV_neg (p := (kL t', v')) (fun z => c (kL_inj z))]
      exact ih
theorem RelKl.rep {K : Fg} {H : Hp} {t : List Int} {y : D} {v : V} (ry : RelD K H y v) {l : List (List Int × D)} {vs : List (List Key × V)} (r : RelKl K H l vs) : RelKl K H (l.map fun kv => if kv.1 = t then (kv.1, y) else kv) (vs.map fun kv => if kv.1 = kL t then (kv.1, v) else kv) := by
  induction r with
  | nil => exact .nil
  | cons h _ ih =>
    rename_i t' d' v' l' vs' _
    rw [List.map_cons, List.map_cons]
    by_cases c : t' = t
    · rw [if_pos c, if_pos (by rw [c])]; exact .cons ry ih
    · rw [if_neg c, if_neg (fun z => c (kL_inj z))]; exact .cons h ih
theorem RelKl.snoc {K : Fg} {H : Hp} {t : List Int} {y : D} {v : V} (ry : RelD K H y v) {l : List (List Int × D)} {vs : List (List Key × V)} (r : RelKl K H l vs) : RelKl K H (l ++ [(t, y)]) (vs ++ [(kL t, v)]) := by
  induction r with
  | nil => exact .cons ry .nil
  | cons h _ ih => exact .cons h ih
theorem RelKl.put {K : Fg} {H : Hp} {t : List Int} {y : D} {v : V} (ry : RelD K H y v) {l : List (List Int × D)} {vs : List (List Key × V)} (r : RelKl K H l vs) : RelKl K H (putL l t y) (putK vs (kL t) v) := by
  unfold putL putK
  rw [r.any]
  split
  · exact r.rep ry
  · exact r.snoc ry
theorem ints_key {K : Fg} {H : Hp} : ∀ {l : List D} {vs : List V} {k : List Int}, RelDs K H l vs → ints? l = some k → vs = (kL k).map kV
  | _, _, k, .nil, e => by simp [ints?] at e; subst e; rfl
  | _, _, k, .cons h r, e => by
    cases h with
    | int x =>
      simp only [ints?] at e
      split at e
      · next ys e1 =>
        simp only [Option.some.injEq] at e
        subst e
        rw [ints_key r e1]; rfl
      · cases e
    | _ => simp [ints?] at e
theorem keyI_at {K : Fg} {H : Hp} {y : D} {v : V} {k : List Int} (r : RelD K H y v) (e : keyI y = some k) : ∃ b, v = .ref b ∧ H b = some (.tup ((kL k).map kV)) := by
  cases r with
  | tup hq rs => exact ⟨_, rfl, by rw [← ints_key rs e]; exact hq⟩
  | _ => simp [keyI] at e
section
variable {X : Cx} {pos pos' : Pos}
theorem re_dnl : RE X (.Dict [] [] pos) dnl3 := ⟨_, pe_dnewT, fun σ H Q ρ μ Q3 s m h k p hp => k _ _ _ _ (h p (m.free hp)) (Kp.new hp) (.ref p) (m.newC hp)⟩
theorem re_dg {o i : Expr} {to ti : TE3} (hu : X.A.units + 64 < cLine) (ho : RE X o to) (hi : RE X i ti) (hs : NoSl i := by intro _ _; rfl) : RE X (.Subscript o i pos) (o3 dgR to ti) := by
  obtain ⟨vo, po, ro⟩ := ho
  obtain ⟨vi, pi, ri⟩ := hi
  refine ⟨_, pe_dget (by omega) po pi hs, fun σ H Q ρ μ Q3 s m h k => ro σ H _ ρ μ _ s m h fun x μ1 a H1 h1 k1 r1 m1 => ri σ H1 _ ρ μ1 _ (s.mono k1) m1 h1 fun y μ2 b H2 h2 k2 r2 m2 => ?_⟩
  unfold dgR at h2
  split at h2
  · next p kk ek =>
    split at h2
    · next kvs e =>
      split at h2
      · next v ev =>
        cases r1
        obtain ⟨ws, hw, rk⟩ := m2.dcl p kvs e
        obtain ⟨b', rfl, hb⟩ := keyI_at r2 ek
        rcases rk.val (t := kk) with ⟨z, _⟩ | ⟨d, w, z1, z2, rd⟩
        · rw [ev] at z; cases z
        · rw [ev] at z1
          cases z1
          have g := DGet.t (k := kL kk) hw hb
          rw [z2] at g
          exact ⟨p, w, rfl, g, k _ _ _ _ h2 (k1.trans k2) rd m2⟩
      · exact h2.elim
    · exact h2.elim
  · exact h2.elim
theorem q_din (neg : Bool) (hu : X.A.units + 64 < cLine) : RO X (compareOp (if neg then .NotIn else .In)) (dinR neg) := by
  refine ⟨fun y x H Q => ∃ a o, x = .ref a ∧ DGet H a y o ∧ Q (.bl (if neg then !o.isSome else o.isSome)) H, ?_, fun y x b a H Q μ Q3 m ry rx h k => ?_⟩
  · intro pins s σ H y x u v Q I ry rx h
    obtain ⟨a, o, rfl, g, q⟩ := h
    cases rx
    cases neg with
    | true => exact d_notIn (by omega) I g ry fun s' I' => ⟨.bl (!o.isSome), H, I', rfl, q⟩
    | false => exact d_in (by omega) I g ry fun s' I' => ⟨.bl o.isSome, H, I', rfl, q⟩
  · unfold dinR at h
    split at h
    · next p kk ek =>
      split at h
      · next kvs e =>
        cases rx
        obtain ⟨ws, hw, rk⟩ := m.dcl p kvs e
        obtain ⟨b', rfl, hb⟩ := keyI_at ry ek
        refine ⟨p, _, rfl, DGet.t (k := kL kk) hw hb, ?_⟩
        have es : (valV ws (kL kk)).isSome = (valL kvs kk).isSome := by
          rcases rk.val (t := kk) with ⟨z1, z2⟩ | ⟨d, w, z1, z2, _⟩ <;> rw [z1, z2] <;> rfl
        rw [es]
        exact k _ _ _ _ h (Kp.refl _) (.bl _) m
      · exact h.elim
    · exact h.elim
theorem q_dinN (hu : X.A.units + 64 < cLine) : RO X (compareOp .NotIn) (dinR true) := q_din true hu
theorem rs_dput {o i value : Expr} {to ti tv : TE3} (hu : X.A.units + 64 < cLine) (ho : RE X o to) (hi : RE X i ti) (hv : RE X value tv) (hs : swapsWith value (some (.Subscript o i pos')) pos.line X.env = pure false := by rfl) :
    RS X (.Assign [.Subscript o i pos'] value pos) (dput3 to ti tv) := by
  obtain ⟨vo, po, ro⟩ := ho
  obtain ⟨vi, pi, ri⟩ := hi
  obtain ⟨vv, pv, rv⟩ := hv
  refine ⟨_, ps_dput (by omega) po pi pv hs, fun σ H D ρ μ D3 s m h k => rv σ H _ ρ μ _ s m h fun y μ1 v H1 h1 k1 r1 m1 => ro σ H1 _ ρ μ1 _ (s.mono k1) m1 h1 fun d μ2 x H2 h2 k2 r2 m2 =>
    ri σ H2 _ ρ μ2 _ (s.mono (k1.trans k2)) m2 h2 fun kd μ3 b H3 h3 k3 r3 m3 => ?_⟩
  split at h3
  · next p kk ek =>
    split at h3
    · next kvs e =>
      cases r2
      obtain ⟨ws, hw, rk⟩ := m3.dcl p kvs e
      obtain ⟨b', rfl, hb⟩ := keyI_at r3 ek
      have hl := rk.len
      have hz : (1000 : Nat) < sizeLine := by decide
      refine ⟨p, _, rfl, DPut.t (k := kL kk) hw hb (by omega), ?_⟩
      exact k.nx _ _ _ _ h3.2 (k1.trans (k2.trans (k3.trans (Kp.wrD hw)))) (s.mono (k1.trans (k2.trans (k3.trans (Kp.wrD hw))))) (m3.wrC hw (rk.put (r1.mono (k2.trans k3))))
    · exact h3.elim
  · exact h3.elim
end
end Pv

/-! d.setdefault(k, x) -/
namespace Pv
open PySem PySem.Spec PyProof.Rows L2
noncomputable def sdf3 (to : TE3) (t : TA3) : TE3 := fun ρ μ Q => to ρ μ fun x μ1 => match x with
  | .ref p => match μ1 p with
    | some (.dcl _) => t ρ μ1 fun ds μ2 => match ds with
      | [y, d] => match keyI y, μ2 p with
        | some k, some (.dcl kvs) => kvs.length < 1000 ∧ (match valL kvs k with
          | some v => Q v μ2
          | none => Q d (updM μ2 p (.dcl (putL kvs k d))))
        | _, _ => False
      | _ => False
    | _ => False
  | _ => False
noncomputable def rSd : V → List V → Hp → VK → Prop := fun x vs H Q => ∃ a kvs k b v, x = .ref a ∧ vs = [.ref b, v] ∧ H a = some (.dT kvs) ∧ H b = some (.tup (k.map kV)) ∧ kvs.length < sizeLine ∧
  (∀ u, valV kvs k = some u → Q u H) ∧ (valV kvs k = none → Q v (upd H a (.dT (putK kvs k v))))
section
variable {X : Cx}
theorem mt_sd (hu : X.A.units + 1 < cLine) : MtM X "dict.setdefault" rSd := by
  intro pins s σ H x vs v us Q I rx rv h
  obtain ⟨d, kvs, k, b, v0, rfl, rfl, e, eb, l, q1, q2⟩ := h
  cases rx
  cases rv with
  | cons r1 r2 =>
  cases r2 with
  | cons r2 r3 =>
  cases r3
  rename_i u1 u2
  cases (show u1 = Value.ref b from r1)
  obtain ⟨z, hd, xs, rel, dd⟩ := dt_ep I.hok (.inl e)
  have hz : xs.length ≤ sizeLine := by rw [← Paired.length rel]; exact z
  refine wpAny_call_entry F.slot_dict_setdefault dd.of.typeIs F.entry_dict_setdefault ?_ (F.args_dict_setdefault_3 _ _ _)
  unfold Builtin.«dict.setdefault»; refine wpAny_bind ?_
  unfold Builtin.Dict.keyAndDefault; refine wpAny_bind (wpAny_notOrdered_dict dd.of.typeIs ?_)
  refine (show wpAny _ _ (pure (d, Value.ref b, some u2)) _ _ s from wpAny_pure ?_)
  show wpAny _ _ (if (d == sysModules) = true then _ else (dictSetDefault d (.ref b) u2 >>= _)) _ _ s
  rw [if_neg (by rw [hd]; exact Bool.false_ne_true)]
  have rv := rel.val k
  refine wpAny_bind (setdef_ep (tupleKind_room_in1 hu) (key_of I.hok eb) dd hz (fun p hp => wpAny_pure ⟨p.2, rfl, ?_⟩) fun hno h' dd' hs' => wpAny_pure ⟨_, rfl, ?_⟩)
  · rw [hp, Option.map_some] at rv
    cases ev : valV kvs k with
    | none => rw [ev] at rv; exact rv.elim
    | some w' => rw [ev] at rv; exact ⟨w', H, I.tok _, rv, q1 w' ev⟩
  · rw [hno, Option.map_none] at rv
    cases ev : valV kvs k with
    | some w' => rw [ev] at rv; exact rv.elim
    | none =>
      have hl : (putK kvs k v0).length ≤ sizeLine := by have := length_putK kvs k v0; omega
      obtain ⟨ob, es, hq, h2, h3, h4, _, h5⟩ := dd'
      have e2 : kvs.length + 1 = (putK kvs k v0).length := by rw [len_put, ev]; rfl
      refine ⟨v0, upd H d (.dT (putK kvs k v0)), d_write (ob := .dT (putK kvs k v0)) I (by rw [e]; exact True.intro) hs' ⟨ob, hq⟩ ⟨hl, hd, _, (rel.put k eb r2).keeps fun c ys ec => ?_, ob, es, _, hq, h2, h3, h4, h5, e2⟩, r2, q2 ev⟩
      rw [upd_ne (ne_of ec e (fun z => nomatch z))]; exact ec
variable {o e : Expr} {es : List Expr} {to : TE3} {t : TA3} {apos cpos : Pos}
theorem re_sd (hu : X.A.units + 64 < cLine) (ho : RE X o to) (ha : RA X (e :: es) t) (hbase : attributeBase o "setdefault" X.env (eval o X.env) = eval o X.env := by rfl)
    (hfew : ((backTo cpos (starEach (e :: es) X.env)).all (fun x => !x.1) && (backToKw cpos (keywordEach [] X.env)).all (fun x => x.1.isSome)
      && decide ((e :: es).length + ([] : List Keyword).length + (if ([] : List Keyword).isEmpty then 0 else 1) < 30)) = true := by rfl)
    (hline : (apos.endLine == cpos.line) = true := by rfl) (hs : starEach (e :: es) X.env = (false, eval e X.env) :: starEach es X.env := by rfl) (hplain : (backTo cpos (starEach es X.env)).any (·.1) = false := by rfl) :
    RE X (.Call (.Attribute o "setdefault" apos) (e :: es) [] cpos) (sdf3 to t) := by
  obtain ⟨va, pa, ra⟩ := ho
  obtain ⟨vb, pb, rb⟩ := ha
  refine ⟨_, pe_bm PySem.F.plainAttrs_dict PySem.F.slot_dict_setdefault PySem.F.type_dict_setdefault (mt_sd (by omega)) pa pb hbase hfew hline hs hplain, fun σ H Q ρ μ Q3 s m h k => ra σ H _ ρ μ _ s m h fun x μ1 v H1 h1 k1 r1 m1 => ?_⟩
  split at h1
  · next p =>
    split at h1
    · next kvs0 e0 =>
      cases r1
      obtain ⟨ws0, hw0, _⟩ := m1.dcl p kvs0 e0
      refine ⟨.inr (.inr (.inl ⟨rfl, .inr ⟨ws0, hw0⟩⟩)), rb σ H1 _ ρ μ1 _ (s.mono k1) m1 h1 fun ds μ2 vs H2 h2 k2 r2 m2 => ?_⟩
      split at h2
      · next y d =>
        cases r2 with
        | cons ry r2 =>
        cases r2 with
        | cons rd r2 =>
        cases r2
        split at h2
        · next kk kvs ek e =>
          obtain ⟨ws, hw, rk⟩ := m2.dcl p kvs e
          obtain ⟨b, rfl, hb⟩ := keyI_at ry ek
          have hl := rk.len
          have hz : (1000 : Nat) < sizeLine := by decide
          refine ⟨p, ws, kL kk, b, _, rfl, rfl, hw, hb, by omega, fun u eu => ?_, fun eu => ?_⟩
          · rcases rk.val (t := kk) with ⟨_, z2⟩ | ⟨d', w', z1, z2, rd'⟩
            · rw [eu] at z2; cases z2
            · rw [eu] at z2; cases z2; rw [z1] at h2; exact k _ _ _ _ h2.2 (k1.trans k2) rd' m2
          · rcases rk.val (t := kk) with ⟨z1, _⟩ | ⟨d', w', _, z2, _⟩
            · rw [z1] at h2; exact k _ _ _ _ h2.2 (k1.trans (k2.trans (Kp.wrD hw))) (rd.mono (Kp.wrD hw)) (m2.wrC hw (rk.put rd))
            · rw [eu] at z2; cases z2
        · exact h2.elim
      · exact h2.elim
    · exact h1.elim
  · exact h1.elim
end
end Pv

/-! a dict by tuples of ints, walked -/
namespace Pv
open PySem PySem.Spec PyProof.Rows L2
noncomputable def Itd (a : Addr) (n : Nat) : It :=
  ⟨fun i H => ∃ kvs, H a = some (.dT kvs) ∧ kvs.length = n ∧ i < n, fun i H x H' => H' = H ∧ ∃ kvs k v b, H a = some (.dT kvs) ∧ kvs[i]? = some (k, v) ∧ x = .ref b ∧ H b = some (.tup (k.map kV)),
    fun i H => ∃ kvs, H a = some (.dT kvs) ∧ kvs.length = n ∧ n ≤ i⟩
theorem kt_get {H : Hp} : ∀ {kvs : List (List Key × V)} {xs : List (List Key × Addr × Value)}, KT H kvs xs → ∀ (i : Nat) x, xs[i]? = some x → ∃ v, kvs[i]? = some (x.1, v) ∧ H x.2.1 = some (.tup (x.1.map kV))
  | _, _, .nil, i, x, e => by simp at e
  | _, _, .cons (a := p) (b := q) h r, 0, x, e => by
    simp at e; subst e
    exact ⟨p.2, by rw [List.getElem?_cons_zero, ← h.1], by rw [← h.1]; exact h.2.1⟩
  | _, _, .cons h r, i + 1, x, e => by
    rw [List.getElem?_cons_succ] at e ⊢
    exact kt_get r i x e
theorem turn_dict {P : Program} {w : World} {K : PySem.W.Frag} {tg : Expr} (a it : Addr) (n : Nat) : Turn P w K tg (Itd a n) [it] it (fun i h => h.IsKeyIter it a i n n) where
  mem := by simp
  obj := fun i h st b hb => by
    have e : b = it := by simpa using hb
    subst e
    obtain ⟨o, e, c, d⟩ := st
    exact ⟨o, e, fun v z => by rw [d] at z; cases z⟩
  keep := fun i h h' st k => by
    obtain ⟨o, e, c, d⟩ := st
    exact ⟨o, k it (by simp) o e, c, d⟩
  item := by
    intro X hP hw hK hc i pins s σ H E I hf st hg
    subst hP hw hK
    obtain ⟨f0, f1, f2, f3, f4, f5⟩ := hf it (by simp)
    obtain ⟨kvs, e, el, hi⟩ := hg
    obtain ⟨z, hd, xs, rel, o, es, ho, hc1, hd1, he, _⟩ := dt_ep I.hok (.inl e)
    have l1 : xs.length = n := by rw [← Paired.length rel]; exact el
    have l2 : es.size = n := by rw [← Array.length_toList, he, List.length_map, l1]
    rw [el] at hd1
    have st' : s.heap.IsKeyIter it a i es.size n := by rw [l2]; exact st
    refine dg_next st' ⟨o, ho, hc1, hd1⟩ (by omega) fun h' hst hk => ?_
    rw [l2] at hst
    have hx : xs[i]? = some (xs[i]'(by omega)) := List.getElem?_eq_getElem _
    have ek : (es[i]'(by omega)).key = .ref (xs[i]'(by omega)).2.1 := by
      have q : es.toList[i]? = some (entryOfKey (tupleKind (mixKind X.prog X.w)) (xs[i]'(by omega))) := by rw [he, List.getElem?_map, hx]; rfl
      rw [Array.getElem?_toList, Array.getElem?_eq_getElem (by omega)] at q
      cases q' : es[i]'(by omega) with
      | mk a1 a2 a3 => rw [q'] at q; cases q; rfl
    obtain ⟨v, kg, kh⟩ := kt_get rel i _ hx
    have I1 : Inv X pins σ H { s with heap := h' } := I.turned (t' := s.toks) (fun b o hb e => hk.extBut b o hb e) f0 f1 f3 f4 f5
    obtain ⟨o1, e1, c1, d1⟩ := id hst
    refine ⟨_, rfl, go_of (s := { s with heap := h' }) e1 c1 d1 (by decide) ⟨.ref _, H, I1, ek, ⟨rfl, kvs, _, v, _, e, kg, rfl, kh⟩, hst, fun b hb => (hf b hb).1⟩⟩
  done := by
    intro X hP hw hK hc i pins s σ H E I hf st hg
    subst hP hw hK
    obtain ⟨f0, f1, f2, f3, f4, f5⟩ := hf it (by simp)
    obtain ⟨kvs, e, el, hi⟩ := hg
    obtain ⟨z, hd, xs, rel, o, es, ho, hc1, hd1, he, _⟩ := dt_ep I.hok (.inl e)
    have l1 : xs.length = n := by rw [← Paired.length rel]; exact el
    have l2 : es.size = n := by rw [← Array.length_toList, he, List.length_map, l1]
    rw [el] at hd1
    have st' : s.heap.IsKeyIter it a i es.size n := by rw [l2]; exact st
    exact dg_end (I.ok.hd hc) st' ⟨o, ho, hc1, hd1⟩ (by omega) fun h' hk => ⟨rfl, I.turned (t' := s.toks) (fun b o hb e => hk b o hb e) f0 f1 f3 f4 f5⟩
  self := fun A i s Q E st h => wpAny_pyIter_keyiter st h
section
variable {X : Cx} {tg : Expr}
noncomputable def iDct (tl : TE) : TI := fun σ H R => tl σ H fun x H1 => ∃ a kvs, x = .ref a ∧ H1 a = some (.dT kvs) ∧ R (Itd a kvs.length) H1
theorem pi_dict {l : Expr} {tl : TE} (hl : PE X l tl) : PI X tg l (iDct tl) := by
  intro pins s σ H R I h
  refine thn (hl pins s σ H _ I h) fun v s1 ⟨x, H1, I1, r1, q1⟩ => ?_
  have fp : ∀ b ∈ [s1.heap.objs.size], FpOk X pins H1 b := fun b hb => by
    have e : b = s1.heap.objs.size := by simpa using hb
    subst e
    exact I1.fpOk (Nat.le_refl _) (I1.hok.fresh (Nat.le_refl _))
  obtain ⟨a, kvs, rfl, e, q⟩ := q1
  cases r1
  obtain ⟨z, hd, xs, rel, o, es, ho, hc1, hd1, he, _⟩ := dt_ep I1.hok (.inl e)
  have l2 : es.size = kvs.length := by rw [← Array.length_toList, he, List.length_map]; exact (Paired.length rel).symm
  refine dg_iter hd ⟨o, ho, hc1, hd1⟩ ?_
  rw [l2]
  exact ⟨s1.heap.objs.size, [s1.heap.objs.size], _, _, H1, rfl, I1.kept (t' := s1.toks) fun b o e => Heap.get?_push_of_some _ e, turn_dict a _ _, ⟨_, Heap.get?_push_size _ rfl, rfl, rfl⟩, fp, q⟩
noncomputable def tupI (k : List Int) : D := .tup (k.map .int)
theorem relDs_ints {K : Fg} {H : Hp} : ∀ k : List Int, RelDs K H (k.map .int) ((kL k).map kV)
  | [] => .nil
  | i :: k => .cons (.int i) (relDs_ints k)
theorem RelKl.get {K : Fg} {H : Hp} {l : List (List Int × D)} {vs : List (List Key × V)} (r : RelKl K H l vs) : ∀ (i : Nat) k v, vs[i]? = some (k, v) → ∃ t d, l[i]? = some (t, d) ∧ k = kL t := by
  induction r with
  | nil => intro i k v e; simp at e
  | cons h _ ih =>
    intro i k v e
    cases i with
    | zero => simp at e; exact ⟨_, _, rfl, e.1.symm⟩
    | succ i => rw [List.getElem?_cons_succ] at e ⊢; exact ih i k v e
theorem itok_dct {K : Fg} {H0 : Hp} {a : Addr} {l : List (List Int × D)} : ItOk K (Itd a l.length) (l.map fun kv => tupI kv.1) (fun μ => μ a = some (.dcl l)) H0 := fun i H μ k m s => by
  obtain ⟨vs, h, r⟩ := m.dcl a l s
  have hl := r.len
  refine ⟨fun d e => ?_, fun hl' => ⟨vs, h, hl.symm, by simpa using hl'⟩⟩
  rw [List.getElem?_map] at e
  have hi : i < l.length := by
    rcases Nat.lt_or_ge i l.length with c | c
    · exact c
    · rw [List.getElem?_eq_none c] at e; cases e
  refine ⟨⟨vs, h, hl.symm, hi⟩, fun x H2 y => ?_⟩
  obtain ⟨rfl, kvs, kk, v, b, e1, e2, rfl, e3⟩ := y
  rw [h] at e1
  cases e1
  obtain ⟨t, dd, e4, rfl⟩ := r.get i kk v e2
  rw [e4] at e
  cases e
  exact ⟨Kp.refl _, m, .tup e3 (relDs_ints t)⟩
noncomputable def isd3 (t : TE3) : TI3 := fun ρ μ R => t ρ μ fun d μ1 => match d with
  | .ref p => match μ1 p with
    | some (.dcl l) => R (l.map fun kv => tupI kv.1) (fun μ => μ p = some (.dcl l)) μ1
    | _ => False
  | _ => False
theorem ri_dct {a : Expr} {ta : TE3} (ha : RE X a ta) : RI X tg a (isd3 ta) := by
  obtain ⟨va, pa, ra⟩ := ha
  refine ⟨_, pi_dict pa, fun σ H R ρ μ R3 s m h k => ra σ H _ ρ μ _ s m h fun d μ1 v H1 h1 k1 r1 m1 => ?_⟩
  split at h1
  · next p =>
    split at h1
    · next l e =>
      cases r1
      obtain ⟨vs, hv, rv⟩ := m1.dcl p l e
      refine ⟨p, vs, rfl, hv, ?_⟩
      rw [← rv.len]
      exact k _ _ _ _ _ h1 k1 m1 itok_dct
    · exact h1.elim
  · exact h1.elim
end
end Pv

/-! sorted: of fewer than 64 pairs of ints -/
namespace Pv
open PySem PySem.Spec PySem.W PyProof.Rows L2
noncomputable abbrev T2 := Int × Int
noncomputable def lt2 (a b : T2) : Bool := decide (a.1 < b.1) || (a.1 == b.1 && decide (a.2 < b.2))
noncomputable def IsT2 (h : Heap) (v : Value) (t : T2) : Prop := ∃ a o t1 t2 n, v = .ref a ∧ h.get? a = some o ∧ o.cls = .type "tuple" ∧ o.data = .seq #[.int t.1 t1, .int t.2 t2] n
theorem IsT2.kept {h h' : Heap} {v : Value} {t : T2} (k : ∀ b o, h.get? b = some o → h'.get? b = some o) (i : IsT2 h v t) : IsT2 h' v t := by
  obtain ⟨a, o, t1, t2, n, e1, e2, e3, e4⟩ := i
  exact ⟨a, o, t1, t2, n, e1, k _ _ e2, e3, e4⟩
theorem lt2_ord (ts : List T2) : Ms.Ord fun i j => lt2 (ts.getD i (0, 0)) (ts.getD j (0, 0)) where
  ir := fun a => by simp [lt2]
  tr := fun a b c h k => by
    simp only [lt2, Bool.or_eq_true, Bool.and_eq_true, decide_eq_true_eq, beq_iff_eq] at h k ⊢
    omega
  ng := fun a b c h => by
    simp only [lt2, Bool.or_eq_true, Bool.and_eq_true, decide_eq_true_eq, beq_iff_eq] at h ⊢
    omega
section
variable {prog : Program} {w : World} {A : Around} {E : Value → Shared → Prop} {s : Shared}
theorem t2_lt {x y : Value} {a b : T2} {Q : Bool → Shared → Prop} (hx : IsT2 s.heap x a) (hy : IsT2 s.heap y b) (h : Q (lt2 a b) s) : wpAny (model prog w) A (keyLt' (tuples' true) x y) Q E s := by
  obtain ⟨x, ox, t1, t2, n, rfl, ex, _, dx⟩ := hx
  obtain ⟨y, oy, u1, u2, m, rfl, ey, _, dy⟩ := hy
  obtain ⟨a1, a2⟩ := a
  obtain ⟨b1, b2⟩ := b
  refine kat_lt ex dx ey dy ?_
  refine kat_cons (wpAny_eqBool_int ?_)
  by_cases c1 : a1 = b1
  · rw [show (a1 == b1) = true from beq_iff_eq.mpr c1]
    refine kat_yes (kat_cons (wpAny_eqBool_int ?_))
    by_cases c2 : a2 = b2
    · rw [show (a2 == b2) = true from beq_iff_eq.mpr c2]
      refine kat_yes (kat_nil ?_)
      have e : lt2 (a1, a2) (b1, b2) = false := by subst c1 c2; simp [lt2]
      rw [e] at h
      exact h
    · rw [show (a2 == b2) = false from by simpa using c2]
      have e : lt2 (a1, a2) (b1, b2) = decide (a2 < b2) := by subst c1; simp [lt2]
      rw [e] at h
      exact kat_no (kat_one _ _ (lt_int h))
  · rw [show (a1 == b1) = false from by simpa using c1]
    have e : lt2 (a1, a2) (b1, b2) = decide (a1 < b1) := by simp [lt2, c1]
    rw [e] at h
    exact kat_no (oneLt_int h)
/-- values that are such tuples, one by one -/
noncomputable def T2s (h : Heap) : List Value → List T2 → Prop
  | [], [] => True
  | v :: vs, t :: ts => IsT2 h v t ∧ T2s h vs ts
  | _, _ => False
theorem T2s.kept {h h' : Heap} (k : ∀ b o, h.get? b = some o → o.cls = .type "tuple" → h'.get? b = some o) : ∀ {vs : List Value} {ts : List T2}, T2s h vs ts → T2s h' vs ts
  | [], [], _ => trivial
  | [], _ :: _, i => i.elim
  | _ :: _, [], i => i.elim
  | v :: vs, t :: ts, i => by
    obtain ⟨⟨a, o, t1, t2, n, e1, e2, e3, e4⟩, r⟩ := i
    exact ⟨⟨a, o, t1, t2, n, e1, k _ _ e2 e3, e3, e4⟩, T2s.kept k r⟩
theorem T2s.len {h : Heap} : ∀ {vs : List Value} {ts : List T2}, T2s h vs ts → vs.length = ts.length
  | [], [], _ => rfl
  | [], _ :: _, i => i.elim
  | _ :: _, [], i => i.elim
  | v :: vs, t :: ts, i => by rw [List.length_cons, List.length_cons, T2s.len i.2]
theorem T2s.get {h : Heap} : ∀ {vs : List Value} {ts : List T2}, T2s h vs ts → ∀ i, i < vs.length → IsT2 h (vs.getD i .none) (ts.getD i (0, 0))
  | [], [], _, i, hi => absurd hi (Nat.not_lt_zero _)
  | [], _ :: _, z, _, _ => z.elim
  | _ :: _, [], z, _, _ => z.elim
  | v :: vs, t :: ts, z, 0, _ => z.1
  | v :: vs, t :: ts, z, i + 1, hi => T2s.get z.2 i (Nat.lt_of_succ_lt_succ hi)
theorem T2s.firsts {h : Heap} : ∀ {vs : List Value} {ts : List T2}, T2s h vs ts → ∃ fs, KatTups h vs fs ∧ fs.length = vs.length ∧ ∀ v ∈ fs, ∃ i t, v = Value.int i t
  | [], [], _ => ⟨[], trivial, rfl, fun _ hv => nomatch hv⟩
  | [], _ :: _, z => z.elim
  | _ :: _, [], z => z.elim
  | v :: vs, t :: ts, z => by
    obtain ⟨fs, f1, f2, f3⟩ := T2s.firsts z.2
    obtain ⟨a, o, t1, t2, n, rfl, e2, e3, e4⟩ := z.1
    refine ⟨.int t.1 t1 :: fs, KatTups.cons e2 e3 e4 rfl f1, by rw [List.length_cons, List.length_cons, f2], fun x hx => ?_⟩
    rcases List.mem_cons.mp hx with rfl | hx
    · exact ⟨_, _, rfl⟩
    · exact f3 x hx
noncomputable abbrev ltI2 (ts : List T2) : Nat → Nat → Bool := fun i j => lt2 (ts.getD i (0, 0)) (ts.getD j (0, 0))
theorem lsort_t2 {a : Addr} {vs : List Value} {ts : List T2} {n : Nat} {P : PySem.Fin → Shared → Prop} (ho : s.heap.get? a = some (seqObj "list" vs.toArray n)) (ht : T2s s.heap vs ts) (h64 : vs.length < 64)
    (h : ∀ (p : Array Nat) (h' : Heap) (c : Nat), p.Perm (List.toArray (List.range vs.length)) → Ms.Up (ltI2 ts) p vs.length → (∀ b o, b ≠ a → s.heap.get? b = some o → h'.get? b = some o) →
      h'.get? a = some (seqObj "list" (outV vs p).toArray c) → P (.done (.ret .none)) { s with heap := h' }) :
    wpAny (model prog w) A (Builtin.«list.sort» ⟨[.ref a], []⟩) P E s := by
  have hz : vs.length ≤ sizeLine := by rw [sizeLine_eq]; omega
  have ha : a < s.heap.objs.size := Heap.lt_size ho
  obtain ⟨e1, ho1⟩ : ∃ e1, (s.heap.update a (Obj.mapSeq fun _ => (#[] : Array Value))).get? a = some (seqObj "list" #[] e1) := ⟨_, get?_update_seq ho fun _ => #[]⟩
  have kp : ∀ b o, b ≠ a → s.heap.get? b = some o → (((s.heap.update a (Obj.mapSeq fun _ => (#[] : Array Value))).push (seqObj "tuple" vs.toArray 0)).push (seqObj "list" #[] 0)).get? b = some o := fun b o hb e =>
    Heap.get?_push_of_some _ (Heap.get?_push_of_some _ (by rw [Heap.get?_update_ne _ _ _ _ hb]; exact e))
  have ht3 := T2s.kept (h' := ((s.heap.update a (Obj.mapSeq fun _ => (#[] : Array Value))).push (seqObj "tuple" vs.toArray 0)).push (seqObj "list" #[] 0)) (fun b o e ec => kp b o (by intro z; subst z; rw [ho] at e; cases e; exact no_lt ec) e) ht
  have hoN := Heap.get?_push_of_some (seqObj "list" #[] 0) (Heap.get?_push_of_some (seqObj "tuple" vs.toArray 0) ho1)
  generalize hN : ((s.heap.update a (Obj.mapSeq fun _ => (#[] : Array Value))).push (seqObj "tuple" vs.toArray 0)).push (seqObj "list" #[] 0) = hp3 at kp ht3 hoN
  have fin : ∀ (p : Array Nat), p.Perm (List.toArray (List.range vs.length)) → Ms.Up (ltI2 ts) p vs.length → P (.done (.ret .none)) { s with heap := hp3.update a (Obj.mapSeq fun _ => (outV vs p).toArray) } := fun p hp hu => by
    refine h p _ _ hp hu (fun b o hb e => by rw [Heap.get?_update_ne _ _ _ _ hb]; exact kp b o hb e) (get?_update_seq hoN fun _ => (outV vs p).toArray)
  have szO : ∀ p : Array Nat, p.Perm (List.toArray (List.range vs.length)) → (outV vs p).toArray.size ≤ sizeLine + 1 := fun p hp => by
    have := hp.size_eq
    simp at this
    simp
    omega
  rw [list_sort_plain]
  refine wpAny_bind (listItems_at ho rfl (wpAny_bind (listUpdate_at ho rfl ?_ (by simpa using hz) (Nat.zero_le _))))
  refine wpAny_bind (seqEpoch_at ho1 rfl (wpAny_bind (wpAny_newTuple ?_ (by simpa using hz))))
  refine wpAny_bind (wpAny_newList (wpAny_holding ?_) (Nat.zero_le _))
  show wpAny (model prog w) A _ P E { s with heap := ((s.heap.update a (Obj.mapSeq fun _ => (#[] : Array Value))).push (seqObj "tuple" vs.toArray 0)).push (seqObj "list" #[] 0) }
  rw [hN]
  dsimp only
  by_cases c : vs.toArray.size < 2
  · rw [if_pos c, if_pos c]
    refine wpAny_bind (wpAny_pure ?_)
    rw [StateT.run_pure]
    refine wpAny_bind (wpAny_pure ?_)
    have id1 : (arrOf (SortSt.mk' general' (vs.toArray.zip vs.toArray) #[] 7 none)).map (·.2) = (outV vs (List.toArray (List.range vs.length))).toArray := by
      rw [outV_range]
      show (vs.toArray.zip vs.toArray).map (·.2) = vs.toArray
      apply Array.toList_inj.mp
      simp [List.map_snd_zip]
    dsimp only
    rw [id1]
    have pr := Array.Perm.refl (List.toArray (List.range vs.length))
    refine wpAny_bind (seqEpoch_at hoN rfl (wpAny_bind (listUpdate_at hoN rfl ?_ (Nat.zero_le _) (szO _ pr))))
    simp only [bne_self_eq_false, Bool.false_eq_true, if_false]
    refine wpAny_pure (fin _ pr ?_)
    intro x y hxy hy
    have : x = y := by simp at c; omega
    subst this
    exact Ms.le_rf (lt2_ord ts) _
  · rw [if_neg c, if_neg c]
    have c2 : 2 ≤ vs.length := by simp at c; omega
    obtain ⟨fs, f1, f2, f3⟩ := ht3.firsts
    refine wpAny_bind (kat_kind f1 (by omega) (T := .type "int") (fun v hv => ?_) (by decide) ?_)
    · obtain ⟨i, t, rfl⟩ := f3 v hv
      exact Looks.of_pure rfl
    show wpAny _ _ _ _ _ _
    rw [show (Value.type "int" != Value.type "tuple") = true by decide]
    have srt := Ms.sort_ok (lt2_ord ts) (n := vs.length) (by omega)
    refine wpAny_bind (wpAny_mono (kat_run (ks := vs) (Q := fun st' s' => s' = { s with heap := hp3 } ∧ ∃ p : Array Nat, arrOf st' = p.map (kas_item (vs.toArray.zip vs.toArray)) ∧ failedOf st' = none ∧ p = Ms.run (ltI2 ts) (kas_sort vs.length)) (G := fun p s' => s' = { s with heap := hp3 } ∧ p = Ms.run (ltI2 ts) (kas_sort vs.length)) rfl c2 h64
      (fun p st' s' _ b2 b3 b4 => ⟨b4.1, p, b2, b3, b4.2⟩) ?_) ?_ fun _ _ z => z)
    · refine Ms.Bd.wp (N := vs.length) (lt := ltI2 ts) (fun i j C hi hj hc => ?_) _ (Ms.bd_sort (by omega)) ⟨rfl, rfl⟩
      exact t2_lt (ht3.get i hi) (ht3.get j hj) hc
    · rintro ⟨⟨⟩, st'⟩ s' ⟨rfl, p, hp1, hp2, rfl⟩
      dsimp only
      rw [kat_snds rfl hp1]
      refine wpAny_bind (seqEpoch_at hoN rfl (wpAny_bind (listUpdate_at hoN rfl ?_ (Nat.zero_le _) (szO _ srt.1))))
      rw [hp2]
      simp only [bne_self_eq_false, Bool.false_eq_true, if_false]
      exact wpAny_pure (fin _ srt.1 srt.2)
end
section
variable {prog : Program} {w : World} {A : Around} {E : Value → Shared → Prop} {s : Shared}
/-- sorted(l): a new list, two behind the last object -/
theorem sorted_t2 {l : Addr} {vs : List Value} {ts : List T2} {Q : Value → Shared → Prop} (hl : s.heap.IsList l vs.toArray) (ht : T2s s.heap vs ts) (h64 : vs.length < 64)
    (h : ∀ (p : Array Nat) (h' : Heap) (c : Nat), p.Perm (List.toArray (List.range vs.length)) → Ms.Up (ltI2 ts) p vs.length → (∀ b o, s.heap.get? b = some o → h'.get? b = some o) →
      h'.get? (s.heap.objs.size + 1) = some (seqObj "list" (outV vs p).toArray c) → Q (.ref (s.heap.objs.size + 1)) { s with heap := h' }) :
    wpAny (model prog w) A (call (.builtin "sorted") [.ref l]) Q E s := by
  have hz : vs.length ≤ sizeLine := by rw [sizeLine_eq]; omega
  refine Calls.call_function_entry kind_sorted plain_sorted entry_sorted (args_sorted1 _) ?_
  unfold Builtin.«sorted»
  refine wpAny_bind (m := checkCount "sorted" 1 1 _) (wpAny_pure (wpAny_bind (collect_list hl ?_ hz)))
  refine wpAny_bind (wpAny_newList ?_ hz)
  have z1 : ((s.heap.push (seqObj "list" #[] 0)).update s.heap.objs.size (Obj.mapSeq (· ++ vs.toArray))).objs.size = s.heap.objs.size + 1 := by
    rw [Heap.size_update, size_push']
  have kp : ∀ b o, s.heap.get? b = some o → (((s.heap.push (seqObj "list" #[] 0)).update s.heap.objs.size (Obj.mapSeq (· ++ vs.toArray))).push (seqObj "list" vs.toArray 0)).get? b = some o := fun b o q => by
    have hb : b < s.heap.objs.size := Heap.lt_size q
    exact Heap.get?_push_of_some _ (by rw [Heap.get?_update_ne _ _ _ _ (Nat.ne_of_lt hb)]; exact Heap.get?_push_of_some _ q)
  have zo : (((s.heap.push (seqObj "list" #[] 0)).update s.heap.objs.size (Obj.mapSeq (· ++ vs.toArray))).push (seqObj "list" vs.toArray 0)).get? (s.heap.objs.size + 1) = some (seqObj "list" vs.toArray 0) := by
    have q := Heap.get?_push_size ((s.heap.push (seqObj "list" #[] 0)).update s.heap.objs.size (Obj.mapSeq (· ++ vs.toArray))) (o := seqObj "list" vs.toArray 0) rfl
    rw [z1] at q
    exact q
  show wpAny _ _ _ _ _ { s with heap := ((s.heap.push (seqObj "list" #[] 0)).update s.heap.objs.size (Obj.mapSeq (· ++ vs.toArray))).push (seqObj "list" vs.toArray 0) }
  rw [z1]
  have tt := T2s.kept (fun b o e _ => kp b o e) ht
  generalize ((s.heap.push (seqObj "list" #[] 0)).update s.heap.objs.size (Obj.mapSeq (· ++ vs.toArray))).push (seqObj "list" vs.toArray 0) = hp at kp zo tt
  refine wpAny_bind (wpAny_holding (wpAny_call_entry slot_list_sort ⟨_, zo, rfl⟩ entry_list_sort (lsort_t2 (s := { s with heap := hp }) zo tt h64 fun p h' c a1 a2 a3 a4 => ⟨_, rfl, ?_⟩) (args_list_sort _)))
  refine wpAny_pure ⟨_, rfl, h p h' c a1 a2 (fun b o q => a3 b o (Nat.ne_of_lt (Nat.lt_succ_of_lt (Heap.lt_size q))) (kp b o q)) a4⟩
end
/-! the layer's values -/
noncomputable def V2s (K : Fg) (H : Hp) : List V → List T2 → Prop
  | [], [] => True
  | v :: vs, t :: ts => (∃ a, v = .ref a ∧ H a = some (.tup [.int t.1, .int t.2])) ∧ V2s K H vs ts
  | _, _ => False
section
variable {X : Cx}
theorem v2s_heap {pins : List (Addr × Obj)} {σ : L2.St} {H : Hp} {s : Shared} (I : Inv X pins σ H s) : ∀ {vs : List V} {ts : List T2} {us : List Value}, V2s X.K H vs ts → Vals vs us → T2s s.heap us ts
  | [], [], _, _, .nil => trivial
  | [], _ :: _, _, z, _ => z.elim
  | _ :: _, [], _, z, _ => z.elim
  | v :: vs, t :: ts, _, z, .cons r rs => by
    obtain ⟨⟨a, rfl, hq⟩, z⟩ := z
    refine ⟨?_, v2s_heap I z rs⟩
    cases r
    obtain ⟨its, rv, ⟨o, p1, p2, n, p3⟩, _⟩ := I.tuple (SqT.of hq)
    cases rv with
    | cons r1 rv =>
      cases rv with
      | cons r2 rv =>
        cases rv
        obtain ⟨t1, rfl⟩ := r1
        obtain ⟨t2, rfl⟩ := r2
        exact ⟨a, o, t1, t2, n, rfl, p1, p2, p3⟩
/-- sorted, of the layer -/
noncomputable def rSort2 (K : Fg) : List V → Hp → VK → Prop := fun xs H Q => ∃ p vs ts, xs = [.ref p] ∧ SqL K H p vs ∧ V2s K H vs ts ∧ vs.length < 64 ∧
  ∀ q : Array Nat, q.Perm (List.toArray (List.range vs.length)) → Ms.Up (ltI2 ts) q vs.length → ∀ r, H r = none → Q (.ref r) (upd H r (.lst (q.toList.map fun i => vs.getD i .non)))
theorem call_sort2 : CallR X (.builtin "sorted") (rSort2 X.K) := by
  intro pins s σ H xs us Q I r h
  obtain ⟨p, vs, ts, rfl, hq, h3, h64, k⟩ := h
  cases r with
  | cons r rr =>
    cases rr
    cases r
    obtain ⟨its, rv, pl, hz⟩ := I.list hq
    have hl := rv.length
    refine sorted_t2 pl.isList (v2s_heap I h3 rv) (by omega) fun q h' c a1 a2 a3 a4 => ?_
    have a1' : q.Perm (List.toArray (List.range vs.length)) := by rw [hl]; exact a1
    have lt' : ∀ i ∈ q.toList, i < vs.length := fun i hi => by
      have e : i ∈ List.toArray (List.range vs.length) := a1'.mem_iff.mp (by simpa using hi)
      simpa using e
    have sz : q.toList.length = vs.length := by have := a1'.size_eq; simpa using this
    have nw : s.heap.objs.size ≤ s.heap.objs.size + 1 := Nat.le_succ _
    refine ⟨.ref _, _, I.laid (t' := s.toks) a3 nw (show ObjOk X.prog X.w _ h' _ (.lst (q.toList.map fun i => vs.getD i .non)) from ⟨by rw [List.length_map, sz]; exact hz, _, c, vals_getD rv _ lt', a4⟩), rfl, k q a1' (by rw [hl]; exact a2) _ (I.hok.fresh nw)⟩
end
/-! .. and of this layer -/
noncomputable def encR2 (t : T2) : D := .tup [.int t.1, .int t.2]
noncomputable def t2? : D → Option T2
  | .tup [.int a, .int b] => some (a, b)
  | _ => none
noncomputable def t2s? : List D → Option (List T2)
  | [] => some []
  | d :: r => match t2? d with
    | some t => match t2s? r with
      | some ts => some (t :: ts)
      | none => none
    | none => none
theorem t2s_enc : ∀ ts : List T2, t2s? (ts.map encR2) = some ts
  | [] => rfl
  | t :: ts => by simp only [List.map_cons, t2s?, encR2, t2?, t2s_enc ts]
theorem t2_of {d : D} {t : T2} (h : t2? d = some t) : d = encR2 t := by
  unfold t2? at h
  split at h
  · cases h; rfl
  · cases h
theorem t2s_of : ∀ {l : List D} {ts : List T2}, t2s? l = some ts → l = ts.map encR2
  | [], ts, h => by cases h; rfl
  | d :: r, ts, h => by
    unfold t2s? at h
    split at h
    · next t e =>
      split at h
      · next us e2 => cases h; rw [t2_of e, t2s_of e2]; rfl
      · cases h
    · cases h
theorem v2s_of {K : Fg} {H : Hp} : ∀ {ts : List T2} {vs : List V}, RelDs K H (ts.map encR2) vs → V2s K H vs ts
  | [], _, .nil => trivial
  | t :: ts, _, .cons r rs => by
    refine ⟨?_, v2s_of rs⟩
    cases r with
    | tup hq r2 =>
      cases r2 with
      | cons x r2 =>
        cases r2 with
        | cons y r2 =>
          cases r2
          cases x
          cases y
          exact ⟨_, rfl, hq⟩
theorem relDs_getD2 {K : Fg} {H : Hp} {ts : List T2} {vs : List V} (r : RelDs K H (ts.map encR2) vs) : ∀ (l : List Nat), (∀ i ∈ l, i < vs.length) → RelDs K H ((l.map fun i => ts.getD i (0, 0)).map encR2) (l.map fun i => vs.getD i .non)
  | [], _ => .nil
  | i :: l, h => by
    refine .cons ?_ (relDs_getD2 r l fun j hj => h j (List.mem_cons_of_mem _ hj))
    have hi := h i (List.mem_cons_self ..)
    have hl := r.length
    rw [List.length_map] at hl
    obtain ⟨v, e, z⟩ := r.get (i := i) (d := encR2 (ts.getD i (0, 0))) (by rw [List.getElem?_map, List.getD_eq_getElem?_getD, List.getElem?_eq_getElem (by omega)]; rfl)
    dsimp only
    rw [show vs.getD i .non = v by rw [List.getD_eq_getElem?_getD, e]; rfl]
    exact z
noncomputable def le2 (a b : T2) : Prop := lt2 b a = false
theorem sort_perm2 {ts : List T2} {q : Array Nat} (h : q.Perm (List.toArray (List.range ts.length))) : (q.toList.map fun i => ts.getD i (0, 0)).Perm ts := by
  have h1 : q.toList.Perm (List.range ts.length) := h.toList
  refine (h1.map _).trans (List.Perm.of_eq ?_)
  apply List.ext_getElem
  · simp
  · intro i h1 h2
    simp [List.getD_eq_getElem?_getD, List.getElem?_eq_getElem h2]
theorem sort_up2 {ts : List T2} {q : Array Nat} (h : q.Perm (List.toArray (List.range ts.length))) (u : Ms.Up (ltI2 ts) q ts.length) : (q.toList.map fun i => ts.getD i (0, 0)).Pairwise le2 := by
  have sz : q.size = ts.length := by have := h.size_eq; simpa using this
  rw [List.pairwise_iff_getElem]
  intro i j hi hj hij
  simp only [List.length_map, Array.length_toList] at hi hj
  have z := u i j (Nat.le_of_lt hij) (by omega)
  simp only [List.getElem_map, Array.getElem_toList]
  have e1 : Ms.at' q i = q[i] := by show q.getD i 0 = _; simp [Array.getD, hi]
  have e2 : Ms.at' q j = q[j] := by show q.getD j 0 = _; simp [Array.getD, hj]
  rw [e1, e2] at z
  exact z
noncomputable def srt2R : C3 := fun ds μ Q => match ds with
  | [.ref p] => match μ p with
    | some (.lst l) => match t2s? l with
      | some ts => ts.length < 64 ∧ ∀ us : List T2, us.Perm ts → us.Pairwise le2 → ∀ r, μ r = none → Q (.ref r) (updM μ r (.lst (us.map encR2)))
      | none => False
    | _ => False
  | _ => False
section
variable {X : Cx}
theorem q_sorted2 : RC X (.builtin "sorted") srt2R := by
  refine ⟨_, call_sort2, fun xs vs H Q μ Q3 m r h k => ?_⟩
  unfold srt2R at h
  split at h
  · next p =>
    split at h
    · next l e =>
      split at h
      · next ts e2 =>
        cases r with
        | cons r1 r2 =>
          cases r2
          cases r1
          have el := t2s_of e2
          subst el
          obtain ⟨us, hv, rv⟩ := m p _ e
          have hl := rv.length
          rw [List.length_map] at hl
          refine ⟨p, us, ts, rfl, SqL.of hv, v2s_of rv, by omega, fun q a1 a2 r hr => ?_⟩
          rw [← hl] at a1 a2
          have lt' : ∀ i ∈ q.toList, i < us.length := fun i hi => by
            have e : i ∈ List.toArray (List.range ts.length) := a1.mem_iff.mp (by simpa using hi)
            have e' : i < ts.length := by simpa using e
            omega
          exact k _ _ _ _ (h.2 _ (sort_perm2 a1) (sort_up2 a1 a2) r (m.free hr)) (Kp.new hr) (.ref r) (m.newL hr (relDs_getD2 rv _ lt'))
      · exact h.elim
    · exact h.elim
  · exact h.elim
end
end Pv

/-! strokes and points: pieces, odd points -/
namespace Pv
noncomputable abbrev Pt := Int × Int
noncomputable def e0 (s : T3) : Pt := (s.1, s.2.1)
noncomputable def e1 (s : T3) : Pt := (s.1 + 1 - s.2.2, s.2.1 + s.2.2)
theorem e_ne (s : T3) : e0 s ≠ e1 s := fun h => by
  unfold e0 e1 at h
  injection h with h1 h2
  omega
noncomputable def has (p : Pt) (s : T3) : Bool := decide (e0 s = p) || decide (e1 s = p)
theorem has_e0 (s : T3) : has (e0 s) s = true := by unfold has; simp
theorem has_e1 (s : T3) : has (e1 s) s = true := by unfold has; simp
theorem has_or {p : Pt} {s : T3} (h : has p s = true) : p = e0 s ∨ p = e1 s := by
  unfold has at h
  rw [Bool.or_eq_true, decide_eq_true_eq, decide_eq_true_eq] at h
  exact h.imp Eq.symm Eq.symm
noncomputable def tch (a b : T3) : Prop := ∃ p, has p a = true ∧ has p b = true
theorem tch.symm {a b : T3} (h : tch a b) : tch b a := let ⟨p, x, y⟩ := h; ⟨p, y, x⟩
noncomputable def deg (ts : List T3) (p : Pt) : Nat := ts.countP (has p)
inductive Conn (ts : List T3) (a : T3) : T3 → Prop
  | refl : Conn ts a a
  | step {b c : T3} : Conn ts a b → c ∈ ts → tch b c → Conn ts a c
theorem Conn.cl {ts u : List T3} {a b : T3} (hu : ∀ x ∈ u, ∀ c ∈ ts, tch x c → c ∈ u) (ha : a ∈ u) (h : Conn ts a b) : b ∈ u := by
  induction h with
  | refl => exact ha
  | step _ hc ht ih => exact hu _ ih _ hc ht
theorem Conn.trans {ts : List T3} {a b c : T3} (h : Conn ts a b) (k : Conn ts b c) : Conn ts a c := by
  induction k with
  | refl => exact h
  | step _ hc ht ih => exact .step ih hc ht
theorem Conn.symm {ts : List T3} {a b : T3} (ha : a ∈ ts) (h : Conn ts a b) : Conn ts b a := by
  have key : ∀ {b}, Conn ts a b → b ∈ ts ∧ Conn ts b a := by
    intro b h
    induction h with
    | refl => exact ⟨ha, .refl⟩
    | step _ hc ht ih => exact ⟨hc, (Conn.step .refl ih.1 ht.symm).trans ih.2⟩
  exact (key h).2
theorem Conn.mono {ts us : List T3} {a b : T3} (hs : ∀ x, Conn ts a x → x ∈ ts → x ∈ us) (h : Conn ts a b) : Conn us a b := by
  induction h with
  | refl => exact .refl
  | step hb hc ht ih => exact .step ih (hs _ (.step hb hc ht) hc) ht
theorem le3_an {a b : T3} (h : le3 a b) (k : le3 b a) : a = b := by
  obtain ⟨x1, x2, x3⟩ := a
  obtain ⟨y1, y2, y3⟩ := b
  simp only [le3, lt3, Bool.or_eq_false_iff, Bool.and_eq_false_iff, decide_eq_false_iff_not, beq_eq_false_iff_ne, ne_eq] at h k
  simp only [Prod.mk.injEq]
  omega
theorem uq {us vs : List T3} (a1 : us.Perm vs) (a2 : us.Pairwise le3) (a3 : vs.Pairwise le3) : us = vs := List.Perm.eq_of_pairwise (fun a b _ _ h k => le3_an h k) a2 a3 a1
/-- the pieces of a picture -/
structure IsP (ts : List T3) (us : List (List T3)) : Prop where
  perm : us.flatten.Perm ts
  ne : ∀ u ∈ us, u ≠ []
  up : ∀ u ∈ us, u.Pairwise le3
  cl : ∀ u ∈ us, ∀ a ∈ u, ∀ c ∈ ts, tch a c → c ∈ u
  co : ∀ u ∈ us, ∀ a ∈ u, ∀ b ∈ u, Conn ts a b
theorem IsP.mem {ts : List T3} {us : List (List T3)} (h : IsP ts us) {u : List T3} (hu : u ∈ us) {a : T3} (ha : a ∈ u) : a ∈ ts := h.perm.mem_iff.mp (List.mem_flatten.mpr ⟨u, hu, ha⟩)
theorem IsP.two {ts : List T3} {us : List (List T3)} (hn : ts.Nodup) (h : IsP ts us) : (∀ u ∈ us, u.Nodup) ∧ us.Pairwise (fun u v => ∀ x, x ∈ u → ∀ y, y ∈ v → x ≠ y) := List.pairwise_flatten.mp (h.perm.nodup_iff.mpr hn)
theorem IsP.same {ts : List T3} {us vs : List (List T3)} (hn : ts.Nodup) (h : IsP ts us) (k : IsP ts vs) {u v : List T3} (hu : u ∈ us) (hv : v ∈ vs) {a : T3} (au : a ∈ u) (av : a ∈ v) : u = v := by
  refine uq ((List.perm_ext_iff_of_nodup ((h.two hn).1 u hu) ((k.two hn).1 v hv)).mpr fun b => ⟨fun hb => ?_, fun hb => ?_⟩) (h.up u hu) (k.up v hv)
  · exact (h.co u hu a au b hb).cl (k.cl v hv) av
  · exact (k.co v hv a av b hb).cl (h.cl u hu) au
theorem IsP.nd {ts : List T3} {us : List (List T3)} (hn : ts.Nodup) (h : IsP ts us) : us.Nodup := by
  refine List.Pairwise.imp_of_mem ?_ (h.two hn).2
  intro u v hu hv d e
  subst e
  obtain ⟨a, ha⟩ := List.exists_mem_of_ne_nil u (h.ne u hu)
  exact d a ha a ha rfl
theorem IsP.sub {ts : List T3} {us vs : List (List T3)} (hn : ts.Nodup) (h : IsP ts us) (k : IsP ts vs) {u : List T3} (hu : u ∈ us) : u ∈ vs := by
  obtain ⟨a, ha⟩ := List.exists_mem_of_ne_nil u (h.ne u hu)
  obtain ⟨v, hv, av⟩ := List.mem_flatten.mp (k.perm.mem_iff.mpr (h.mem hu ha))
  rw [h.same hn k hu hv ha av]
  exact hv
/-- there is but one way to part it -/
theorem IsP.one {ts : List T3} {us vs : List (List T3)} (hn : ts.Nodup) (h : IsP ts us) (k : IsP ts vs) : us.Perm vs :=
  (List.perm_ext_iff_of_nodup (h.nd hn) (k.nd hn)).mpr fun u => ⟨fun hu => h.sub hn k hu, fun hu => k.sub hn h hu⟩
/-- a piece is one piece -/
theorem IsP.self {ts : List T3} {us : List (List T3)} (h : IsP ts us) {u : List T3} (hu : u ∈ us) : IsP u [u] where
  perm := by simp
  ne := fun v hv => by rw [List.mem_singleton] at hv; subst hv; exact h.ne v hu
  up := fun v hv => by rw [List.mem_singleton] at hv; subst hv; exact h.up v hu
  cl := fun v hv a ha c hc _ => by rw [List.mem_singleton] at hv; subst hv; exact hc
  co := fun v hv a ha b hb => by
    rw [List.mem_singleton] at hv; subst hv
    exact (h.co v hu a ha b hb).mono fun x hx _ => hx.cl (h.cl v hu) ha
/-- two pieces have no point in common -/
theorem IsP.apart {ts : List T3} {us : List (List T3)} (hn : ts.Nodup) (h : IsP ts us) : us.Pairwise fun u v => ∀ a ∈ u, ∀ b ∈ v, ∀ p, has p a = true → has p b = true → False := by
  refine List.Pairwise.imp_of_mem ?_ (h.two hn).2
  intro u v hu hv d a ha b hb p pa pb
  exact d b (h.cl u hu a ha b (h.mem hv hb) ⟨p, pa, pb⟩) b hb rfl
/-! odd points -/
noncomputable def tog (p : Pt) (l : List Pt) : List Pt := if p ∈ l then l.erase p else p :: l
theorem tog_nd {p : Pt} {l : List Pt} (h : l.Nodup) : (tog p l).Nodup := by
  unfold tog
  split
  · exact h.erase p
  · next c => exact List.nodup_cons.mpr ⟨c, h⟩
theorem tog_mem {p q : Pt} {l : List Pt} (h : l.Nodup) : q ∈ tog p l ↔ ¬ (q ∈ l ↔ q = p) := by
  unfold tog
  by_cases c : p ∈ l
  · rw [if_pos c, h.mem_erase_iff]
    constructor
    · rintro ⟨x, y⟩ z
      exact x (z.mp y)
    · intro z
      by_cases e : q = p
      · subst e; exact absurd ⟨fun _ => rfl, fun _ => c⟩ z
      · refine ⟨e, ?_⟩
        apply Classical.byContradiction
        intro y
        exact z ⟨fun w => absurd w y, fun w => absurd w e⟩
  · rw [if_neg c, List.mem_cons]
    constructor
    · rintro (rfl | y) z
      · exact c (z.mpr rfl)
      · exact c (z.mp y ▸ y)
    · intro z
      by_cases e : q = p
      · exact .inl e
      · right
        apply Classical.byContradiction
        intro y
        exact z ⟨fun w => absurd w y, fun w => absurd w e⟩
noncomputable def Od : List T3 → List Pt
  | [] => []
  | s :: r => tog (e1 s) (tog (e0 s) (Od r))
theorem Od_nd : ∀ ts : List T3, (Od ts).Nodup
  | [] => List.nodup_nil
  | s :: r => tog_nd (tog_nd (Od_nd r))
theorem Od_mem (p : Pt) : ∀ ts : List T3, p ∈ Od ts ↔ deg ts p % 2 = 1
  | [] => by simp [Od, deg]
  | s :: r => by
    unfold Od
    rw [tog_mem (tog_nd (Od_nd r)), tog_mem (Od_nd r), Od_mem p r]
    unfold deg
    rw [List.countP_cons]
    have ne := e_ne s
    by_cases c0 : p = e0 s
    · have c1 : ¬ p = e1 s := fun z => ne (c0.symm.trans z)
      rw [if_pos (by rw [c0]; exact has_e0 s)]
      simp only [c0, ne, iff_true, iff_false]
      omega
    · by_cases c1 : p = e1 s
      · rw [if_pos (by rw [c1]; exact has_e1 s)]
        have c0' : ¬ e1 s = e0 s := fun z => ne z.symm
        simp only [c1, c0', iff_true, iff_false]
        omega
      · rw [if_neg (fun z => by rcases has_or z with z | z; exact c0 z; exact c1 z)]
        simp only [c0, c1, iff_false]
        omega
theorem deg_perm {ts us : List T3} (h : ts.Perm us) (p : Pt) : deg ts p = deg us p := h.countP_eq _
theorem Od_perm {ts us : List T3} (h : ts.Perm us) : (Od ts).Perm (Od us) := (List.perm_ext_iff_of_nodup (Od_nd _) (Od_nd _)).mpr fun p => by rw [Od_mem, Od_mem, deg_perm h]
theorem deg_pos {ts : List T3} {p : Pt} (h : deg ts p % 2 = 1) : ∃ a ∈ ts, has p a = true := by
  have : 0 < ts.countP (has p) := by unfold deg at h; omega
  obtain ⟨a, ha, hp⟩ := List.countP_pos_iff.mp this
  exact ⟨a, ha, hp⟩
theorem IsP.deg {ts : List T3} {us : List (List T3)} (hn : ts.Nodup) (h : IsP ts us) {u : List T3} (hu : u ∈ us) {a : T3} (ha : a ∈ u) {p : Pt} (hp : has p a = true) : Pv.deg ts p = Pv.deg u p := by
  unfold Pv.deg
  rw [List.countP_eq_length_filter, List.countP_eq_length_filter]
  apply List.Perm.length_eq
  refine (List.perm_ext_iff_of_nodup (hn.filter _) (((h.two hn).1 u hu).filter _)).mpr fun b => ?_
  rw [List.mem_filter, List.mem_filter]
  exact ⟨fun ⟨x, y⟩ => ⟨h.cl u hu a ha b x ⟨p, hp, y⟩, y⟩, fun ⟨x, y⟩ => ⟨h.mem hu x, y⟩⟩
/-- the odd points of the pieces are those of the whole -/
theorem IsP.odd {ts : List T3} {us : List (List T3)} (hn : ts.Nodup) (h : IsP ts us) : (us.map Od).flatten.Perm (Od ts) := by
  refine (List.perm_ext_iff_of_nodup ?_ (Od_nd _)).mpr fun p => ?_
  · refine List.pairwise_flatten.mpr ⟨fun l hl => ?_, List.pairwise_map.mpr (List.Pairwise.imp ?_ (h.apart hn))⟩
    · obtain ⟨u, _, rfl⟩ := List.mem_map.mp hl
      exact Od_nd u
    · intro u v d p hp q hq e
      subst e
      obtain ⟨a, ha, pa⟩ := deg_pos ((Od_mem p u).mp hp)
      obtain ⟨b, hb, pb⟩ := deg_pos ((Od_mem p v).mp hq)
      exact d a ha b hb p pa pb
  · rw [Od_mem, List.mem_flatten]
    constructor
    · rintro ⟨l, hl, hp⟩
      obtain ⟨u, hu, rfl⟩ := List.mem_map.mp hl
      have hd := (Od_mem p u).mp hp
      obtain ⟨a, ha, pa⟩ := deg_pos hd
      rw [h.deg hn hu ha pa]
      exact hd
    · intro hd
      obtain ⟨a, ha, pa⟩ := deg_pos hd
      obtain ⟨u, hu, au⟩ := List.mem_flatten.mp (h.perm.mem_iff.mpr ha)
      rw [h.deg hn hu au pa] at hd
      exact ⟨_, List.mem_map.mpr ⟨u, hu, rfl⟩, (Od_mem p u).mpr hd⟩
/-- trails that a piece wants -/
noncomputable def need (u : List T3) : Nat := max 1 ((Od u).length / 2)
noncomputable def needs (us : List (List T3)) : Nat := (us.map need).sum
end Pv

/-! trails: as few as can be -/
namespace Pv
noncomputable abbrev Or := T3 × Bool
noncomputable def st (o : Or) : Pt := if o.2 then e1 o.1 else e0 o.1
noncomputable def fi (o : Or) : Pt := if o.2 then e0 o.1 else e1 o.1
noncomputable def one (c : Prop) [Decidable c] : Nat := if c then 0 else 1
/-- how often a pen that is at h is set down anew -/
noncomputable def J : Option Pt → List Or → Nat
  | _, [] => 0
  | h, o :: q => one (some (st o) = h) + J (some (fi o)) q
theorem one_le (c : Prop) [Decidable c] : one c ≤ 1 := by unfold one; split <;> omega
theorem J_none (h : Option Pt) : ∀ q, J h q ≤ J none q
  | [] => Nat.le_refl _
  | o :: q => by
    show one _ + _ ≤ one _ + _
    have := one_le (some (st o) = h)
    have : one (some (st o) = none) = 1 := if_neg (by simp)
    omega
theorem J_len : ∀ (h : Option Pt) (q : List Or), J h q ≤ q.length
  | _, [] => Nat.le_refl _
  | h, o :: q => by
    have := J_len (some (fi o)) q
    have := one_le (some (st o) = h)
    show one _ + _ ≤ q.length + 1
    omega
theorem J_app : ∀ (h : Option Pt) (q r : List Or), J h (q ++ r) ≤ J h q + J none r
  | h, [], r => by
    have := J_none h r
    show J h r ≤ 0 + J none r
    omega
  | h, o :: q, r => by
    have := J_app (some (fi o)) q r
    show one _ + J _ (q ++ r) ≤ one _ + _ + _
    omega
/-! none can be fewer -/
noncomputable def Far (P : T3 → Bool) (q : List Or) : Prop := ∀ a ∈ q, ∀ b ∈ q, P a.1 = true → P b.1 = false → ∀ p, has p a.1 = true → has p b.1 = true → False
theorem has_st (o : Or) : has (st o) o.1 = true := by unfold st; split; exact has_e1 _; exact has_e0 _
theorem has_fi (o : Or) : has (fi o) o.1 = true := by unfold fi; split; exact has_e0 _; exact has_e1 _
theorem J_two (P : T3 → Bool) : ∀ (q : List Or) (h ha hb : Option Pt), Far P q → (∀ p, h = some p → ∀ o ∈ q, has p o.1 = true → if P o.1 = true then ha = h else hb = h) →
    J ha (q.filter fun o => P o.1) + J hb (q.filter fun o => !P o.1) ≤ J h q
  | [], _, _, _, _, _ => Nat.le_refl _
  | o :: q, h, ha, hb, f, k => by
    have f' : Far P q := fun a a1 b b1 => f a (.tail _ a1) b (.tail _ b1)
    cases c : P o.1 with
    | true =>
      rw [List.filter_cons_of_pos (by exact c), List.filter_cons_of_neg (by simp [c])]
      have ih := J_two P q (some (fi o)) (some (fi o)) hb f' (fun p e b hb' hp => by
        cases e
        cases d : P b.1 with
        | true => rw [if_pos rfl]
        | false => exact (f o (.head _) b (.tail _ hb') c d _ (has_fi o) hp).elim)
      have l : one (some (st o) = ha) ≤ one (some (st o) = h) := by
        by_cases e : some (st o) = h
        · have := k _ e.symm o (.head _) (has_st o)
          rw [if_pos c] at this
          rw [this]
          exact Nat.le_refl _
        · rw [show one (some (st o) = h) = 1 from if_neg e]
          exact one_le _
      show one _ + J _ _ + _ ≤ one _ + J _ _
      omega
    | false =>
      rw [List.filter_cons_of_neg (by simp [c]), List.filter_cons_of_pos (by simp [c])]
      have ih := J_two P q (some (fi o)) ha (some (fi o)) f' (fun p e b hb' hp => by
        cases e
        cases d : P b.1 with
        | true => exact (f b (.tail _ hb') o (.head _) d c _ hp (has_fi o)).elim
        | false => rw [if_neg (by simp)])
      have l : one (some (st o) = hb) ≤ one (some (st o) = h) := by
        by_cases e : some (st o) = h
        · have := k _ e.symm o (.head _) (has_st o)
          rw [if_neg (by simp [c])] at this
          rw [this]
          exact Nat.le_refl _
        · rw [show one (some (st o) = h) = 1 from if_neg e]
          exact one_le _
      show _ + (one _ + J _ _) ≤ one _ + J _ _
      omega
theorem tog_le (p : Pt) (l : List Pt) : (tog p l).length ≤ l.length + 1 := by
  unfold tog
  split
  · have := List.length_erase_le (a := p) (l := l)
    omega
  · simp
theorem tog_self {p : Pt} {l : List Pt} (h : l.Nodup) : (tog p (tog p l)).Perm l := (List.perm_ext_iff_of_nodup (tog_nd (tog_nd h)) h).mpr fun q => by
  rw [tog_mem (tog_nd h), tog_mem h]
  by_cases a : q ∈ l <;> by_cases b : q = p <;> simp [a, b]
theorem tog_comm {p q : Pt} {l : List Pt} (h : l.Nodup) : (tog p (tog q l)).Perm (tog q (tog p l)) := (List.perm_ext_iff_of_nodup (tog_nd (tog_nd h)) (tog_nd (tog_nd h))).mpr fun r => by
  rw [tog_mem (tog_nd h), tog_mem h, tog_mem (tog_nd h), tog_mem h]
  generalize (r ∈ l) = A
  generalize (r = p) = B
  generalize (r = q) = C
  by_cases a : A <;> by_cases b : B <;> by_cases c : C <;> simp [a, b, c]
theorem tog_perm {p : Pt} {l m : List Pt} (h : l.Nodup) (e : l.Perm m) : (tog p l).Perm (tog p m) := (List.perm_ext_iff_of_nodup (tog_nd h) (tog_nd (e.nodup_iff.mp h))).mpr fun r => by
  rw [tog_mem h, tog_mem (e.nodup_iff.mp h), e.mem_iff]
noncomputable abbrev Sk (q : List Or) : List T3 := q.map (·.1)
theorem Od_or (o : Or) (q : List Or) : (Od (Sk (o :: q))).Perm (tog (st o) (tog (fi o) (Od (Sk q)))) := by
  show (tog (e1 o.1) (tog (e0 o.1) (Od (Sk q)))).Perm _
  unfold st fi
  cases o.2 with
  | true => exact .refl _
  | false => exact tog_comm (Od_nd _)
theorem J_odd1 : ∀ (q : List Or) (y : Pt), (tog y (Od (Sk q))).length ≤ 2 * J (some y) q + 1
  | [], y => by
    have := tog_le y (Od (Sk []))
    exact this
  | o :: q, y => by
    have ih := J_odd1 q (fi o)
    have e := (tog_perm (p := y) (Od_nd _) (Od_or o q)).length_eq
    have n1 := tog_nd (p := fi o) (Od_nd (Sk q))
    show _ ≤ 2 * (one _ + J _ q) + 1
    by_cases c : some (st o) = some y
    · injection c with c
      subst c
      rw [(tog_self n1).length_eq] at e
      omega
    · rw [show one (some (st o) = some y) = 1 from if_neg c]
      have a1 := tog_le y (tog (st o) (tog (fi o) (Od (Sk q))))
      have a2 := tog_le (st o) (tog (fi o) (Od (Sk q)))
      omega
theorem J_odd : ∀ q : List Or, (Od (Sk q)).length ≤ 2 * J none q
  | [] => Nat.le_refl _
  | o :: q => by
    have ih := J_odd1 q (fi o)
    have e := (Od_or o q).length_eq
    have a2 := tog_le (st o) (tog (fi o) (Od (Sk q)))
    show _ ≤ 2 * (one _ + J _ q)
    rw [show one (some (st o) = none) = 1 from if_neg (by simp)]
    omega
theorem J_need {u : List T3} {q : List Or} (hu : u ≠ []) (e : (Sk q).Perm u) : need u ≤ J none q := by
  have a := J_odd q
  rw [(Od_perm e).length_eq] at a
  have b : 1 ≤ J none q := by
    cases q with
    | nil => exact absurd e.nil_eq.symm hu
    | cons o q =>
      show 1 ≤ one _ + J _ q
      rw [show one (some (st o) = none) = 1 from if_neg (by simp)]
      omega
  unfold need
  omega
theorem J_needs : ∀ (us : List (List T3)) (q : List Or), (∀ u ∈ us, u ≠ []) → us.flatten.Nodup → (us.Pairwise fun u v => ∀ a ∈ u, ∀ b ∈ v, ∀ p, has p a = true → has p b = true → False) → (Sk q).Perm us.flatten → needs us ≤ J none q
  | [], _, _, _, _, _ => Nat.zero_le _
  | u :: us, q, ne, nd, ap, e => by
    have ap' := List.pairwise_cons.mp ap
    have nd' := List.nodup_append.mp (show (u ++ us.flatten).Nodup from nd)
    have e' : (Sk q).Perm (u ++ us.flatten) := e
    let P : T3 → Bool := fun t => decide (t ∈ u)
    have far : Far P q := by
      intro a ha b hb pa pb p h1 h2
      have pa' : a.1 ∈ u := of_decide_eq_true pa
      have pb' : b.1 ∉ u := of_decide_eq_false pb
      have hb' := e'.mem_iff.mp (List.mem_map.mpr ⟨b, hb, rfl⟩)
      rcases List.mem_append.mp hb' with z | z
      · exact pb' z
      · obtain ⟨v, hv, bv⟩ := List.mem_flatten.mp z
        exact ap'.1 v hv a.1 pa' b.1 bv p h1 h2
    have two := J_two P q none none none far (fun p e => nomatch e)
    have s1 : Sk (q.filter fun o => P o.1) = (Sk q).filter P := by rw [List.filter_map]; rfl
    have s2 : Sk (q.filter fun o => !P o.1) = (Sk q).filter fun t => !P t := by rw [List.filter_map]; rfl
    have p1 : (Sk (q.filter fun o => P o.1)).Perm u := by
      rw [s1]
      refine (e'.filter P).trans ?_
      rw [List.filter_append, List.filter_eq_self.mpr (fun t ht => decide_eq_true ht), List.filter_eq_nil_iff.mpr, List.append_nil]
      intro t ht h
      exact nd'.2.2 t (of_decide_eq_true h) t ht rfl
    have p2 : (Sk (q.filter fun o => !P o.1)).Perm us.flatten := by
      rw [s2]
      refine (e'.filter _).trans ?_
      rw [List.filter_append, List.filter_eq_nil_iff.mpr (fun t ht h => by rw [show P t = true from decide_eq_true ht] at h; exact Bool.noConfusion h), List.nil_append, List.filter_eq_self.mpr]
      intro t ht
      show (!decide (t ∈ u)) = true
      rw [decide_eq_false (fun h => nd'.2.2 t h t ht rfl)]
      rfl
    have l1 := J_need (ne u (.head _)) p1
    have l2 := J_needs us _ (fun v hv => ne v (.tail _ hv)) nd'.2.1 ap'.2 p2
    show need u + needs us ≤ _
    omega
/-! and so few there are -/
inductive Tr : Pt → List Or → Pt → Prop
  | nil (p : Pt) : Tr p [] p
  | cons (o : Or) {q : List Or} {z : Pt} : Tr (fi o) q z → Tr (st o) (o :: q) z
theorem Tr.app {a b c : Pt} {q r : List Or} (h : Tr a q b) (k : Tr b r c) : Tr a (q ++ r) c := by
  induction h with
  | nil => exact k
  | cons o _ ih => exact .cons o (ih k)
noncomputable def flp (o : Or) : Or := (o.1, !o.2)
theorem st_flp (o : Or) : st (flp o) = fi o := by obtain ⟨s, b⟩ := o; cases b <;> rfl
theorem fi_flp (o : Or) : fi (flp o) = st o := by obtain ⟨s, b⟩ := o; cases b <;> rfl
noncomputable def rv (q : List Or) : List Or := (q.map flp).reverse
theorem sk_rv (q : List Or) : (Sk (rv q)).Perm (Sk q) := by
  show ((q.map flp).reverse.map (·.1)).Perm _
  refine ((List.reverse_perm _).map _).trans ?_
  rw [List.map_map]
  exact .refl _
theorem Tr.rev {a b : Pt} {q : List Or} (h : Tr a q b) : Tr b (rv q) a := by
  induction h with
  | nil p => exact .nil p
  | cons o _ ih =>
    show Tr _ ((flp o :: _).reverse) _
    rw [List.reverse_cons]
    refine ih.app ?_
    rw [← st_flp o, ← fi_flp o]
    exact .cons _ (.nil _)
theorem Tr.split {a z p : Pt} {q : List Or} (h : Tr a q z) {s : T3} (hs : s ∈ Sk q) (hp : has p s = true) : ∃ q1 q2, q = q1 ++ q2 ∧ Tr a q1 p ∧ Tr p q2 z := by
  induction h with
  | nil => cases hs
  | cons o k ih =>
    rename_i q z
    by_cases c : s = o.1
    · subst c
      by_cases d : p = st o
      · exact ⟨[], _, rfl, d ▸ .nil _, d ▸ .cons o k⟩
      · have d2 : p = fi o := by
          unfold st at d
          unfold fi
          rcases has_or hp with x | x
          · split
            · exact x
            · next c => rw [if_neg c] at d; exact absurd x d
          · split
            · next c => rw [if_pos c] at d; exact absurd x d
            · exact x
        subst d2
        exact ⟨[o], q, rfl, .cons o (.nil _), k⟩
    · rcases List.mem_cons.mp hs with e | e
      · exact absurd e c
      · obtain ⟨q1, q2, e1, t1, t2⟩ := ih e
        exact ⟨o :: q1, q2, by rw [e1]; rfl, .cons o t1, t2⟩
theorem Tr.J {a z : Pt} {q : List Or} (h : Tr a q z) : J (some a) q = 0 := by
  induction h with
  | nil => rfl
  | cons o _ ih =>
    show one (some (st o) = some (st o)) + _ = 0
    rw [ih, show one (some (st o) = some (st o)) = 0 from if_pos rfl]
theorem Tr.J1 {a z : Pt} {q : List Or} (h : Tr a q z) : Pv.J none q ≤ 1 := by
  cases h with
  | nil => exact Nat.zero_le _
  | cons o k =>
    show one (some (st o) = none) + Pv.J (some (fi o)) _ ≤ 1
    rw [k.J]
    exact one_le (some (st o) = none)
theorem has_dec (p : Pt) (o : Or) : (if has p o.1 = true then 1 else 0) = (if p = st o then 1 else 0) + (if p = fi o then 1 else 0) := by
  have ne := e_ne o.1
  unfold st fi has
  obtain ⟨s, b⟩ := o
  by_cases c0 : p = e0 s
  · have c1 : ¬ p = e1 s := fun z => ne (c0.symm.trans z)
    have c1' : ¬ e1 s = p := fun z => c1 z.symm
    cases b <;> simp [c0, ne, Ne.symm ne]
  · by_cases c1 : p = e1 s
    · cases b <;> simp [c1, ne, Ne.symm ne]
    · have c0' : ¬ e0 s = p := fun z => c0 z.symm
      have c1' : ¬ e1 s = p := fun z => c1 z.symm
      cases b <;> simp [c0, c1, c0', c1']
theorem Tr.deg {a z : Pt} {q : List Or} (p : Pt) (h : Tr a q z) : Pv.deg (Sk q) p % 2 = ((if p = a then 1 else 0) + (if p = z then 1 else 0)) % 2 := by
  induction h with
  | nil b =>
    show 0 % 2 = _
    split <;> rfl
  | cons o k ih =>
    rename_i r z
    have e : Pv.deg (Sk (o :: r)) p = Pv.deg (Sk r) p + (if has p o.1 = true then 1 else 0) := List.countP_cons
    rw [e, has_dec]
    omega
/-- a cover: trails with their ends -/
noncomputable abbrev Tl := Pt × List Or × Pt
structure Cov (u : List T3) (cs : List Tl) : Prop where
  perm : (cs.flatMap fun c => Sk c.2.1).Perm u
  tr : ∀ c ∈ cs, Tr c.1 c.2.1 c.2.2
  ne : ∀ c ∈ cs, c.2.1 ≠ []
theorem Cov.J : ∀ {u : List T3} {cs : List Tl}, Cov u cs → ∃ q : List Or, (Sk q).Perm u ∧ Pv.J none q ≤ cs.length := by
  intro u cs
  induction cs generalizing u with
  | nil => intro h; exact ⟨[], h.perm, Nat.le_refl _⟩
  | cons c cs ih =>
    intro h
    obtain ⟨q, e, l⟩ := ih (u := cs.flatMap fun c => Sk c.2.1) ⟨.refl _, fun d hd => h.tr d (.tail _ hd), fun d hd => h.ne d (.tail _ hd)⟩
    refine ⟨c.2.1 ++ q, ?_, ?_⟩
    · refine .trans ?_ h.perm
      rw [Sk, List.map_append]
      exact e.append_left _
    · have a := J_app none c.2.1 q
      have b := (h.tr c (.head _)).J1
      show _ ≤ cs.length + 1
      omega
theorem Cov.swap {u : List T3} {cs ds : List Tl} (h : Cov u cs) (e : cs.Perm ds) : Cov u ds :=
  ⟨(e.symm.flatMap_right _).trans h.perm, fun c hc => h.tr c (e.mem_iff.mpr hc), fun c hc => h.ne c (e.mem_iff.mpr hc)⟩
theorem Cov.merge {u : List T3} {c d : Tl} {cs : List Tl} (h : Cov u (c :: d :: cs)) {a z : Pt} {q : List Or} (t : Tr a q z) (e : (Sk q).Perm (Sk c.2.1 ++ Sk d.2.1)) : Cov u ((a, q, z) :: cs) where
  perm := by
    refine .trans ?_ h.perm
    show (Sk q ++ _).Perm (Sk c.2.1 ++ (Sk d.2.1 ++ _))
    rw [← List.append_assoc]
    exact e.append_right _
  tr := fun x hx => by
    rcases List.mem_cons.mp hx with rfl | hx
    · exact t
    · exact h.tr x (.tail _ (.tail _ hx))
  ne := fun x hx => by
    rcases List.mem_cons.mp hx with rfl | hx
    · intro z
      have z' : q = [] := z
      rw [z'] at e
      have := e.nil_eq
      have := List.append_eq_nil_iff.mp this.symm
      exact h.ne c (.head _) (List.map_eq_nil_iff.mp this.1)
    · exact h.ne x (.tail _ (.tail _ hx))
noncomputable def Apd (c d : Tl) : Prop := c.1 ≠ d.1 ∧ c.1 ≠ d.2.2 ∧ c.2.2 ≠ d.1 ∧ c.2.2 ≠ d.2.2
theorem Cov.join {u : List T3} {c d : Tl} {cs : List Tl} (h : Cov u (c :: d :: cs)) (n : ¬ Apd c d) : ∃ x, Cov u (x :: cs) := by
  have tc := h.tr c (.head _)
  have td := h.tr d (.tail _ (.head _))
  by_cases c1 : c.1 = d.1
  · rw [c1] at tc
    exact ⟨_, h.merge (tc.rev.app td) (by rw [Sk, List.map_append]; exact (sk_rv _).append_right _)⟩
  · by_cases c2 : c.1 = d.2.2
    · rw [← c2] at td
      exact ⟨_, h.merge (td.app tc) (by rw [Sk, List.map_append]; exact List.perm_append_comm)⟩
    · by_cases c3 : c.2.2 = d.1
      · rw [c3] at tc
        exact ⟨_, h.merge (tc.app td) (by rw [Sk, List.map_append])⟩
      · by_cases c4 : c.2.2 = d.2.2
        · rw [c4] at tc
          exact ⟨_, h.merge (tc.app td.rev) (by rw [Sk, List.map_append]; exact (sk_rv _).append_left _)⟩
        · exact absurd ⟨c1, c2, c3, c4⟩ n
theorem Cov.splice {u : List T3} {c d : Tl} {cs : List Tl} (h : Cov u (c :: d :: cs)) (e : c.1 = c.2.2) {s t : T3} (hs : s ∈ Sk c.2.1) (ht : t ∈ Sk d.2.1) (k : tch s t) : ∃ x, Cov u (x :: cs) := by
  have tc := h.tr c (.head _)
  have td := h.tr d (.tail _ (.head _))
  obtain ⟨p, ps, pt⟩ := k
  obtain ⟨c1, c2, ec, x1, x2⟩ := tc.split hs ps
  obtain ⟨d1, d2, ed, y1, y2⟩ := td.split ht pt
  rw [e] at x1
  refine ⟨_, h.merge (y1.app ((x2.app x1).app y2)) ?_⟩
  rw [ec, ed]
  simp only [Sk, List.map_append]
  generalize c1.map (·.1) = A
  generalize c2.map (·.1) = B
  generalize d1.map (·.1) = C
  generalize d2.map (·.1) = E
  refine (List.perm_append_comm_assoc C (B ++ A) E).trans ?_
  exact List.perm_append_comm.append_right _
theorem Cov.deg : ∀ {u : List T3} {cs : List Tl} (p : Pt), Cov u cs → Pv.deg u p % 2 = (cs.flatMap fun c => [c.1, c.2.2]).count p % 2 := by
  intro u cs p
  induction cs generalizing u with
  | nil => intro h; rw [← deg_perm h.perm]; rfl
  | cons c cs ih =>
    intro h
    have i := ih (u := cs.flatMap fun c => Sk c.2.1) ⟨.refl _, fun d hd => h.tr d (.tail _ hd), fun d hd => h.ne d (.tail _ hd)⟩
    rw [← deg_perm h.perm]
    have e : Pv.deg ((c :: cs).flatMap fun c => Sk c.2.1) p = Pv.deg (Sk c.2.1) p + Pv.deg (cs.flatMap fun c => Sk c.2.1) p := List.countP_append
    have t := (h.tr c (.head _)).deg p
    rw [e]
    show _ = (c.1 :: c.2.2 :: cs.flatMap fun c => [c.1, c.2.2]).count p % 2
    rw [List.count_cons, List.count_cons]
    have b1 : (if (c.1 == p) = true then 1 else 0) = (if p = c.1 then 1 else 0 : Nat) := by
      by_cases z : p = c.1
      · rw [if_pos z, if_pos (by rw [z]; exact beq_self_eq_true _)]
      · rw [if_neg z, if_neg (fun y => z (eq_of_beq y).symm)]
    have b2 : (if (c.2.2 == p) = true then 1 else 0) = (if p = c.2.2 then 1 else 0 : Nat) := by
      by_cases z : p = c.2.2
      · rw [if_pos z, if_pos (by rw [z]; exact beq_self_eq_true _)]
      · rw [if_neg z, if_neg (fun y => z (eq_of_beq y).symm)]
    rw [b1, b2]
    omega
theorem ends_len : ∀ cs : List Tl, (cs.flatMap fun c => [c.1, c.2.2]).length = 2 * cs.length
  | [] => rfl
  | c :: cs => by
    show (c.1 :: c.2.2 :: cs.flatMap fun c => [c.1, c.2.2]).length = 2 * (cs.length + 1)
    rw [List.length_cons, List.length_cons, ends_len cs]
    omega
theorem ends_nd : ∀ {cs : List Tl}, cs.Pairwise Apd → (∀ c ∈ cs, c.1 ≠ c.2.2) → (cs.flatMap fun c => [c.1, c.2.2]).Nodup
  | [], _, _ => List.nodup_nil
  | c :: cs, h, o => by
    have h' := List.pairwise_cons.mp h
    have ih := ends_nd h'.2 fun d hd => o d (.tail _ hd)
    have far : ∀ x ∈ cs.flatMap (fun c => [c.1, c.2.2]), c.1 ≠ x ∧ c.2.2 ≠ x := by
      intro x hx
      obtain ⟨d, hd, hx⟩ := List.mem_flatMap.mp hx
      have a := h'.1 d hd
      simp only [List.mem_cons, List.not_mem_nil, or_false] at hx
      rcases hx with rfl | rfl
      · exact ⟨a.1, a.2.2.1⟩
      · exact ⟨a.2.1, a.2.2.2⟩
    show (c.1 :: c.2.2 :: cs.flatMap fun c => [c.1, c.2.2]).Nodup
    refine List.nodup_cons.mpr ⟨fun z => ?_, List.nodup_cons.mpr ⟨fun z => (far _ z).2 rfl, ih⟩⟩
    rcases List.mem_cons.mp z with z | z
    · exact o c (.head _) z
    · exact (far _ z).1 rfl
theorem Cov.best {u : List T3} (hn : u.Nodup) (hc : ∀ a ∈ u, ∀ b ∈ u, Conn u a b) : ∀ (n : Nat) (cs : List Tl), Cov u cs → cs.length ≤ n → ∃ ds, Cov u ds ∧ ds.length ≤ need u
  | 0, cs, h, l => ⟨cs, h, by omega⟩
  | n + 1, cs, h, l => by
    by_cases z : cs.length ≤ need u
    · exact ⟨cs, h, z⟩
    · have z1 : 1 ≤ need u := by unfold need; omega
      by_cases pw : cs.Pairwise Apd
      · by_cases cl : ∃ c ∈ cs, c.1 = c.2.2
        · obtain ⟨c, hcs, ec⟩ := cl
          obtain ⟨l1, l2, rfl⟩ := List.append_of_mem hcs
          have pm : (l1 ++ c :: l2).Perm (c :: (l1 ++ l2)) := List.perm_middle
          have h1 := h.swap pm
          have lq := pm.length_eq
          generalize l1 ++ l2 = rest at h1 lq
          rw [List.length_cons] at lq
          have np := h1.perm.nodup_iff.mpr hn
          have np' := List.nodup_append.mp (show (Sk c.2.1 ++ rest.flatMap fun c => Sk c.2.1).Nodup from np)
          have mem : ∀ t, t ∈ u → t ∈ Sk c.2.1 ∨ t ∈ rest.flatMap fun c => Sk c.2.1 := fun t ht => List.mem_append.mp (show t ∈ Sk c.2.1 ++ _ from h1.perm.mem_iff.mpr ht)
          obtain ⟨d0, hd0⟩ : ∃ d, d ∈ rest := by
            cases rest with
            | nil => exact absurd (show (l1 ++ c :: l2).length ≤ 1 by rw [lq]; exact Nat.le_refl _) (by omega)
            | cons d _ => exact ⟨d, .head _⟩
          obtain ⟨a, ha⟩ := List.exists_mem_of_ne_nil _ (show Sk c.2.1 ≠ [] from fun z => h1.ne c (.head _) (List.map_eq_nil_iff.mp z))
          obtain ⟨b, hb⟩ := List.exists_mem_of_ne_nil _ (show Sk d0.2.1 ≠ [] from fun z => h1.ne d0 (.tail _ hd0) (List.map_eq_nil_iff.mp z))
          have hb' : b ∈ rest.flatMap fun c => Sk c.2.1 := List.mem_flatMap.mpr ⟨d0, hd0, hb⟩
          have ua : a ∈ u := h1.perm.mem_iff.mp (List.mem_append.mpr (.inl ha))
          have ub : b ∈ u := h1.perm.mem_iff.mp (List.mem_append.mpr (.inr hb'))
          have ex : ∃ x ∈ Sk c.2.1, ∃ t ∈ u, tch x t ∧ t ∉ Sk c.2.1 := by
            apply Classical.byContradiction
            intro no
            have := (hc a ua b ub).cl (u := Sk c.2.1) (fun x hx t ht k => Classical.byContradiction fun q => no ⟨x, hx, t, ht, k, q⟩) ha
            exact np'.2.2 b this b hb' rfl
          obtain ⟨x, hx, t, ht, k, hnt⟩ := ex
          rcases mem t ht with y | y
          · exact absurd y hnt
          · obtain ⟨d, hd, td⟩ := List.mem_flatMap.mp y
            obtain ⟨m1, m2, rfl⟩ := List.append_of_mem hd
            have pm2 : (m1 ++ d :: m2).Perm (d :: (m1 ++ m2)) := List.perm_middle
            have h2 := h1.swap (pm2.cons c)
            obtain ⟨w, hw⟩ := h2.splice ec hx td k
            have lq2 := pm2.length_eq
            refine Cov.best hn hc n _ hw ?_
            rw [List.length_cons] at lq2 ⊢
            omega
        · have op : ∀ c ∈ cs, c.1 ≠ c.2.2 := fun c hc e => cl ⟨c, hc, e⟩
          have nd := ends_nd pw op
          have e : (Od u).Perm (cs.flatMap fun c => [c.1, c.2.2]) := (List.perm_ext_iff_of_nodup (Od_nd u) nd).mpr fun p => by
            rw [Od_mem, h.deg p]
            have c1 := List.nodup_iff_count.mp nd p
            have c2 := List.count_pos_iff (a := p) (l := cs.flatMap fun c => [c.1, c.2.2])
            constructor
            · intro y; exact c2.mp (by omega)
            · intro y; have := c2.mpr y; omega
          have := e.length_eq
          rw [ends_len] at this
          exfalso
          apply z
          unfold need
          omega
      · have ex : ∃ c d, [c, d].Sublist cs ∧ ¬ Apd c d := by
          apply Classical.byContradiction
          intro no
          exact pw (List.pairwise_iff_forall_sublist.mpr fun {c d} s => Classical.byContradiction fun q => no ⟨c, d, s, q⟩)
        obtain ⟨c, d, s, q⟩ := ex
        obtain ⟨rest, pm⟩ := s.exists_perm_append
        obtain ⟨w, hw⟩ := (h.swap (show cs.Perm (c :: d :: rest) from pm)).join q
        have lq := pm.length_eq
        refine Cov.best hn hc n _ hw ?_
        simp at lq ⊢
        omega
theorem cov_one (u : List T3) : Cov u (u.map fun s => (e0 s, [(s, false)], e1 s)) where
  perm := by
    rw [List.flatMap_map]
    show (u.flatMap fun s => [s]).Perm u
    rw [List.flatMap_singleton']
  tr := fun c hc => by
    obtain ⟨s, _, rfl⟩ := List.mem_map.mp hc
    exact .cons (s, false) (.nil _)
  ne := fun c hc => by
    obtain ⟨s, _, rfl⟩ := List.mem_map.mp hc
    exact List.cons_ne_nil _ _
theorem few_all : ∀ (us : List (List T3)), (∀ u ∈ us, ∃ q : List Or, (Sk q).Perm u ∧ J none q ≤ need u) → ∃ q : List Or, (Sk q).Perm us.flatten ∧ J none q ≤ needs us
  | [], _ => ⟨[], .refl _, Nat.le_refl _⟩
  | u :: us, h => by
    obtain ⟨q, e, l⟩ := h u (.head _)
    obtain ⟨r, e2, l2⟩ := few_all us fun v hv => h v (.tail _ hv)
    refine ⟨q ++ r, ?_, ?_⟩
    · rw [Sk, List.map_append]
      exact e.append e2
    · have := J_app none q r
      show _ ≤ need u + needs us
      omega
/-- the fewest -/
structure IsF (ts : List T3) (h : Option Pt) (n : Nat) : Prop where
  has : ∃ q : List Or, (Sk q).Perm ts ∧ J h q = n
  le : ∀ q : List Or, (Sk q).Perm ts → n ≤ J h q
theorem IsF.needs {ts : List T3} {us : List (List T3)} {n : Nat} (hn : ts.Nodup) (ip : IsP ts us) (f : IsF ts none n) : n = Pv.needs us := by
  obtain ⟨q, e, rfl⟩ := f.has
  apply Nat.le_antisymm
  · obtain ⟨r, e2, l⟩ := few_all us fun u hu => by
      obtain ⟨ds, h, l⟩ := Cov.best ((ip.two hn).1 u hu) (fun a ha b hb => (ip.self hu).co u (.head _) a ha b hb) _ _ (cov_one u) (Nat.le_refl _)
      obtain ⟨q, e, l2⟩ := h.J
      exact ⟨q, e, Nat.le_trans l2 l⟩
    exact Nat.le_trans (f.le r (e2.trans ip.perm)) l
  · exact J_needs us q ip.ne (ip.perm.nodup_iff.mpr hn) (ip.apart hn) (e.trans ip.perm.symm)
end Pv

namespace Mw
/-- a pen -/
noncomputable abbrev Pen := Int × Int × Int
noncomputable def cs (h : Int) : Int := if h = 0 then 1 else if h = 2 then -1 else 0
noncomputable def sn (h : Int) : Int := if h = 1 then 1 else if h = 3 then -1 else 0
noncomputable def led (p q : Pen) : Pen := (p.1 + q.1 * cs p.2.2 - q.2.1 * sn p.2.2, p.2.1 + q.1 * sn p.2.2 + q.2.1 * cs p.2.2, (p.2.2 + q.2.2) % 4)
noncomputable def st : Pen := (0, 0, 0)
/-- n times -/
noncomputable def pw (p : Pen) : Nat → Pen
  | 0 => st
  | n + 1 => led (pw p n) p
/-- the program's reckoning of n times -/
noncomputable def rep (p : Pen) (n : Int) : Pen := if p.2.2 = 0 then (p.1 * n, p.2.1 * n, 0) else pw p (n % 4).toNat
/-- a deed -/
inductive Dd where
  | go (n : Int) | jump (n : Int) | turn (n : Int) | times (n : Int) (w : List Dd)
noncomputable def G : Int := 99999999999999999999
mutual
noncomputable def dn : Dd → Int
  | .times n w => n * dns w
  | _ => 1
noncomputable def dns : List Dd → Int
  | [] => 0
  | d :: r => dn d + dns r
end
mutual
noncomputable def pd : Dd → Pen
  | .go n => (n, 0, 0)
  | .jump n => (n, 0, 0)
  | .turn n => (0, 0, n % 4)
  | .times n w => rep (pb w) n
noncomputable def pb : List Dd → Pen
  | [] => st
  | d :: r => led (pd d) (pb r)
end
end Mw

namespace Mw
/-! how far a pen comes -/
noncomputable def ab (x : Int) : Int := if x < 0 then -x else x
noncomputable def pm (p : Pen) : Int := max (ab p.1) (ab p.2.1)
end Mw

namespace Pv
open PySem
noncomputable abbrev k_WAYS : D := .ktp [.int 0, .int 1]
noncomputable def N_check_picture : List Str := ["picture", "stroke", "place"]
noncomputable def t_check_picture (sp_check_stroke : Sp3) : TS3 :=
  (seq3 (for3 (is3 (v3 0)) (gn3 1) (drop3 (call3 sp_check_stroke (cons3 (v3 1) nil3)))) (for3 (ir23 (cons3 (c3 (.int 1)) (cons3 (call3 lenR (cons3 (v3 0) nil3)) nil3))) (gn3 2) (ifs3 (b3 (o3 ge3R (o3 ixR (v3 0) (o3 subR (v3 2) (c3 (.int 1)))) (o3 ixR (v3 0) (v3 2)))) never3 next3)))
noncomputable def N_check_stroke : List Str := ["stroke"]
noncomputable def t_check_stroke : TS3 :=
  (ifs3 (or3 (b3 (o3 neR (call3 lenR (cons3 (v3 0) nil3)) (c3 (.int 3)))) (b3 (o3 (inR true) (o3 ixR (v3 0) (c3 (.int 2))) (c3 k_WAYS)))) never3 next3)
noncomputable def N_ends_of : List Str := ["stroke"]
noncomputable def t_ends_of : TS3 :=
  (seq3 (ifs3 (b3 (o3 eqR (o3 ixR (v3 0) (c3 (.int 2))) (c3 (.int 0)))) (ret3 (tup3 (cons3 (tup3 (cons3 (o3 ixR (v3 0) (c3 (.int 0))) (cons3 (o3 ixR (v3 0) (c3 (.int 1))) nil3))) (cons3 (tup3 (cons3 (o3 addR (o3 ixR (v3 0) (c3 (.int 0))) (c3 (.int 1))) (cons3 (o3 ixR (v3 0) (c3 (.int 1))) nil3))) nil3)))) next3) (ret3 (tup3 (cons3 (tup3 (cons3 (o3 ixR (v3 0) (c3 (.int 0))) (cons3 (o3 ixR (v3 0) (c3 (.int 1))) nil3))) (cons3 (tup3 (cons3 (o3 ixR (v3 0) (c3 (.int 0))) (cons3 (o3 addR (o3 ixR (v3 0) (c3 (.int 1))) (c3 (.int 1))) nil3))) nil3)))))
noncomputable def N_picture_pieces : List Str := ["picture", "at", "seen", "pieces", "stroke"]
noncomputable def t_picture_pieces (sp_check_picture : Sp3) (sp_piece_with : Sp3) (sp_strokes_at : Sp3) : TS3 :=
  (seq3 (drop3 (call3 sp_check_picture (cons3 (v3 0) nil3))) (seq3 (set3 1 (call3 sp_strokes_at (cons3 (v3 0) nil3))) (seq3 (set3 2 dnl3) (seq3 (set3 3 (lst3 nil3)) (seq3 (for3 (is3 (v3 0)) (gn3 4) (ifs3 (b3 (o3 (dinR true) (v3 4) (v3 2))) (drop3 (mt3 appR (v3 3) (cons3 (call3 sp_piece_with (cons3 (v3 4) (cons3 (v3 1) (cons3 (v3 2) nil3)))) nil3))) next3)) (ret3 (v3 3)))))))
noncomputable def N_strokes_at : List Str := ["picture", "at", "stroke", "point"]
noncomputable def t_strokes_at (sp_ends_of : Sp3) : TS3 :=
  (seq3 (set3 1 dnl3) (seq3 (for3 (is3 (v3 0)) (gn3 2) (for3 (is3 (call3 sp_ends_of (cons3 (v3 2) nil3))) (gn3 3) (drop3 (mt3 appR (sdf3 (v3 1) (cons3 (v3 3) (cons3 (lst3 nil3) nil3))) (cons3 (v3 2) nil3))))) (ret3 (v3 1))))
noncomputable def N_piece_with : List Str := ["stroke", "at", "seen", "piece", "place", "here", "point"]
noncomputable def t_piece_with (sp_ends_of : Sp3) (sp_take_unseen : Sp3) : TS3 :=
  (seq3 (dput3 (v3 2) (v3 0) (c3 (.bl true))) (seq3 (set3 3 (lst3 (cons3 (v3 0) nil3))) (seq3 (set3 4 (c3 (.int 0))) (seq3 (while3 (b3 (o3 ltR (v3 4) (call3 lenR (cons3 (v3 3) nil3)))) (seq3 (set3 5 (o3 ixR (v3 3) (v3 4))) (seq3 (for3 (is3 (call3 sp_ends_of (cons3 (v3 5) nil3))) (gn3 6) (drop3 (mt3 extR (v3 3) (cons3 (call3 sp_take_unseen (cons3 (o3 dgR (v3 1) (v3 6)) (cons3 (v3 2) nil3))) nil3)))) (set3 4 (o3 addR (v3 4) (c3 (.int 1))))))) (ret3 (call3 tupR (cons3 (call3 sortedR (cons3 (v3 3) nil3)) nil3)))))))
noncomputable def N_take_unseen : List Str := ["strokes", "seen", "taken", "stroke"]
noncomputable def t_take_unseen : TS3 :=
  (seq3 (set3 2 (comp3 [none, some 1] (is3 (v3 0)) (gn3 0) (b3 (o3 (dinR true) (v3 0) (v3 1))) (v3 0))) (seq3 (for3 (is3 (v3 2)) (gn3 3) (dput3 (v3 1) (v3 3) (c3 (.bl true)))) (ret3 (v3 2))))
noncomputable def N_odd_points : List Str := ["picture", "at"]
noncomputable def t_odd_points (sp_check_picture : Sp3) (sp_strokes_at : Sp3) : TS3 :=
  (seq3 (drop3 (call3 sp_check_picture (cons3 (v3 0) nil3))) (seq3 (set3 1 (call3 sp_strokes_at (cons3 (v3 0) nil3))) (ret3 (call3 srt2R (cons3 (comp3 [none, some 1] (isd3 (v3 1)) (gn3 0) (b3 (o3 eqR (o3 modR (call3 lenR (cons3 (o3 dgR (v3 1) (v3 0)) nil3)) (c3 (.int 2))) (c3 (.int 1)))) (v3 0)) nil3)))))
noncomputable def N_trails_needed : List Str := ["picture"]
noncomputable def t_trails_needed (sp_picture_pieces : Sp3) (sp_trails_of_piece_needed : Sp3) : TS3 :=
  (ret3 (call3 sumR (cons3 (comp3 [none] (is3 (call3 sp_picture_pieces (cons3 (v3 0) nil3))) (gn3 0) tt3 (call3 sp_trails_of_piece_needed (cons3 (v3 0) nil3))) nil3)))
noncomputable def N_trails_of_piece_needed : List Str := ["piece"]
noncomputable def t_trails_of_piece_needed (sp_odd_points : Sp3) : TS3 :=
  (ret3 (call3 mxR (cons3 (c3 (.int 1)) (cons3 (o3 fdivR (call3 lenR (cons3 (call3 sp_odd_points (cons3 (v3 0) nil3)) nil3)) (c3 (.int 2))) nil3))))
noncomputable def N__law_cell_at : List Str := ["script", "k"]
noncomputable def t__law_cell_at : TS3 :=
  (seq3 (ifs3 (b3 (o3 ltR (v3 1) (call3 lenR (cons3 (v3 0) nil3)))) (ret3 (o3 ixR (v3 0) (v3 1))) next3) (ret3 (c3 (.int 0))))
noncomputable def N__law_state : List Str := ["script", "k", "cell"]
noncomputable def t__law_state (sp__law_cell_at : Sp3) : TS3 :=
  (seq3 (set3 2 (call3 sp__law_cell_at (cons3 (v3 0) (cons3 (v3 1) nil3)))) (seq3 (ifs3 (b3 (o3 ge3R (v3 2) (o3 powR (c3 (.int 10)) (c3 (.int 18))))) (ret3 (lst3 (cons3 (o3 subR (v3 2) (o3 powR (c3 (.int 10)) (c3 (.int 18)))) (cons3 (c3 (.bl true)) nil3)))) next3) (ret3 (lst3 (cons3 (o3 modR (v3 2) (c3 (.int 2147483647))) (cons3 (c3 (.bl false)) nil3))))))
noncomputable def N__law_choice : List Str := ["state", "many", "found", "mixed"]
noncomputable def t__law_choice : TS3 :=
  (seq3 (ifs3 (b3 (o3 ixR (v3 0) (c3 (.int 1)))) (seq3 (set3 2 (o3 modR (o3 ixR (v3 0) (c3 (.int 0))) (v3 1))) (seq3 (asg3 (o3 fdivR (o3 ixR (v3 0) (c3 (.int 0))) (v3 1)) (sub3 (v3 0) (c3 (.int 0)))) (ret3 (v3 2)))) next3) (seq3 (asg3 (o3 modR (o3 addR (o3 mulR (o3 ixR (v3 0) (c3 (.int 0))) (c3 (.int 48271))) (c3 (.int 29))) (c3 (.int 2147483647))) (sub3 (v3 0) (c3 (.int 0)))) (seq3 (set3 3 (o3 modR (o3 addR (o3 addR (o3 mulR (o3 ixR (v3 0) (c3 (.int 0))) (o3 ixR (v3 0) (c3 (.int 0)))) (o3 mulR (c3 (.int 39373)) (o3 ixR (v3 0) (c3 (.int 0))))) (c3 (.int 7))) (c3 (.int 2147483629)))) (seq3 (set3 3 (o3 modR (o3 addR (o3 mulR (v3 3) (v3 3)) (o3 mulR (c3 (.int 16807)) (v3 3))) (c3 (.int 2147483587)))) (ret3 (o3 modR (o3 fdivR (v3 3) (c3 (.int 8))) (v3 1)))))))
noncomputable def N__law_dense : List Str := ["state", "most", "found", "wide", "k"]
noncomputable def t__law_dense (sp__law_choice : Sp3) : TS3 :=
  (seq3 (set3 2 dnew3) (seq3 (set3 3 (o3 addR (c3 (.int 2)) (call3 sp__law_choice (cons3 (v3 0) (cons3 (c3 (.int 3)) nil3))))) (seq3 (for3 (ir3 (cons3 (call3 sp__law_choice (cons3 (v3 0) (cons3 (o3 addR (v3 1) (c3 (.int 1))) nil3))) nil3)) (gn3 4) (dset3 (v3 2) (cons3 (call3 sp__law_choice (cons3 (v3 0) (cons3 (v3 3) nil3))) (cons3 (call3 sp__law_choice (cons3 (v3 0) (cons3 (v3 3) nil3))) (cons3 (call3 sp__law_choice (cons3 (v3 0) (cons3 (c3 (.int 2)) nil3))) nil3))) (c3 (.bl true)))) (ret3 (call3 tupR (cons3 (call3 sortedR (cons3 (v3 2) nil3)) nil3))))))
noncomputable def N__law_ends : List Str := ["stroke", "x", "y", "way"]
noncomputable def t__law_ends : TS3 :=
  (seq3 (asg3 (v3 0) (gtup3 3 (gcons3 (gn3 1) (gcons3 (gn3 2) (gcons3 (gn3 3) gnil3))))) (ret3 (tup3 (cons3 (tup3 (cons3 (v3 1) (cons3 (v3 2) nil3))) (cons3 (tup3 (cons3 (o3 subR (o3 addR (v3 1) (c3 (.int 1))) (v3 3)) (cons3 (o3 addR (v3 2) (v3 3)) nil3))) nil3)))))
noncomputable def N__law_fewest : List Str := ["left", "here", "best", "stroke", "rest", "ends", "k", "more"]
noncomputable def t__law_fewest (sp__law_ends : Sp3) (sp__law_fewest : Sp3) : TS3 :=
  (seq3 (ifs3 (b3 (o3 eqR (v3 0) (lst3 nil3))) (ret3 (c3 (.int 0))) next3) (seq3 (set3 2 (o3 addR (call3 lenR (cons3 (v3 0) nil3)) (c3 (.int 1)))) (seq3 (for3 (is3 (v3 0)) (gn3 3) (seq3 (set3 4 (comp3 [none, some 3] (is3 (v3 0)) (gn3 0) (b3 (o3 neR (v3 0) (v3 1))) (v3 0))) (seq3 (set3 5 (call3 sp__law_ends (cons3 (v3 3) nil3))) (for3 (ir3 (cons3 (c3 (.int 2)) nil3)) (gn3 6) (seq3 (set3 7 (call3 intR (cons3 (o3 neR (o3 ixR (v3 5) (v3 6)) (v3 1)) nil3))) (ifs3 (b3 (o3 ltR (v3 7) (v3 2))) (set3 2 (call3 min2R (cons3 (v3 2) (cons3 (o3 addR (v3 7) (call3 sp__law_fewest (cons3 (v3 4) (cons3 (o3 ixR (v3 5) (o3 subR (c3 (.int 1)) (v3 6))) nil3)))) nil3)))) next3)))))) (ret3 (v3 2)))))
noncomputable def N_law : List Str := ["script", "state", "picture"]
noncomputable def t_law_r2 (sp__law_dense : Sp3) (sp__law_fewest : Sp3) (sp__law_state : Sp3) (sp_trails_needed : Sp3) : TS3 :=
  (ret3 (o3 eqR (call3 sp_trails_needed (cons3 (v3 2) nil3)) (call3 sp__law_fewest (cons3 (call3 listR (cons3 (v3 2) nil3)) (cons3 (c3 .non) nil3)))))
noncomputable def t_law_r1 (sp__law_dense : Sp3) (sp__law_fewest : Sp3) (sp__law_state : Sp3) (sp_trails_needed : Sp3) : TS3 :=
  (seq3 (set3 2 (call3 sp__law_dense (cons3 (v3 1) (cons3 (c3 (.int 5)) nil3)))) (t_law_r2 sp__law_dense sp__law_fewest sp__law_state sp_trails_needed))
noncomputable def t_law (sp__law_dense : Sp3) (sp__law_fewest : Sp3) (sp__law_state : Sp3) (sp_trails_needed : Sp3) : TS3 :=
  (seq3 (set3 1 (call3 sp__law_state (cons3 (v3 0) (cons3 (c3 (.int 0)) nil3)))) (t_law_r1 sp__law_dense sp__law_fewest sp__law_state sp_trails_needed))
end Pv

namespace Pv
open PySem Mw
theorem kn_go_jump : ((("go" : Str) = ("jump" : Str)) = False) := eq_false (by decide)
theorem kn_go_turn : ((("go" : Str) = ("turn" : Str)) = False) := eq_false (by decide)
theorem kn_go_times : ((("go" : Str) = ("times" : Str)) = False) := eq_false (by decide)
theorem kn_jump_go : ((("jump" : Str) = ("go" : Str)) = False) := eq_false (by decide)
theorem kn_jump_turn : ((("jump" : Str) = ("turn" : Str)) = False) := eq_false (by decide)
theorem kn_jump_times : ((("jump" : Str) = ("times" : Str)) = False) := eq_false (by decide)
theorem kn_turn_go : ((("turn" : Str) = ("go" : Str)) = False) := eq_false (by decide)
theorem kn_turn_jump : ((("turn" : Str) = ("jump" : Str)) = False) := eq_false (by decide)
theorem kn_turn_times : ((("turn" : Str) = ("times" : Str)) = False) := eq_false (by decide)
theorem kn_times_go : ((("times" : Str) = ("go" : Str)) = False) := eq_false (by decide)
theorem kn_times_jump : ((("times" : Str) = ("jump" : Str)) = False) := eq_false (by decide)
theorem kn_times_turn : ((("times" : Str) = ("turn" : Str)) = False) := eq_false (by decide)
theorem kp_go : (["go", "jump", "turn"] : List Str).contains "go" = true := by decide
theorem kp_jump : (["go", "jump", "turn"] : List Str).contains "jump" = true := by decide
theorem kp_turn : (["go", "jump", "turn"] : List Str).contains "turn" = true := by decide
theorem kp_times : (["go", "jump", "turn"] : List Str).contains "times" = false := by decide
theorem kz_go : (["go", "times"] : List Str).contains "go" = true := by decide
theorem kz_jump : (["go", "times"] : List Str).contains "jump" = false := by decide
theorem kz_turn : (["go", "times"] : List Str).contains "turn" = false := by decide
theorem kz_times : (["go", "times"] : List Str).contains "times" = true := by decide
theorem cst0 : ((0 : Nat) : Int) = 0 := rfl
theorem cst1 : ((1 : Nat) : Int) = 1 := rfl
theorem cst2 : ((2 : Nat) : Int) = 2 := rfl
theorem cst3 : ((3 : Nat) : Int) = 3 := rfl
/-! pictures -/
noncomputable def wy (s : T3) : Prop := s.2.2 = 0 ∨ s.2.2 = 1
noncomputable def gx (s : T3) : Int := s.1 + 1 - s.2.2
noncomputable def gy (s : T3) : Int := s.2.1 + s.2.2
noncomputable def encQ (p : Int × Int) : D := .tup [.int p.1, .int p.2]
noncomputable def decT (d : D) : T3 := (t3? d).getD (0, 0, 0)
theorem z2 : 2 ≤ sizeLine := by decide
theorem z3 : 3 ≤ sizeLine := by decide
noncomputable def spEnds : Sp3 := fun ds μ Q => ∃ s, ds = [encT s] ∧ wy s ∧ Q (.tup [encQ (s.1, s.2.1), encQ (gx s, gy s)]) μ
theorem rd_ends_of (ds : List D) (μ : Mu) (Q : VK3) (h : spEnds ds μ Q) : t_ends_of { nx := fun _ μ' => Q .non μ', rt := Q } (start3 N_ends_of ds) μ := by
  obtain ⟨⟨x, y, w⟩, rfl, hw, q⟩ := h
  rcases hw with e | e
  · dsimp only at e; subst e
    simp only [gx, gy, Int.sub_zero, Int.add_zero] at q
    exact ⟨z2, z2, z2, q⟩
  · dsimp only at e; subst e
    simp only [gx, gy, Int.add_sub_cancel] at q
    exact ⟨z2, z2, z2, q⟩
noncomputable def spChkS : Sp3 := fun ds μ Q => ∃ s, ds = [encT s] ∧ wy s ∧ Q .non μ
theorem rd_check_stroke (ds : List D) (μ : Mu) (Q : VK3) (h : spChkS ds μ Q) : t_check_stroke { nx := fun _ μ' => Q .non μ', rt := Q } (start3 N_check_stroke ds) μ := by
  obtain ⟨⟨x, y, w⟩, rfl, hw, q⟩ := h
  rcases hw with e | e
  · dsimp only at e; subst e
    simp only [Pv.seq3, Pv.next3, Pv.never3, Pv.brk3, Pv.cnt3, Pv.drop3, Pv.ret3, Pv.retN3, Pv.ifs3, Pv.gn3, Pv.gnil3, Pv.gcons3, Pv.gtup3, Pv.set3, Pv.asg3, Pv.par3, Pv.sub3, Pv.for3, Pv.is3, Pv.ir3, Pv.ir23, Pv.v3, Pv.c3, Pv.o3, Pv.un3, Pv.b3, Pv.and3, Pv.or3, Pv.not3, Pv.andV3, Pv.orV3, Pv.notV3, Pv.if3, Pv.nil3, Pv.cons3, Pv.tup3, Pv.lst3, Pv.call3, Pv.mt3, Pv.comp3, Pv.tt3, Pv.getI, List.set_cons_zero, List.set_cons_succ, Pv.int2, Pv.int20, Pv.subR, Pv.mulR, Pv.intR, Pv.sl3, Pv.np3, Pv.pt3, Pv.slR, Pv.modR, Pv.fdivR, Pv.powR, Pv.ltR, Pv.leR, Pv.gtR, Pv.geR, Pv.negR, Pv.addR, Pv.eqR_ii, Pv.eqR_ss, Pv.eqR_bb, Pv.eqR_is, Pv.neR_ii, Pv.neR_ss, Pv.neR_bb, Pv.inR, Pv.ixR, Pv.lenR, Pv.absR, Pv.tupR, Pv.sumR, Pv.tyN, Pv.isIn, Pv.isiR, Pv.appR, Pv.extR, Pv.smt3, Pv.joinR, Pv.splitR, Pv.startsR, Pv.pop3, Pv.lrev3, Pv.strR, Pv.start3, List.map_cons, List.map_nil, List.cons_append, List.nil_append, List.length_cons, List.length_nil, List.replicate, Pv.atI0, Pv.atI1, Pv.atI2, Nat.reduceAdd, Nat.reduceSub, Nat.zero_add, reduceIte, Pv.strs?, Bool.not_true, Bool.not_false, Bool.false_eq_true, if_false, if_true, decide_eq_true_eq, Bool.not_eq_true', decide_eq_false_iff_not, Pv.ixN0, Pv.ixN1, Pv.ixN2, true_and, and_true, Pv.cst0, Pv.cst1, Pv.cst2, Pv.cst3, Int.reduceEq, Option.bind_none, Option.bind_some, Pv.kn_go_jump, Pv.kn_go_turn, Pv.kn_go_times, Pv.kn_jump_go, Pv.kn_jump_turn, Pv.kn_jump_times, Pv.kn_turn_go, Pv.kn_turn_jump, Pv.kn_turn_times, Pv.kn_times_go, Pv.kn_times_jump, Pv.kn_times_turn, Pv.kp_go, Pv.kp_jump, Pv.kp_turn, Pv.kp_times, Pv.kz_go, Pv.kz_jump, Pv.kz_turn, Pv.kz_times, t_check_stroke, N_check_stroke, encT, k_WAYS]
    simp [inD, datM, dat, dats, PyData.eqv, PyData.depth, PyData.depthAll]
    exact q
  · dsimp only at e; subst e
    simp only [Pv.seq3, Pv.next3, Pv.never3, Pv.brk3, Pv.cnt3, Pv.drop3, Pv.ret3, Pv.retN3, Pv.ifs3, Pv.gn3, Pv.gnil3, Pv.gcons3, Pv.gtup3, Pv.set3, Pv.asg3, Pv.par3, Pv.sub3, Pv.for3, Pv.is3, Pv.ir3, Pv.ir23, Pv.v3, Pv.c3, Pv.o3, Pv.un3, Pv.b3, Pv.and3, Pv.or3, Pv.not3, Pv.andV3, Pv.orV3, Pv.notV3, Pv.if3, Pv.nil3, Pv.cons3, Pv.tup3, Pv.lst3, Pv.call3, Pv.mt3, Pv.comp3, Pv.tt3, Pv.getI, List.set_cons_zero, List.set_cons_succ, Pv.int2, Pv.int20, Pv.subR, Pv.mulR, Pv.intR, Pv.sl3, Pv.np3, Pv.pt3, Pv.slR, Pv.modR, Pv.fdivR, Pv.powR, Pv.ltR, Pv.leR, Pv.gtR, Pv.geR, Pv.negR, Pv.addR, Pv.eqR_ii, Pv.eqR_ss, Pv.eqR_bb, Pv.eqR_is, Pv.neR_ii, Pv.neR_ss, Pv.neR_bb, Pv.inR, Pv.ixR, Pv.lenR, Pv.absR, Pv.tupR, Pv.sumR, Pv.tyN, Pv.isIn, Pv.isiR, Pv.appR, Pv.extR, Pv.smt3, Pv.joinR, Pv.splitR, Pv.startsR, Pv.pop3, Pv.lrev3, Pv.strR, Pv.start3, List.map_cons, List.map_nil, List.cons_append, List.nil_append, List.length_cons, List.length_nil, List.replicate, Pv.atI0, Pv.atI1, Pv.atI2, Nat.reduceAdd, Nat.reduceSub, Nat.zero_add, reduceIte, Pv.strs?, Bool.not_true, Bool.not_false, Bool.false_eq_true, if_false, if_true, decide_eq_true_eq, Bool.not_eq_true', decide_eq_false_iff_not, Pv.ixN0, Pv.ixN1, Pv.ixN2, true_and, and_true, Pv.cst0, Pv.cst1, Pv.cst2, Pv.cst3, Int.reduceEq, Option.bind_none, Option.bind_some, Pv.kn_go_jump, Pv.kn_go_turn, Pv.kn_go_times, Pv.kn_jump_go, Pv.kn_jump_turn, Pv.kn_jump_times, Pv.kn_turn_go, Pv.kn_turn_jump, Pv.kn_turn_times, Pv.kn_times_go, Pv.kn_times_jump, Pv.kn_times_turn, Pv.kp_go, Pv.kp_jump, Pv.kp_turn, Pv.kp_times, Pv.kz_go, Pv.kz_jump, Pv.kz_turn, Pv.kz_times, t_check_stroke, N_check_stroke, encT, k_WAYS]
    simp [inD, datM, dat, dats, PyData.eqv, PyData.depth, PyData.depthAll]
    exact q
noncomputable def Lt (a b : T3) : Prop := lt3 a b = true
noncomputable def Pc (ts : List T3) : Prop := ts.Pairwise Lt ∧ (∀ t ∈ ts, wy t) ∧ ts.length < 60
theorem atI_enc {ts : List T3} {i : Int} (h0 : 0 ≤ i) (h1 : i < ts.length) : ∃ h : i.toNat < ts.length, atI (ts.map encT) i = some (encT ts[i.toNat]) := by
  have h2 : i.toNat < ts.length := by omega
  refine ⟨h2, ?_⟩
  unfold atI ixN
  rw [if_pos h0, if_pos (by rw [List.length_map]; omega)]
  simp [List.getElem?_eq_getElem h2]
noncomputable def spChkP : Sp3 := fun ds μ Q => ∃ ts, ds = [.tup (ts.map encT)] ∧ Pc ts ∧ Q .non μ
theorem rd_check_picture (ds : List D) (μ : Mu) (Q : VK3) (h : spChkP ds μ Q) : t_check_picture spChkS { nx := fun _ μ' => Q .non μ', rt := Q } (start3 N_check_picture ds) μ := by
  obtain ⟨ts, rfl, ⟨h1, h2, h3⟩, q⟩ := h
  refine for_inv (fun l ρ μ' => μ' = μ ∧ ∃ (us : List T3) (dd : Option D), l = us.map encT ∧ (∀ t ∈ us, wy t) ∧ ρ = [some (.tup (ts.map encT)), dd, none]) ?_ (fun _ _ _ _ => trivial) ?_ ?_
  · exact ⟨rfl, ts, none, rfl, h2, rfl⟩
  · rintro ρ μ' ⟨rfl, us, dd, e, _, rfl⟩
    simp only [Pv.seq3, Pv.next3, Pv.never3, Pv.brk3, Pv.cnt3, Pv.drop3, Pv.ret3, Pv.retN3, Pv.ifs3, Pv.gn3, Pv.gnil3, Pv.gcons3, Pv.gtup3, Pv.set3, Pv.asg3, Pv.par3, Pv.sub3, Pv.for3, Pv.is3, Pv.ir3, Pv.ir23, Pv.v3, Pv.c3, Pv.o3, Pv.un3, Pv.b3, Pv.and3, Pv.or3, Pv.not3, Pv.andV3, Pv.orV3, Pv.notV3, Pv.if3, Pv.nil3, Pv.cons3, Pv.tup3, Pv.lst3, Pv.call3, Pv.mt3, Pv.comp3, Pv.tt3, Pv.getI, List.set_cons_zero, List.set_cons_succ, Pv.int2, Pv.int20, Pv.subR, Pv.mulR, Pv.intR, Pv.sl3, Pv.np3, Pv.pt3, Pv.slR, Pv.modR, Pv.fdivR, Pv.powR, Pv.ltR, Pv.leR, Pv.gtR, Pv.geR, Pv.negR, Pv.addR, Pv.eqR_ii, Pv.eqR_ss, Pv.eqR_bb, Pv.eqR_is, Pv.neR_ii, Pv.neR_ss, Pv.neR_bb, Pv.inR, Pv.ixR, Pv.lenR, Pv.absR, Pv.tupR, Pv.sumR, Pv.tyN, Pv.isIn, Pv.isiR, Pv.appR, Pv.extR, Pv.smt3, Pv.joinR, Pv.splitR, Pv.startsR, Pv.pop3, Pv.lrev3, Pv.strR, Pv.start3, List.map_cons, List.map_nil, List.cons_append, List.nil_append, List.length_cons, List.length_nil, List.replicate, Pv.atI0, Pv.atI1, Pv.atI2, Nat.reduceAdd, Nat.reduceSub, Nat.zero_add, reduceIte, Pv.strs?, Bool.not_true, Bool.not_false, Bool.false_eq_true, if_false, if_true, decide_eq_true_eq, Bool.not_eq_true', decide_eq_false_iff_not, Pv.ixN0, Pv.ixN1, Pv.ixN2, true_and, and_true, Pv.cst0, Pv.cst1, Pv.cst2, Pv.cst3, Int.reduceEq, Option.bind_none, Option.bind_some, Pv.kn_go_jump, Pv.kn_go_turn, Pv.kn_go_times, Pv.kn_jump_go, Pv.kn_jump_turn, Pv.kn_jump_times, Pv.kn_turn_go, Pv.kn_turn_jump, Pv.kn_turn_times, Pv.kn_times_go, Pv.kn_times_jump, Pv.kn_times_turn, Pv.kp_go, Pv.kp_jump, Pv.kp_turn, Pv.kp_times, Pv.kz_go, Pv.kz_jump, Pv.kz_turn, Pv.kz_times, cst0]
    refine ⟨⟨by decide, by decide, by rw [List.length_map]; omega, by rw [List.length_map]; omega⟩, ?_⟩
    refine for_inv (fun l ρ ν => ν = μ' ∧ ∃ (k : Nat) (pp : Option D), l = rngD (1 + (k : Int)) (ts.length - 1 - k) ∧ ρ = [some (.tup (ts.map encT)), dd, pp]) ?_ (fun _ _ _ _ => trivial) ?_ ?_
    · refine ⟨rfl, 0, none, ?_, rfl⟩
      rw [List.length_map, show ((ts.length : Int) - 1).toNat = ts.length - 1 - 0 by omega]
      simp
    · rintro ρ μ2 ⟨rfl, k, pp, _, rfl⟩
      exact q
    · rintro x rest ρ μ2 ⟨rfl, k, pp, e, rfl⟩
      cases n : ts.length - 1 - k with
      | zero => rw [n] at e; simp [rngD] at e
      | succ m =>
        rw [n, rngD_succ] at e
        simp only [List.cons.injEq] at e
        obtain ⟨rfl, rfl⟩ := e
        obtain ⟨b1, e1⟩ := atI_enc (ts := ts) (i := 1 + (k : Int) - 1) (by omega) (by omega)
        obtain ⟨b2, e2⟩ := atI_enc (ts := ts) (i := 1 + (k : Int)) (by omega) (by omega)
        have lt : lt3 ts[(1 + (k : Int) - 1).toNat] ts[(1 + (k : Int)).toNat] = true := List.pairwise_iff_getElem.mp h1 _ _ b1 b2 (by omega)
        simp only [Pv.seq3, Pv.next3, Pv.never3, Pv.brk3, Pv.cnt3, Pv.drop3, Pv.ret3, Pv.retN3, Pv.ifs3, Pv.gn3, Pv.gnil3, Pv.gcons3, Pv.gtup3, Pv.set3, Pv.asg3, Pv.par3, Pv.sub3, Pv.for3, Pv.is3, Pv.ir3, Pv.ir23, Pv.v3, Pv.c3, Pv.o3, Pv.un3, Pv.b3, Pv.and3, Pv.or3, Pv.not3, Pv.andV3, Pv.orV3, Pv.notV3, Pv.if3, Pv.nil3, Pv.cons3, Pv.tup3, Pv.lst3, Pv.call3, Pv.mt3, Pv.comp3, Pv.tt3, Pv.getI, List.set_cons_zero, List.set_cons_succ, Pv.int2, Pv.int20, Pv.subR, Pv.mulR, Pv.intR, Pv.sl3, Pv.np3, Pv.pt3, Pv.slR, Pv.modR, Pv.fdivR, Pv.powR, Pv.ltR, Pv.leR, Pv.gtR, Pv.geR, Pv.negR, Pv.addR, Pv.eqR_ii, Pv.eqR_ss, Pv.eqR_bb, Pv.eqR_is, Pv.neR_ii, Pv.neR_ss, Pv.neR_bb, Pv.inR, Pv.ixR, Pv.lenR, Pv.absR, Pv.tupR, Pv.sumR, Pv.tyN, Pv.isIn, Pv.isiR, Pv.appR, Pv.extR, Pv.smt3, Pv.joinR, Pv.splitR, Pv.startsR, Pv.pop3, Pv.lrev3, Pv.strR, Pv.start3, List.map_cons, List.map_nil, List.cons_append, List.nil_append, List.length_cons, List.length_nil, List.replicate, Pv.atI0, Pv.atI1, Pv.atI2, Nat.reduceAdd, Nat.reduceSub, Nat.zero_add, reduceIte, Pv.strs?, Bool.not_true, Bool.not_false, Bool.false_eq_true, if_false, if_true, decide_eq_true_eq, Bool.not_eq_true', decide_eq_false_iff_not, Pv.ixN0, Pv.ixN1, Pv.ixN2, true_and, and_true, Pv.cst0, Pv.cst1, Pv.cst2, Pv.cst3, Int.reduceEq, Option.bind_none, Option.bind_some, Pv.kn_go_jump, Pv.kn_go_turn, Pv.kn_go_times, Pv.kn_jump_go, Pv.kn_jump_turn, Pv.kn_jump_times, Pv.kn_turn_go, Pv.kn_turn_jump, Pv.kn_turn_times, Pv.kn_times_go, Pv.kn_times_jump, Pv.kn_times_turn, Pv.kp_go, Pv.kp_jump, Pv.kp_turn, Pv.kp_times, Pv.kz_go, Pv.kz_jump, Pv.kz_turn, Pv.kz_times, e1, e2, encT, ge3R, lt]
        refine ⟨k + 1, _, ?_, rfl⟩
        rw [show ts.length - 1 - (k + 1) = m by omega]
        congr 1
  · rintro x rest ρ μ' ⟨rfl, us, dd, e, hw, rfl⟩
    cases us with
    | nil => cases e
    | cons t us =>
      rw [List.map_cons] at e
      injection e with e1 e2
      subst e1 e2
      exact ⟨t, rfl, hw t (List.mem_cons_self ..), rfl, us, _, rfl, fun s hs => hw s (List.mem_cons_of_mem _ hs), rfl⟩
theorem srt_l {p : Addr} {ts : List T3} {μ : Mu} {Q : VK3} (h : μ p = some (.lst (ts.map encT))) (h64 : ts.length < 64) (k : ∀ us : List T3, us.Perm ts → us.Pairwise le3 → ∀ r, μ r = none → Q (.ref r) (updM μ r (.lst (us.map encT)))) : sortedR [.ref p] μ Q := by
  refine Or.inl ?_
  unfold srtR
  simp only [h, t3s_enc]
  exact ⟨h64, k⟩
theorem srt_d {p : Addr} {kvs : List (T3 × D)} {μ : Mu} {Q : VK3} (h : μ p = some (.dct kvs)) (h64 : kvs.length < 64) (k : ∀ us : List T3, us.Perm (kvs.map (·.1)) → us.Pairwise le3 → ∀ r, μ r = none → Q (.ref r) (updM μ r (.lst (us.map encT)))) : sortedR [.ref p] μ Q := by
  refine Or.inr ?_
  unfold srtDR
  simp only [h]
  exact ⟨h64, k⟩
theorem tup_l {p : Addr} {l : List D} {μ : Mu} {Q : VK3} (h : μ p = some (.lst l)) (k : Q (.tup l) μ) : tupR [.ref p] μ Q := by
  unfold tupR
  simp only [h]
  exact k
noncomputable def spLe : Sp3 := fun ds μ Q => ∃ s, ds = [encT s] ∧ Q (.tup [encQ (s.1, s.2.1), encQ (gx s, gy s)]) μ
theorem rd__law_ends (ds : List D) (μ : Mu) (Q : VK3) (h : spLe ds μ Q) : t__law_ends { nx := fun _ μ' => Q .non μ', rt := Q } (start3 N__law_ends ds) μ := by
  obtain ⟨s, rfl, q⟩ := h
  simp only [Pv.seq3, Pv.next3, Pv.never3, Pv.brk3, Pv.cnt3, Pv.drop3, Pv.ret3, Pv.retN3, Pv.ifs3, Pv.gn3, Pv.gnil3, Pv.gcons3, Pv.gtup3, Pv.set3, Pv.asg3, Pv.par3, Pv.sub3, Pv.for3, Pv.is3, Pv.ir3, Pv.ir23, Pv.v3, Pv.c3, Pv.o3, Pv.un3, Pv.b3, Pv.and3, Pv.or3, Pv.not3, Pv.andV3, Pv.orV3, Pv.notV3, Pv.if3, Pv.nil3, Pv.cons3, Pv.tup3, Pv.lst3, Pv.call3, Pv.mt3, Pv.comp3, Pv.tt3, Pv.getI, List.set_cons_zero, List.set_cons_succ, Pv.int2, Pv.int20, Pv.subR, Pv.mulR, Pv.intR, Pv.sl3, Pv.np3, Pv.pt3, Pv.slR, Pv.modR, Pv.fdivR, Pv.powR, Pv.ltR, Pv.leR, Pv.gtR, Pv.geR, Pv.negR, Pv.addR, Pv.eqR_ii, Pv.eqR_ss, Pv.eqR_bb, Pv.eqR_is, Pv.neR_ii, Pv.neR_ss, Pv.neR_bb, Pv.inR, Pv.ixR, Pv.lenR, Pv.absR, Pv.tupR, Pv.sumR, Pv.tyN, Pv.isIn, Pv.isiR, Pv.appR, Pv.extR, Pv.smt3, Pv.joinR, Pv.splitR, Pv.startsR, Pv.pop3, Pv.lrev3, Pv.strR, Pv.start3, List.map_cons, List.map_nil, List.cons_append, List.nil_append, List.length_cons, List.length_nil, List.replicate, Pv.atI0, Pv.atI1, Pv.atI2, Nat.reduceAdd, Nat.reduceSub, Nat.zero_add, reduceIte, Pv.strs?, Bool.not_true, Bool.not_false, Bool.false_eq_true, if_false, if_true, decide_eq_true_eq, Bool.not_eq_true', decide_eq_false_iff_not, Pv.ixN0, Pv.ixN1, Pv.ixN2, true_and, and_true, Pv.cst0, Pv.cst1, Pv.cst2, Pv.cst3, Int.reduceEq, Option.bind_none, Option.bind_some, Pv.kn_go_jump, Pv.kn_go_turn, Pv.kn_go_times, Pv.kn_jump_go, Pv.kn_jump_turn, Pv.kn_jump_times, Pv.kn_turn_go, Pv.kn_turn_jump, Pv.kn_turn_times, Pv.kn_times_go, Pv.kn_times_jump, Pv.kn_times_turn, Pv.kp_go, Pv.kp_jump, Pv.kp_turn, Pv.kp_times, Pv.kz_go, Pv.kz_jump, Pv.kz_turn, Pv.kz_times, t__law_ends, N__law_ends, encT]
  exact ⟨z2, z2, z2, q⟩
noncomputable def spCell : Sp3 := fun ds μ Q => ∃ (ns : List Int) (k : Int), ds = [.fls (ns.map D.int), .int k] ∧ 0 ≤ k ∧ ∀ i, Q (.int i) μ
theorem rd__law_cell_at (ds : List D) (μ : Mu) (Q : VK3) (h : spCell ds μ Q) : t__law_cell_at { nx := fun _ μ' => Q .non μ', rt := Q } (start3 N__law_cell_at ds) μ := by
  obtain ⟨ns, k, rfl, hk, q⟩ := h
  simp only [Pv.seq3, Pv.next3, Pv.never3, Pv.brk3, Pv.cnt3, Pv.drop3, Pv.ret3, Pv.retN3, Pv.ifs3, Pv.gn3, Pv.gnil3, Pv.gcons3, Pv.gtup3, Pv.set3, Pv.asg3, Pv.par3, Pv.sub3, Pv.for3, Pv.is3, Pv.ir3, Pv.ir23, Pv.v3, Pv.c3, Pv.o3, Pv.un3, Pv.b3, Pv.and3, Pv.or3, Pv.not3, Pv.andV3, Pv.orV3, Pv.notV3, Pv.if3, Pv.nil3, Pv.cons3, Pv.tup3, Pv.lst3, Pv.call3, Pv.mt3, Pv.comp3, Pv.tt3, Pv.getI, List.set_cons_zero, List.set_cons_succ, Pv.int2, Pv.int20, Pv.subR, Pv.mulR, Pv.intR, Pv.sl3, Pv.np3, Pv.pt3, Pv.slR, Pv.modR, Pv.fdivR, Pv.powR, Pv.ltR, Pv.leR, Pv.gtR, Pv.geR, Pv.negR, Pv.addR, Pv.eqR_ii, Pv.eqR_ss, Pv.eqR_bb, Pv.eqR_is, Pv.neR_ii, Pv.neR_ss, Pv.neR_bb, Pv.inR, Pv.ixR, Pv.lenR, Pv.absR, Pv.tupR, Pv.sumR, Pv.tyN, Pv.isIn, Pv.isiR, Pv.appR, Pv.extR, Pv.smt3, Pv.joinR, Pv.splitR, Pv.startsR, Pv.pop3, Pv.lrev3, Pv.strR, Pv.start3, List.map_cons, List.map_nil, List.cons_append, List.nil_append, List.length_cons, List.length_nil, List.replicate, Pv.atI0, Pv.atI1, Pv.atI2, Nat.reduceAdd, Nat.reduceSub, Nat.zero_add, reduceIte, Pv.strs?, Bool.not_true, Bool.not_false, Bool.false_eq_true, if_false, if_true, decide_eq_true_eq, Bool.not_eq_true', decide_eq_false_iff_not, Pv.ixN0, Pv.ixN1, Pv.ixN2, true_and, and_true, Pv.cst0, Pv.cst1, Pv.cst2, Pv.cst3, Int.reduceEq, Option.bind_none, Option.bind_some, Pv.kn_go_jump, Pv.kn_go_turn, Pv.kn_go_times, Pv.kn_jump_go, Pv.kn_jump_turn, Pv.kn_jump_times, Pv.kn_turn_go, Pv.kn_turn_jump, Pv.kn_turn_times, Pv.kn_times_go, Pv.kn_times_jump, Pv.kn_times_turn, Pv.kp_go, Pv.kp_jump, Pv.kp_turn, Pv.kp_times, Pv.kz_go, Pv.kz_jump, Pv.kz_turn, Pv.kz_times, t__law_cell_at, N__law_cell_at]
  split
  · next h1 =>
    obtain ⟨d, hd, e⟩ := atI_in (l := ns.map D.int) hk h1
    obtain ⟨i, _, rfl⟩ := List.mem_map.mp hd
    simp only [e]
    exact q i
  · exact q 0
noncomputable def spState : Sp3 := fun ds μ Q => ∃ (ns : List Int) (k : Int), ds = [.fls (ns.map D.int), .int k] ∧ 0 ≤ k ∧ ∀ a b p, 0 ≤ a → μ p = none → Q (.ref p) (updM μ p (.lst [.int a, .bl b]))
theorem rd__law_state (ds : List D) (μ : Mu) (Q : VK3) (h : spState ds μ Q) : t__law_state spCell { nx := fun _ μ' => Q .non μ', rt := Q } (start3 N__law_state ds) μ := by
  obtain ⟨ns, k, rfl, hk, q⟩ := h
  simp only [Pv.seq3, Pv.next3, Pv.never3, Pv.brk3, Pv.cnt3, Pv.drop3, Pv.ret3, Pv.retN3, Pv.ifs3, Pv.gn3, Pv.gnil3, Pv.gcons3, Pv.gtup3, Pv.set3, Pv.asg3, Pv.par3, Pv.sub3, Pv.for3, Pv.is3, Pv.ir3, Pv.ir23, Pv.v3, Pv.c3, Pv.o3, Pv.un3, Pv.b3, Pv.and3, Pv.or3, Pv.not3, Pv.andV3, Pv.orV3, Pv.notV3, Pv.if3, Pv.nil3, Pv.cons3, Pv.tup3, Pv.lst3, Pv.call3, Pv.mt3, Pv.comp3, Pv.tt3, Pv.getI, List.set_cons_zero, List.set_cons_succ, Pv.int2, Pv.int20, Pv.subR, Pv.mulR, Pv.intR, Pv.sl3, Pv.np3, Pv.pt3, Pv.slR, Pv.modR, Pv.fdivR, Pv.powR, Pv.ltR, Pv.leR, Pv.gtR, Pv.geR, Pv.negR, Pv.addR, Pv.eqR_ii, Pv.eqR_ss, Pv.eqR_bb, Pv.eqR_is, Pv.neR_ii, Pv.neR_ss, Pv.neR_bb, Pv.inR, Pv.ixR, Pv.lenR, Pv.absR, Pv.tupR, Pv.sumR, Pv.tyN, Pv.isIn, Pv.isiR, Pv.appR, Pv.extR, Pv.smt3, Pv.joinR, Pv.splitR, Pv.startsR, Pv.pop3, Pv.lrev3, Pv.strR, Pv.start3, List.map_cons, List.map_nil, List.cons_append, List.nil_append, List.length_cons, List.length_nil, List.replicate, Pv.atI0, Pv.atI1, Pv.atI2, Nat.reduceAdd, Nat.reduceSub, Nat.zero_add, reduceIte, Pv.strs?, Bool.not_true, Bool.not_false, Bool.false_eq_true, if_false, if_true, decide_eq_true_eq, Bool.not_eq_true', decide_eq_false_iff_not, Pv.ixN0, Pv.ixN1, Pv.ixN2, true_and, and_true, Pv.cst0, Pv.cst1, Pv.cst2, Pv.cst3, Int.reduceEq, Option.bind_none, Option.bind_some, Pv.kn_go_jump, Pv.kn_go_turn, Pv.kn_go_times, Pv.kn_jump_go, Pv.kn_jump_turn, Pv.kn_jump_times, Pv.kn_turn_go, Pv.kn_turn_jump, Pv.kn_turn_times, Pv.kn_times_go, Pv.kn_times_jump, Pv.kn_times_turn, Pv.kp_go, Pv.kp_jump, Pv.kp_turn, Pv.kp_times, Pv.kz_go, Pv.kz_jump, Pv.kz_turn, Pv.kz_times, t__law_state, N__law_state]
  refine ⟨ns, k, rfl, hk, fun i => ?_⟩
  simp only [Pv.seq3, Pv.next3, Pv.never3, Pv.brk3, Pv.cnt3, Pv.drop3, Pv.ret3, Pv.retN3, Pv.ifs3, Pv.gn3, Pv.gnil3, Pv.gcons3, Pv.gtup3, Pv.set3, Pv.asg3, Pv.par3, Pv.sub3, Pv.for3, Pv.is3, Pv.ir3, Pv.ir23, Pv.v3, Pv.c3, Pv.o3, Pv.un3, Pv.b3, Pv.and3, Pv.or3, Pv.not3, Pv.andV3, Pv.orV3, Pv.notV3, Pv.if3, Pv.nil3, Pv.cons3, Pv.tup3, Pv.lst3, Pv.call3, Pv.mt3, Pv.comp3, Pv.tt3, Pv.getI, List.set_cons_zero, List.set_cons_succ, Pv.int2, Pv.int20, Pv.subR, Pv.mulR, Pv.intR, Pv.sl3, Pv.np3, Pv.pt3, Pv.slR, Pv.modR, Pv.fdivR, Pv.powR, Pv.ltR, Pv.leR, Pv.gtR, Pv.geR, Pv.negR, Pv.addR, Pv.eqR_ii, Pv.eqR_ss, Pv.eqR_bb, Pv.eqR_is, Pv.neR_ii, Pv.neR_ss, Pv.neR_bb, Pv.inR, Pv.ixR, Pv.lenR, Pv.absR, Pv.tupR, Pv.sumR, Pv.tyN, Pv.isIn, Pv.isiR, Pv.appR, Pv.extR, Pv.smt3, Pv.joinR, Pv.splitR, Pv.startsR, Pv.pop3, Pv.lrev3, Pv.strR, Pv.start3, List.map_cons, List.map_nil, List.cons_append, List.nil_append, List.length_cons, List.length_nil, List.replicate, Pv.atI0, Pv.atI1, Pv.atI2, Nat.reduceAdd, Nat.reduceSub, Nat.zero_add, reduceIte, Pv.strs?, Bool.not_true, Bool.not_false, Bool.false_eq_true, if_false, if_true, decide_eq_true_eq, Bool.not_eq_true', decide_eq_false_iff_not, Pv.ixN0, Pv.ixN1, Pv.ixN2, true_and, and_true, Pv.cst0, Pv.cst1, Pv.cst2, Pv.cst3, Int.reduceEq, Option.bind_none, Option.bind_some, Pv.kn_go_jump, Pv.kn_go_turn, Pv.kn_go_times, Pv.kn_jump_go, Pv.kn_jump_turn, Pv.kn_jump_times, Pv.kn_turn_go, Pv.kn_turn_jump, Pv.kn_turn_times, Pv.kn_times_go, Pv.kn_times_jump, Pv.kn_times_turn, Pv.kp_go, Pv.kp_jump, Pv.kp_turn, Pv.kp_times, Pv.kz_go, Pv.kz_jump, Pv.kz_turn, Pv.kz_times, ge3R]
  refine ⟨⟨by decide, by decide, by decide⟩, ?_⟩
  have e : ((10 : Int) ^ (18 : Int).toNat) = 1000000000000000000 := by decide
  simp only [e]
  split
  · next h1 => exact ⟨⟨by decide, by decide, by decide⟩, by decide, fun p hp => q _ _ p (by omega) hp⟩
  · exact ⟨by decide, by decide, fun p hp => q _ _ p (Int.emod_nonneg _ (by decide)) hp⟩
noncomputable def spChoice : Sp3 := fun ds μ Q => ∃ (p : Addr) (m a : Int) (b : Bool) (rest : List D), ds = [.ref p, .int m] ∧ 0 < m ∧ m < 2 ^ 120 ∧ μ p = some (.lst (.int a :: .bl b :: rest)) ∧ 0 ≤ a ∧
  ∀ r a', 0 ≤ r → r < m → 0 ≤ a' → Q (.int r) (updM μ p (.lst (.int a' :: .bl b :: rest)))
theorem rd__law_choice (ds : List D) (μ : Mu) (Q : VK3) (h : spChoice ds μ Q) : t__law_choice { nx := fun _ μ' => Q .non μ', rt := Q } (start3 N__law_choice ds) μ := by
  obtain ⟨p, m, a, b, rest, rfl, h1, h2, h3, h4, q⟩ := h
  simp only [Pv.seq3, Pv.next3, Pv.never3, Pv.brk3, Pv.cnt3, Pv.drop3, Pv.ret3, Pv.retN3, Pv.ifs3, Pv.gn3, Pv.gnil3, Pv.gcons3, Pv.gtup3, Pv.set3, Pv.asg3, Pv.par3, Pv.sub3, Pv.for3, Pv.is3, Pv.ir3, Pv.ir23, Pv.v3, Pv.c3, Pv.o3, Pv.un3, Pv.b3, Pv.and3, Pv.or3, Pv.not3, Pv.andV3, Pv.orV3, Pv.notV3, Pv.if3, Pv.nil3, Pv.cons3, Pv.tup3, Pv.lst3, Pv.call3, Pv.mt3, Pv.comp3, Pv.tt3, Pv.getI, List.set_cons_zero, List.set_cons_succ, Pv.int2, Pv.int20, Pv.subR, Pv.mulR, Pv.intR, Pv.sl3, Pv.np3, Pv.pt3, Pv.slR, Pv.modR, Pv.fdivR, Pv.powR, Pv.ltR, Pv.leR, Pv.gtR, Pv.geR, Pv.negR, Pv.addR, Pv.eqR_ii, Pv.eqR_ss, Pv.eqR_bb, Pv.eqR_is, Pv.neR_ii, Pv.neR_ss, Pv.neR_bb, Pv.inR, Pv.ixR, Pv.lenR, Pv.absR, Pv.tupR, Pv.sumR, Pv.tyN, Pv.isIn, Pv.isiR, Pv.appR, Pv.extR, Pv.smt3, Pv.joinR, Pv.splitR, Pv.startsR, Pv.pop3, Pv.lrev3, Pv.strR, Pv.start3, List.map_cons, List.map_nil, List.cons_append, List.nil_append, List.length_cons, List.length_nil, List.replicate, Pv.atI0, Pv.atI1, Pv.atI2, Nat.reduceAdd, Nat.reduceSub, Nat.zero_add, reduceIte, Pv.strs?, Bool.not_true, Bool.not_false, Bool.false_eq_true, if_false, if_true, decide_eq_true_eq, Bool.not_eq_true', decide_eq_false_iff_not, Pv.ixN0, Pv.ixN1, Pv.ixN2, true_and, and_true, Pv.cst0, Pv.cst1, Pv.cst2, Pv.cst3, Int.reduceEq, Option.bind_none, Option.bind_some, Pv.kn_go_jump, Pv.kn_go_turn, Pv.kn_go_times, Pv.kn_jump_go, Pv.kn_jump_turn, Pv.kn_jump_times, Pv.kn_turn_go, Pv.kn_turn_jump, Pv.kn_turn_times, Pv.kn_times_go, Pv.kn_times_jump, Pv.kn_times_turn, Pv.kp_go, Pv.kp_jump, Pv.kp_turn, Pv.kp_times, Pv.kz_go, Pv.kz_jump, Pv.kz_turn, Pv.kz_times, t__law_choice, N__law_choice, h3]
  split
  · refine ⟨h1, ⟨h1, h2⟩, ?_⟩
    exact q _ _ (Int.emod_nonneg _ (by omega)) (Int.emod_lt_of_pos _ h1) (Int.ediv_nonneg h4 (by omega))
  · refine ⟨.inl (.inr (by decide)), by decide, ?_⟩
    simp only [Pv.seq3, Pv.next3, Pv.never3, Pv.brk3, Pv.cnt3, Pv.drop3, Pv.ret3, Pv.retN3, Pv.ifs3, Pv.gn3, Pv.gnil3, Pv.gcons3, Pv.gtup3, Pv.set3, Pv.asg3, Pv.par3, Pv.sub3, Pv.for3, Pv.is3, Pv.ir3, Pv.ir23, Pv.v3, Pv.c3, Pv.o3, Pv.un3, Pv.b3, Pv.and3, Pv.or3, Pv.not3, Pv.andV3, Pv.orV3, Pv.notV3, Pv.if3, Pv.nil3, Pv.cons3, Pv.tup3, Pv.lst3, Pv.call3, Pv.mt3, Pv.comp3, Pv.tt3, Pv.getI, List.set_cons_zero, List.set_cons_succ, Pv.int2, Pv.int20, Pv.subR, Pv.mulR, Pv.intR, Pv.sl3, Pv.np3, Pv.pt3, Pv.slR, Pv.modR, Pv.fdivR, Pv.powR, Pv.ltR, Pv.leR, Pv.gtR, Pv.geR, Pv.negR, Pv.addR, Pv.eqR_ii, Pv.eqR_ss, Pv.eqR_bb, Pv.eqR_is, Pv.neR_ii, Pv.neR_ss, Pv.neR_bb, Pv.inR, Pv.ixR, Pv.lenR, Pv.absR, Pv.tupR, Pv.sumR, Pv.tyN, Pv.isIn, Pv.isiR, Pv.appR, Pv.extR, Pv.smt3, Pv.joinR, Pv.splitR, Pv.startsR, Pv.pop3, Pv.lrev3, Pv.strR, Pv.start3, List.map_cons, List.map_nil, List.cons_append, List.nil_append, List.length_cons, List.length_nil, List.replicate, Pv.atI0, Pv.atI1, Pv.atI2, Nat.reduceAdd, Nat.reduceSub, Nat.zero_add, reduceIte, Pv.strs?, Bool.not_true, Bool.not_false, Bool.false_eq_true, if_false, if_true, decide_eq_true_eq, Bool.not_eq_true', decide_eq_false_iff_not, Pv.ixN0, Pv.ixN1, Pv.ixN2, true_and, and_true, Pv.cst0, Pv.cst1, Pv.cst2, Pv.cst3, Int.reduceEq, Option.bind_none, Option.bind_some, Pv.kn_go_jump, Pv.kn_go_turn, Pv.kn_go_times, Pv.kn_jump_go, Pv.kn_jump_turn, Pv.kn_jump_times, Pv.kn_turn_go, Pv.kn_turn_jump, Pv.kn_turn_times, Pv.kn_times_go, Pv.kn_times_jump, Pv.kn_times_turn, Pv.kp_go, Pv.kp_jump, Pv.kp_turn, Pv.kp_times, Pv.kz_go, Pv.kz_jump, Pv.kz_turn, Pv.kz_times, updM_same]
    have n1 := Int.emod_nonneg (a * 48271 + 29) (show (2147483647 : Int) ≠ 0 by decide)
    have n2 := Int.emod_lt_of_pos (a * 48271 + 29) (show (0 : Int) < 2147483647 by decide)
    generalize (a * 48271 + 29) % 2147483647 = c at n1 n2 ⊢
    refine ⟨.inl (.inl (by omega)), .inl (.inl (by decide)), by decide, ?_⟩
    have n3 := Int.emod_nonneg (c * c + 39373 * c + 7) (show (2147483629 : Int) ≠ 0 by decide)
    have n4 := Int.emod_lt_of_pos (c * c + 39373 * c + 7) (show (0 : Int) < 2147483629 by decide)
    generalize (c * c + 39373 * c + 7) % 2147483629 = e at n3 n4 ⊢
    refine ⟨.inl (.inl (by omega)), .inl (.inl (by decide)), by decide, ⟨by decide, by decide⟩, h1, ?_⟩
    exact q _ _ (Int.emod_nonneg _ (by omega)) (Int.emod_lt_of_pos _ h1) n1
/-! a drawn picture -/
theorem putT_keys {kvs : List (T3 × D)} {t : T3} {v : D} (hn : (kvs.map (·.1)).Nodup) : ((putT kvs t v).map (·.1)).Nodup ∧ (putT kvs t v).length ≤ kvs.length + 1 ∧ ∀ s ∈ (putT kvs t v).map (·.1), s = t ∨ s ∈ kvs.map (·.1) := by
  unfold putT
  split
  · have e : (kvs.map fun kv => if kv.1 = t then (kv.1, v) else kv).map (·.1) = kvs.map (·.1) := by
      rw [List.map_map]
      apply List.map_congr_left
      intro kv _
      show (if kv.1 = t then (kv.1, v) else kv).1 = kv.1
      split <;> rfl
    rw [e]
    exact ⟨hn, by rw [List.length_map]; omega, fun s hs => .inr hs⟩
  · next c =>
    have ht : t ∉ kvs.map (·.1) := fun hm => by
      obtain ⟨kv, h1, h2⟩ := List.mem_map.mp hm
      exact c (List.any_eq_true.mpr ⟨kv, h1, decide_eq_true h2⟩)
    rw [List.map_append, List.length_append]
    refine ⟨?_, by simp, fun s hs => ?_⟩
    · rw [List.nodup_append]
      refine ⟨hn, by simp, fun a ha b hb => ?_⟩
      have : b = t := by simpa using hb
      subst this
      intro z
      subst z
      exact ht ha
    · rcases List.mem_append.mp hs with h | h
      · exact .inr h
      · exact .inl (by simpa using h)
theorem pc_of {ks us : List T3} (hn : ks.Nodup) (hw : ∀ t ∈ ks, wy t) (hl : ks.length < 60) (a1 : us.Perm ks) (a2 : us.Pairwise le3) : Pc us := by
  have hn' : us.Nodup := a1.nodup_iff.mpr hn
  refine ⟨?_, fun t ht => hw t (a1.mem_iff.mp ht), by rw [a1.length_eq]; exact hl⟩
  have both : us.Pairwise fun a b => le3 a b ∧ a ≠ b := List.Pairwise.and a2 hn'
  refine both.imp fun {a b} h => ?_
  obtain ⟨x1, x2, x3⟩ := a
  obtain ⟨y1, y2, y3⟩ := b
  obtain ⟨h1, h2⟩ := h
  unfold le3 at h1
  unfold Lt
  simp only [ne_eq, Prod.mk.injEq] at h2
  simp only [lt3, Bool.or_eq_false_iff, Bool.and_eq_false_iff, decide_eq_false_iff_not, beq_eq_false_iff_ne, ne_eq] at h1
  simp only [lt3, Bool.or_eq_true, Bool.and_eq_true, decide_eq_true_eq, beq_iff_eq]
  omega
theorem ix_ref {p : Addr} {l : List D} {i : Int} {d : D} {μ : Mu} {K : VK3} (h : μ p = some (.lst l)) (e : atI l i = some d) (k : K d μ) : ixR (.ref p) (.int i) μ K := by
  unfold ixR
  simp only [h, e]
  exact k
noncomputable def pT (s : T3) : PyData := .tuple [.int s.1, .int s.2.1, .int s.2.2]
theorem dats_T : ∀ L : List T3, dats (L.map encT) = some (L.map pT)
  | [] => rfl
  | t :: r => by simp only [List.map_cons, dats, encT, dat, dats_T r, pT]
theorem depth_T : ∀ L : List T3, PyData.depthAll (L.map pT) ≤ 2
  | [] => by simp [PyData.depthAll]
  | t :: r => by
    have := depth_T r
    simp only [List.map_cons, PyData.depthAll, pT, PyData.depth]
    omega
theorem pc_nd {ts : List T3} (h : Pc ts) : ts.Nodup := h.1.imp fun {a b} h e => by
  subst e
  simp [Lt, lt3] at h
theorem eqv_pT (s t : T3) : PyData.eqv (pT s) (pT t) = decide (s = t) := by
  obtain ⟨a, b, c⟩ := s
  obtain ⟨d, e, f⟩ := t
  have q : ∀ x y : Int, (x == y) = decide (x = y) := fun x y => by by_cases h : x = y <;> simp [h]
  simp [pT, PyData.eqv, PyData.eqvAll, Bool.and_assoc, q]
theorem eqv_LM : ∀ L M : List T3, PyData.eqvAll (L.map pT) (M.map pT) = decide (L = M)
  | [], [] => by simp [PyData.eqvAll]
  | [], _ :: _ => by simp [PyData.eqvAll]
  | _ :: _, [] => by simp [PyData.eqvAll]
  | s :: L, t :: M => by
    simp only [List.map_cons, PyData.eqvAll, eqv_LM L M, eqv_pT]
    simp
theorem comp_flt {S : Mu → Prop} {p : Addr} {tc : TT3} {Q : VK3} {l : List D} {o : Option D} {rest : St3} {μ : Mu} (f : D → Bool) (hp : μ p = none) (hl : l.length ≤ sizeLine) (hS : ∀ μ', Ext μ μ' → S μ')
    (hx : ∀ x ∈ l, ∀ μ' R, Ext μ μ' → R (f x) μ' → tc (some x :: rest) μ' R) (hQ : ∀ μ', Ext μ μ' → μ' p = some (.lst (l.filter f)) → Q (.ref p) μ') : cbody S p (gn3 0) tc (v3 0) Q l (o :: rest) (updM μ p (.lst [])) := by
  refine ⟨fun r ys ρ μ' => Ext μ μ' ∧ μ' p = some (.lst ys) ∧ (∃ o', ρ = o' :: rest) ∧ ∃ a, a ++ r = l ∧ ys = a.filter f, ?_, ?_, ?_, ?_⟩
  · exact ⟨Ext.new hp, updM_same, ⟨o, rfl⟩, [], rfl, rfl⟩
  · rintro r ys ρ μ' ⟨h1, h2, _⟩
    exact ⟨hS _ h1, h2⟩
  · rintro ys ρ μ' ⟨h1, h2, _, a, e, rfl⟩
    rw [List.append_nil] at e
    subst e
    exact hQ _ h1 h2
  · rintro x r ys ρ μ' ⟨h1, h2, ⟨o', rfl⟩, a, e, rfl⟩
    refine ⟨?_, ?_⟩
    · have h3 := congrArg List.length e
      rw [List.length_append, List.length_cons] at h3
      have := List.length_filter_le f a
      omega
    · refine hx x (by rw [← e]; simp) μ' _ h1 ?_
      have e2 : (a ++ [x]) ++ r = l := by rw [← e]; simp
      cases c : f x with
      | true =>
        refine ⟨h2, fun b v hb => ?_, updM_same, ⟨_, rfl⟩, a ++ [x], e2, ?_⟩
        · rw [updM_ne (ne_free hb hp)]
          exact h1 b v hb
        · rw [List.filter_append]
          simp [c]
      | false =>
        refine ⟨h1, h2, ⟨_, rfl⟩, a ++ [x], e2, ?_⟩
        rw [List.filter_append]
        simp [c]
theorem flt_enc (g : T3 → Bool) (A : List T3) : (A.map encT).filter (fun d => g (decT d)) = (A.filter g).map encT := by
  rw [List.filter_map]
  rfl
theorem eq_LT {L M : List T3} {p q : Addr} {μ : Mu} (h1 : μ p = some (.lst (L.map encT))) (h2 : μ q = some (.lst (M.map encT))) (K : VK3) : eqR (.ref p) (.ref q) μ K = K (.bl (decide (L = M))) μ := by
  have dd : ∀ (L : List T3) p, μ p = some (.lst (L.map encT)) → datM μ (.ref p) = some (.list (L.map pT)) := fun L p h => by simp only [datM, h, dats_T]
  have hd : ∀ L : List T3, (PyData.list (L.map pT)).depth ≤ 64 := fun L => by
    have := depth_T L
    simp only [PyData.depth]
    omega
  rw [eqR_dat rfl (dd L p h1) (dd M q h2) (hd L) (hd M), show PyData.eqv (.list (L.map pT)) (.list (M.map pT)) = decide (L = M) from by simp only [PyData.eqv, eqv_LM]]
/-! the strokes at each point -/
theorem for_two {g : TG3} {tb : TS3} {D' : Ends3} {x y : D} {ρ : St3} {μ : Mu} (N1 N2 : St3 → Mu → Prop) (h1 : g x ρ μ fun ρ1 μ1 => tb { D' with nx := N1, ct := N1, bk := D'.nx } ρ1 μ1)
    (h2 : ∀ ρ μ, N1 ρ μ → g y ρ μ fun ρ1 μ1 => tb { D' with nx := N2, ct := N2, bk := D'.nx } ρ1 μ1) (h3 : ∀ ρ μ, N2 ρ μ → D'.nx ρ μ) : forS3 (fun _ => True) g tb D' [x, y] ρ μ :=
  ⟨trivial, N1, fun ρ' μ' n => ⟨trivial, N2, fun ρ2 μ2 n2 => ⟨trivial, h3 ρ2 μ2 n2⟩, h2 ρ' μ' n⟩, h1⟩
noncomputable def ptk (p : Pt) : List Int := [p.1, p.2]
theorem key_q (p : Pt) : keyI (encQ p) = some (ptk p) := rfl
noncomputable def atk (A : List (Pt × Addr)) : List (List Int × D) := A.map fun x => (ptk x.1, .ref x.2)
theorem ptk_inj {p q : Pt} (h : ptk p = ptk q) : p = q := by
  unfold ptk at h
  injection h with h1 h2
  injection h2 with h2 _
  exact Prod.ext h1 h2
theorem val_at : ∀ {A : List (Pt × Addr)} {p : Pt} {q : Addr}, (A.map (·.1)).Nodup → (p, q) ∈ A → valL (atk A) (ptk p) = some (.ref q)
  | (p', q') :: A, p, q, hn, hm => by
    rw [List.map_cons, List.nodup_cons] at hn
    by_cases c : p' = p
    · subst c
      rcases List.mem_cons.mp hm with e | e
      · cases e; simp [valL, atk]
      · exact absurd (List.mem_map.mpr ⟨_, e, rfl⟩) hn.1
    · rcases List.mem_cons.mp hm with e | e
      · cases e; exact absurd rfl c
      · have c' : ¬ ptk p' = ptk p := fun z => c (ptk_inj z)
        have := val_at hn.2 e
        simp only [valL, atk, List.map_cons, List.find?_cons, c', decide_false] at this ⊢
        exact this
theorem val_no : ∀ {A : List (Pt × Addr)} {p : Pt}, p ∉ A.map (·.1) → valL (atk A) (ptk p) = none
  | [], p, _ => rfl
  | (p', q') :: A, p, hm => by
    rw [List.map_cons, List.mem_cons, not_or] at hm
    have c' : ¬ ptk p' = ptk p := fun z => hm.1 (ptk_inj z).symm
    have := val_no hm.2
    simp only [valL, atk, List.map_cons, List.find?_cons, c', decide_false] at this ⊢
    exact this
theorem put_no {A : List (Pt × Addr)} {p : Pt} {y : D} (h : p ∉ A.map (·.1)) : putL (atk A) (ptk p) y = atk A ++ [(ptk p, y)] := by
  unfold putL
  rw [if_neg]
  intro z
  obtain ⟨kv, h1, h2⟩ := List.any_eq_true.mp z
  obtain ⟨x, hx, rfl⟩ := List.mem_map.mp h1
  exact h (List.mem_map.mpr ⟨x, hx, ptk_inj (of_decide_eq_true h2)⟩)
theorem sd_old {d : Addr} {kvs : List (List Int × D)} {p : Pt} {v : D} {μ : Mu} {Q : VK3} {o0 o2 : Option D} (h : μ d = some (.dcl kvs)) (hl : kvs.length < 1000) (hv : valL kvs (ptk p) = some v) (k : ∀ r, μ r = none → Q v (updM μ r (.lst []))) :
    sdf3 (v3 1) (cons3 (v3 3) (cons3 (lst3 nil3) nil3)) [o0, some (.ref d), o2, some (encQ p)] μ Q := by
  conv => whnf
  rw [h]
  refine ⟨Nat.zero_le _, fun r hr => ?_⟩
  have hd : updM μ r (.lst []) d = some (.dcl kvs) := by rw [updM_ne (ne_free h hr)]; exact h
  conv => whnf
  rw [hd]
  refine ⟨hl, ?_⟩
  have hv' : valL kvs [p.1, p.2] = some v := hv
  rw [hv']
  exact k r hr
theorem sd_new {d : Addr} {kvs : List (List Int × D)} {p : Pt} {μ : Mu} {Q : VK3} {o0 o2 : Option D} (h : μ d = some (.dcl kvs)) (hl : kvs.length < 1000) (hv : valL kvs (ptk p) = none) (k : ∀ r, μ r = none → Q (.ref r) (updM (updM μ r (.lst [])) d (.dcl (putL kvs (ptk p) (.ref r))))) :
    sdf3 (v3 1) (cons3 (v3 3) (cons3 (lst3 nil3) nil3)) [o0, some (.ref d), o2, some (encQ p)] μ Q := by
  conv => whnf
  rw [h]
  refine ⟨Nat.zero_le _, fun r hr => ?_⟩
  have hd : updM μ r (.lst []) d = some (.dcl kvs) := by rw [updM_ne (ne_free h hr)]; exact h
  conv => whnf
  rw [hd]
  refine ⟨hl, ?_⟩
  have hv' : valL kvs [p.1, p.2] = none := hv
  rw [hv']
  exact k r hr
theorem app_l {q : Addr} {l : List D} {x : D} {μ : Mu} {Q : VK3} (h : μ q = some (.lst l)) (hl : l.length < sizeLine) (k : Q .non (updM μ q (.lst (l ++ [x])))) : appR (.ref q) [x] μ Q := by
  unfold appR
  simp only [h]
  exact ⟨hl, k⟩
/-- what has been laid: at each point the strokes there -/
noncomputable def here (L : List (Pt × T3)) (p : Pt) : List T3 := (L.filter fun y => decide (y.1 = p)).map (·.2)
theorem here_same (L : List (Pt × T3)) (p : Pt) (t : T3) : here (L ++ [(p, t)]) p = here L p ++ [t] := by
  unfold here; rw [List.filter_append]; simp
theorem here_ne (L : List (Pt × T3)) {p q : Pt} (t : T3) (h : q ≠ p) : here (L ++ [(p, t)]) q = here L q := by
  unfold here; rw [List.filter_append]
  have : ¬ p = q := fun z => h z.symm
  simp [this]
theorem here_no {L : List (Pt × T3)} {p : Pt} (h : p ∉ L.map (·.1)) : here L p = [] := by
  unfold here
  rw [List.filter_eq_nil_iff.mpr]; rfl
  intro y hy z
  exact h (List.mem_map.mpr ⟨y, hy, of_decide_eq_true z⟩)
theorem here_len (L : List (Pt × T3)) (p : Pt) : (here L p).length ≤ L.length := by
  unfold here; rw [List.length_map]; exact List.length_filter_le _ _
structure AtI (μ0 μ : Mu) (d : Addr) (L : List (Pt × T3)) (A : List (Pt × Addr)) : Prop where
  ex : Ext μ0 μ
  fr : μ0 d = none
  dc : μ d = some (.dcl (atk A))
  nd : (A.map (·.1)).Nodup
  me : ∀ p, p ∈ A.map (·.1) ↔ p ∈ L.map (·.1)
  le : A.length ≤ L.length
  n2 : (A.map (·.2)).Nodup
  fr2 : ∀ x ∈ A, μ0 x.2 = none
  ls : ∀ x ∈ A, μ x.2 = some (.lst ((here L x.1).map encT))
theorem Ext.upd {μ0 μ : Mu} {p : Addr} {o : MO} (e : Ext μ0 μ) (h : μ0 p = none) : Ext μ0 (updM μ p o) := fun a u q => by
  rw [updM_ne (ne_free q h)]; exact e a u q
theorem nodup_key {α β γ : Type} {l : List γ} {f : γ → α} (h : (l.map f).Nodup) : ∀ {x y : γ}, x ∈ l → y ∈ l → f x = f y → x = y := by
  induction l with
  | nil => intro x y hx; cases hx
  | cons z r ih =>
    intro x y hx hy e
    rw [List.map_cons, List.nodup_cons] at h
    rcases List.mem_cons.mp hx with x1 | x1
    · rcases List.mem_cons.mp hy with y1 | y1
      · rw [x1, y1]
      · rw [x1] at e; exact absurd (List.mem_map.mpr ⟨y, y1, e.symm⟩) h.1
    · rcases List.mem_cons.mp hy with y1 | y1
      · rw [y1] at e; exact absurd (List.mem_map.mpr ⟨x, x1, e⟩) h.1
      · exact ih h.2 x1 y1 e
theorem nodup_fst {A : List (Pt × Addr)} {p q : Pt} {a : Addr} (h : (A.map (·.2)).Nodup) (x : (p, a) ∈ A) (y : (q, a) ∈ A) : p = q := congrArg Prod.fst (nodup_key (β := Nat) h x y rfl)
theorem nodup_snd {A : List (Pt × Addr)} {p : Pt} {a b : Addr} (h : (A.map (·.1)).Nodup) (x : (p, a) ∈ A) (y : (p, b) ∈ A) : a = b := congrArg Prod.snd (nodup_key (β := Nat) h x y rfl)
theorem at_step {μ0 μ : Mu} {d : Addr} {L : List (Pt × T3)} {A : List (Pt × Addr)} {p : Pt} {t : T3} {o0 : Option D} {Q : VK3} (I : AtI μ0 μ d L A) (hL : L.length < 500) (q : ∀ μ' A', AtI μ0 μ' d (L ++ [(p, t)]) A' → Q .non μ') :
    mt3 appR (sdf3 (v3 1) (cons3 (v3 3) (cons3 (lst3 nil3) nil3))) (cons3 (v3 2) nil3) [o0, some (.ref d), some (encT t), some (encQ p)] μ Q := by
  have hz : (1000 : Nat) < sizeLine := by decide
  have hA : (atk A).length < 1000 := by unfold atk; rw [List.length_map]; have := I.le; omega
  by_cases c : p ∈ A.map (·.1)
  · obtain ⟨⟨p', a⟩, ha, e⟩ := List.mem_map.mp c
    dsimp only at e; subst e
    refine sd_old I.dc hA (val_at I.nd ha) fun r hr => ?_
    have hl := I.ls _ ha
    have hla : updM μ r (.lst []) a = some (.lst ((here L p').map encT)) := by rw [updM_ne (ne_free hl hr)]; exact hl
    conv => whnf
    rw [hla]
    refine app_l hla (by rw [List.length_map]; have := here_len L p'; omega) (q _ A ⟨?_, I.fr, ?_, I.nd, ?_, ?_, I.n2, I.fr2, ?_⟩)
    · exact (I.ex.trans (Ext.new hr)).upd (I.fr2 _ ha)
    · rw [updM_ne (fun z => by subst z; rw [I.dc] at hl; cases hl), updM_ne (ne_free I.dc hr)]; exact I.dc
    · intro p
      rw [I.me, List.map_append, List.mem_append]
      refine ⟨.inl, ?_⟩
      rintro (h | h)
      · exact h
      · have e : p = p' := by simpa using h
        subst e
        exact (I.me _).mp c
    · rw [List.length_append]; have := I.le; omega
    · rintro ⟨p2, a2⟩ h2
      dsimp only
      by_cases c2 : a2 = a
      · subst c2
        have e : p2 = p' := by
          exact nodup_fst I.n2 h2 ha
        subst e
        rw [updM_same, here_same, List.map_append]; rfl
      · have c3 : p2 ≠ p' := fun z => by subst z; exact c2 (nodup_snd I.nd h2 ha)
        rw [updM_ne c2, updM_ne (ne_free (I.ls _ h2) hr), here_ne _ _ c3]
        exact I.ls _ h2
  · refine sd_new I.dc hA (val_no c) fun r hr => ?_
    have hrd : r ≠ d := fun z => by subst z; rw [I.dc] at hr; cases hr
    have hla : updM (updM μ r (.lst [])) d (.dcl (putL (atk A) (ptk p) (.ref r))) r = some (.lst []) := by rw [updM_ne hrd, updM_same]
    conv => whnf
    rw [hla]
    have hL' : here L p = [] := here_no fun z => c ((I.me p).mpr z)
    refine app_l hla (Nat.lt_of_lt_of_le (by decide : 0 < 1000) (Nat.le_of_lt hz)) (q _ (A ++ [(p, r)]) ⟨?_, I.fr, ?_, ?_, ?_, ?_, ?_, ?_, ?_⟩)
    · exact ((I.ex.trans (Ext.new hr)).upd I.fr).upd (I.ex.free hr)
    · rw [updM_ne (Ne.symm hrd), updM_same, put_no c]
      unfold atk; rw [List.map_append]; rfl
    · rw [List.map_append, List.nodup_append]
      refine ⟨I.nd, by simp, fun a ha b hb e => ?_⟩
      have : b = p := by simpa using hb
      subst this; subst e
      exact c ha
    · intro p2
      rw [List.map_append, List.map_append, List.mem_append, List.mem_append, I.me]; rfl
    · rw [List.length_append, List.length_append]; have := I.le; simp only [List.length_cons, List.length_nil]; omega
    · rw [List.map_append, List.nodup_append]
      refine ⟨I.n2, by simp, fun a ha b hb e => ?_⟩
      have : b = r := by simpa using hb
      subst this; subst e
      obtain ⟨x, hx, rfl⟩ := List.mem_map.mp ha
      have := I.ls x hx
      rw [hr] at this; cases this
    · intro x hx
      rcases List.mem_append.mp hx with h | h
      · exact I.fr2 x h
      · have : x = (p, r) := by simpa using h
        subst this
        exact I.ex.free hr
    · intro x hx
      rcases List.mem_append.mp hx with h | h
      · have hl := I.ls x h
        have c3 : x.1 ≠ p := fun z => c (List.mem_map.mpr ⟨x, h, z⟩)
        have c4 : x.2 ≠ d := fun z => by rw [z, I.dc] at hl; cases hl
        rw [updM_ne (ne_free hl hr), updM_ne c4, updM_ne (ne_free hl hr), here_ne _ _ c3]
        exact hl
      · have : x = (p, r) := by simpa using h
        subst this
        dsimp only
        rw [updM_same, here_same, hL']; rfl
noncomputable def incs (ts : List T3) : List (Pt × T3) := ts.flatMap fun t => [(e0 t, t), (e1 t, t)]
theorem incs_snoc (ts : List T3) (s : T3) : incs (ts ++ [s]) = incs ts ++ [(e0 s, s)] ++ [(e1 s, s)] := by
  unfold incs; rw [List.flatMap_append]; simp
theorem incs_len (ts : List T3) : (incs ts).length = 2 * ts.length := by
  induction ts with
  | nil => rfl
  | cons s r ih => unfold incs at ih ⊢; rw [List.flatMap_cons, List.length_append, ih]; simp; omega
theorem here_incs (p : Pt) : ∀ ts : List T3, here (incs ts) p = ts.filter (has p)
  | [] => rfl
  | s :: r => by
    have ih := here_incs p r
    have e : incs (s :: r) = (e0 s, s) :: (e1 s, s) :: incs r := rfl
    rw [e, List.filter_cons]
    unfold here at ih ⊢
    rw [List.filter_cons, List.filter_cons]
    dsimp only
    have ne := e_ne s
    have hh : has p s = (decide (e0 s = p) || decide (e1 s = p)) := rfl
    rw [hh]
    by_cases c0 : e0 s = p
    · have c1 : ¬ e1 s = p := fun z => ne (c0.trans z.symm)
      simp only [c0, c1, decide_true, decide_false, if_true, Bool.true_or, List.map_cons, Bool.false_eq_true, if_false, ih]
    · by_cases c1 : e1 s = p
      · simp only [c0, c1, decide_true, decide_false, if_true, Bool.false_or, List.map_cons, Bool.false_eq_true, if_false, ih]
      · simp only [c0, c1, decide_false, Bool.or_self, Bool.false_eq_true, if_false, ih]
theorem incs_mem {ts : List T3} {p : Pt} : p ∈ (incs ts).map (·.1) ↔ ∃ s ∈ ts, has p s = true := by
  constructor
  · intro h
    obtain ⟨⟨p', t⟩, h1, rfl⟩ := List.mem_map.mp h
    obtain ⟨s, hs, h2⟩ := List.mem_flatMap.mp h1
    rcases List.mem_cons.mp h2 with e | h2
    · cases e; exact ⟨_, hs, has_e0 _⟩
    · have e := List.mem_singleton.mp h2
      cases e; exact ⟨_, hs, has_e1 _⟩
  · rintro ⟨s, hs, h⟩
    rcases has_or h with rfl | rfl
    · exact List.mem_map.mpr ⟨(e0 s, s), List.mem_flatMap.mpr ⟨s, hs, by simp⟩, rfl⟩
    · exact List.mem_map.mpr ⟨(e1 s, s), List.mem_flatMap.mpr ⟨s, hs, by simp⟩, rfl⟩
noncomputable def spAt : Sp3 := fun ds μ Q => ∃ ts : List T3, ds = [.tup (ts.map encT)] ∧ (∀ t ∈ ts, wy t) ∧ ts.length < 60 ∧ ∀ d A μ', AtI μ μ' d (incs ts) A → Q (.ref d) μ'
theorem rd_strokes_at (ds : List D) (μ : Mu) (Q : VK3) (h : spAt ds μ Q) : t_strokes_at spEnds { nx := fun _ μ' => Q .non μ', rt := Q } (start3 N_strokes_at ds) μ := by
  obtain ⟨ts, rfl, hw, hl, q⟩ := h
  intro d hd
  refine for_inv (fun l ρ μ' => ∃ (us vs : List T3) (A : List (Pt × Addr)) (o2 o3 : Option D), l = us.map encT ∧ vs ++ us = ts ∧ ρ = [some (.tup (ts.map encT)), some (.ref d), o2, o3] ∧ AtI μ μ' d (incs vs) A) ?_ (fun _ _ _ _ => trivial) ?_ ?_
  · exact ⟨ts, [], [], none, none, rfl, rfl, rfl, Ext.new hd, hd, updM_same, List.nodup_nil, fun p => Iff.rfl, Nat.le_refl _, List.nodup_nil, fun _ h => (nomatch h), fun _ h => (nomatch h)⟩
  · rintro ρ μ' ⟨us, vs, A, o2, o3', e, ev, rfl, I⟩
    cases us with
    | cons _ _ => cases e
    | nil =>
      rw [List.append_nil] at ev
      subst ev
      exact q d A μ' I
  · rintro x rest ρ μ' ⟨us, vs, A, o2, o3', e, ev, rfl, I⟩
    cases us with
    | nil => cases e
    | cons s us =>
      rw [List.map_cons] at e
      injection e with e1 e2
      subst e1 e2
      have hs : s ∈ ts := by rw [← ev]; simp
      have hl2 : vs.length < 60 := by rw [← ev, List.length_append] at hl; omega
      have ln : (incs vs).length < 400 := by rw [incs_len]; omega
      refine ⟨s, rfl, hw s hs, ?_⟩
      refine for_two (fun ρ μ' => ∃ A o3, ρ = [some (.tup (ts.map encT)), some (.ref d), some (encT s), o3] ∧ AtI μ μ' d (incs vs ++ [(e0 s, s)]) A) (fun ρ μ' => ∃ A o3, ρ = [some (.tup (ts.map encT)), some (.ref d), some (encT s), o3] ∧ AtI μ μ' d (incs vs ++ [(e0 s, s)] ++ [(e1 s, s)]) A) ?_ ?_ ?_
      · exact at_step (p := e0 s) I (by omega) fun μ2 A2 I2 => ⟨A2, _, rfl, I2⟩
      · rintro ρ μ1 ⟨A1, o3'', rfl, I1⟩
        exact at_step (p := e1 s) I1 (by rw [List.length_append]; simp only [List.length_cons, List.length_nil]; omega) fun μ2 A2 I2 => ⟨A2, _, rfl, I2⟩
      · rintro ρ μ1 ⟨A1, o3'', rfl, I1⟩
        rw [← incs_snoc] at I1
        exact ⟨us, vs ++ [s], A1, _, _, rfl, by rw [← ev]; simp, rfl, I1⟩
/-! the strokes seen -/
noncomputable def tk3 (t : T3) : List Int := [t.1, t.2.1, t.2.2]
theorem key_t (t : T3) : keyI (encT t) = some (tk3 t) := rfl
noncomputable def snk (S : List T3) : List (List Int × D) := S.map fun t => (tk3 t, .bl true)
theorem tk3_inj {a b : T3} (h : tk3 a = tk3 b) : a = b := by
  unfold tk3 at h
  injection h with h1 h2
  injection h2 with h2 h3
  injection h3 with h3 _
  exact Prod.ext h1 (Prod.ext h2 h3)
theorem val_sn : ∀ (S : List T3) (t : T3), (valL (snk S) (tk3 t)).isSome = decide (t ∈ S)
  | [], t => by simp [valL, snk]
  | s :: S, t => by
    have ih := val_sn S t
    by_cases c : s = t
    · subst c; simp [valL, snk]
    · have c' : ¬ tk3 s = tk3 t := fun z => c (tk3_inj z)
      have c2 : ¬ t = s := fun z => c z.symm
      simp only [valL, snk, List.map_cons, List.find?_cons, c', decide_false, List.mem_cons, c2, false_or] at ih ⊢
      exact ih
theorem put_sn {S : List T3} {t : T3} (h : t ∉ S) : putL (snk S) (tk3 t) (.bl true) = snk (S ++ [t]) := by
  unfold putL
  rw [if_neg]
  · unfold snk; rw [List.map_append]; rfl
  · intro z
    obtain ⟨kv, h1, h2⟩ := List.any_eq_true.mp z
    obtain ⟨x, hx, rfl⟩ := List.mem_map.mp h1
    have e := tk3_inj (of_decide_eq_true h2)
    exact h (e ▸ hx)
theorem din_no {s : Addr} {S : List T3} {t : T3} {μ : Mu} {Q : VK3} (h : μ s = some (.dcl (snk S))) (k : Q (.bl (!decide (t ∈ S))) μ) : dinR true (encT t) (.ref s) μ Q := by
  unfold dinR
  simp only [key_t, h, val_sn]
  exact k
theorem put_l {s : Addr} {S : List T3} {t : T3} {μ : Mu} {D' : Ends3} {ρ : St3} {to ti : TE3} (h : μ s = some (.dcl (snk S))) (hl : S.length < 1000) (ht : t ∉ S) (h1 : ∀ R, R (.ref s) μ → to ρ μ R) (h2 : ∀ R, R (encT t) μ → ti ρ μ R) (k : D'.nx ρ (updM μ s (.dcl (snk (S ++ [t]))))) : dput3 to ti (c3 (.bl true)) D' ρ μ := by
  refine h1 _ (h2 _ ?_)
  simp only [key_t, h]
  refine ⟨by unfold snk; rw [List.length_map]; exact hl, ?_⟩
  rw [put_sn ht]
  exact k
noncomputable def spTake : Sp3 := fun ds μ Q => ∃ (q s : Addr) (l S : List T3), ds = [.ref q, .ref s] ∧ μ q = some (.lst (l.map encT)) ∧ μ s = some (.dcl (snk S)) ∧ l.Nodup ∧ S.length + l.length < 500 ∧
  ∀ r μ', ExtB s μ μ' → μ r = none → μ' r = some (.lst ((l.filter fun t => !decide (t ∈ S)).map encT)) → μ' s = some (.dcl (snk (S ++ l.filter fun t => !decide (t ∈ S)))) → Q (.ref r) μ'
theorem rd_take_unseen (ds : List D) (μ : Mu) (Q : VK3) (h : spTake ds μ Q) : t_take_unseen { nx := fun _ μ' => Q .non μ', rt := Q } (start3 N_take_unseen ds) μ := by
  obtain ⟨q, s, l, S, rfl, hq, hs, hn, hl, k⟩ := h
  have hz : (1000 : Nat) < sizeLine := by decide
  have hqs : q ≠ s := fun z => by subst z; rw [hq] at hs; cases hs
  conv => whnf
  rw [hq]
  intro p hp
  refine comp_flt (rest := [some (.ref s)]) (fun d => !decide (decT d ∈ S)) hp (by rw [List.length_map]; omega) (fun μ' ex => ex _ _ hq) ?_ ?_
  · intro x hx μ' R ex kk
    obtain ⟨t, ht, rfl⟩ := List.mem_map.mp hx
    exact din_no (Q := fun d μ1 => match d with | .bl c => R c μ1 | _ => False) (ex _ _ hs) kk
  · intro μ1 ex e1
    rw [flt_enc (fun t => !decide (t ∈ S))] at e1
    have hs1 := ex _ _ hs
    have hps : p ≠ s := fun z => by subst z; rw [hs1] at e1; cases e1
    generalize hL : (l.filter fun t => !decide (t ∈ S)) = L at e1 k
    have LS : ∀ t ∈ L, t ∉ S := fun t ht => by
      rw [← hL, List.mem_filter] at ht
      simpa using ht.2
    have Ln : L.Nodup := by rw [← hL]; exact hn.filter _
    have Ll : L.length ≤ l.length := by rw [← hL]; exact List.length_filter_le _ _
    conv => whnf
    rw [e1]
    refine for_inv (fun l' ρ μ' => ∃ (us vs : List T3) (o : Option D), l' = us.map encT ∧ vs ++ us = L ∧ ρ = [some (.ref q), some (.ref s), some (.ref p), o] ∧ ExtB s μ1 μ' ∧ μ' s = some (.dcl (snk (S ++ vs)))) ?_ ?_ ?_ ?_
    · exact ⟨L, [], none, rfl, rfl, rfl, ExtB.refl _ _, by rw [List.append_nil]; exact hs1⟩
    · rintro l' ρ μ' ⟨us, vs, o, _, _, _, eb, _⟩
      exact eb _ _ hps e1
    · rintro ρ μ' ⟨us, vs, o, e, ev, rfl, eb, hs'⟩
      cases us with
      | cons _ _ => cases e
      | nil =>
        rw [List.append_nil] at ev
        subst ev
        exact k p μ' ((ex.b s).trans eb) hp (eb _ _ hps e1) hs'
    · rintro x rest ρ μ' ⟨us, vs, o, e, ev, rfl, eb, hs'⟩
      cases us with
      | nil => cases e
      | cons t us =>
        rw [List.map_cons] at e
        injection e with e2 e3
        subst e2 e3
        have ht : t ∉ S ++ vs := fun z => by
          rcases List.mem_append.mp z with z | z
          · exact LS t (by rw [← ev]; simp) z
          · rw [← ev] at Ln
            exact (List.nodup_append.mp Ln).2.2 t z t (by simp) rfl
        have ll : (S ++ vs).length < 1000 := by rw [List.length_append]; rw [← ev, List.length_append] at Ll; omega
        refine put_l (to := v3 1) (ti := v3 3) hs' ll ht (fun R r => r) (fun R r => r) ⟨us, vs ++ [t], _, rfl, by rw [← ev]; simp, rfl, eb.trans ExtB.upd, ?_⟩
        rw [updM_same, List.append_assoc]
/-! a piece -/
structure AtD (μ : Mu) (d : Addr) (ts : List T3) (A : List (Pt × Addr)) : Prop where
  dc : μ d = some (.dcl (atk A))
  nd : (A.map (·.1)).Nodup
  me : ∀ p, p ∈ A.map (·.1) ↔ ∃ s ∈ ts, has p s = true
  le : A.length ≤ 2 * ts.length
  ls : ∀ x ∈ A, μ x.2 = some (.lst ((ts.filter (has x.1)).map encT))
theorem AtI.d {μ0 μ : Mu} {d : Addr} {ts : List T3} {A : List (Pt × Addr)} (I : AtI μ0 μ d (incs ts) A) : AtD μ d ts A :=
  ⟨I.dc, I.nd, fun p => (I.me p).trans incs_mem, by rw [← incs_len]; exact I.le, fun x hx => by rw [I.ls x hx, here_incs]⟩
theorem AtD.ext {μ μ' : Mu} {d s : Addr} {ts : List T3} {A : List (Pt × Addr)} {S : List (List Int × D)} (a : AtD μ d ts A) (hs : μ s = some (.dcl S)) (ne : d ≠ s) (e : ExtB s μ μ') : AtD μ' d ts A :=
  ⟨e _ _ ne a.dc, a.nd, a.me, a.le, fun x hx => e _ _ (fun z => by have := a.ls x hx; rw [z, hs] at this; cases this) (a.ls x hx)⟩
theorem AtD.mono {μ μ' : Mu} {d : Addr} {ts : List T3} {A : List (Pt × Addr)} (a : AtD μ d ts A) (e : Ext μ μ') : AtD μ' d ts A := ⟨e _ _ a.dc, a.nd, a.me, a.le, fun x hx => e _ _ (a.ls x hx)⟩
theorem dg_at {μ : Mu} {d : Addr} {ts : List T3} {A : List (Pt × Addr)} {p : Pt} {Q : VK3} (a : AtD μ d ts A) (h : ∃ s ∈ ts, has p s = true) (k : ∀ q, μ q = some (.lst ((ts.filter (has p)).map encT)) → Q (.ref q) μ) : dgR (.ref d) (encQ p) μ Q := by
  obtain ⟨⟨p', q⟩, hx, e⟩ := List.mem_map.mp ((a.me p).mpr h)
  dsimp only at e; subst e
  unfold dgR
  simp only [key_q, a.dc, val_at a.nd hx]
  exact k q (a.ls _ hx)
theorem ext_l {p q : Addr} {l m : List D} {μ : Mu} {Q : VK3} (h1 : μ p = some (.lst l)) (h2 : μ q = some (.lst m)) (hl : l.length + m.length ≤ sizeLine) (k : Q .non (updM μ p (.lst (l ++ m)))) : extR (.ref p) [.ref q] μ Q := by
  unfold extR
  simp only [h1, h2]
  exact ⟨hl, k⟩
/-- what a piece in the making is -/
structure Mk (ts S : List T3) (a : T3) (P : List T3) : Prop where
  nd : P.Nodup
  sub : ∀ x ∈ P, x ∈ ts ∧ x ∉ S
  hd : a ∈ P
  co : ∀ x ∈ P, Conn ts a x
theorem Mk.len {ts S P : List T3} {a : T3} (m : Mk ts S a P) : P.length ≤ ts.length := List.Nodup.length_le_of_subset m.nd fun x hx => (m.sub x hx).1
theorem Mk.add {ts S P : List T3} {a h : T3} {p : Pt} (hn : ts.Nodup) (m : Mk ts S a P) (hh : h ∈ P) (hp : has p h = true) : Mk ts S a (P ++ (ts.filter (has p)).filter fun t => !decide (t ∈ S ++ P)) := by
  refine ⟨?_, fun x hx => ?_, List.mem_append_left _ m.hd, fun x hx => ?_⟩
  · rw [List.nodup_append]
    refine ⟨m.nd, (hn.filter _).filter _, fun x hx y hy e => ?_⟩
    subst e
    rw [List.mem_filter] at hy
    simp [hx] at hy
  · rcases List.mem_append.mp hx with hx | hx
    · exact m.sub x hx
    · rw [List.mem_filter, List.mem_filter] at hx
      have := hx.2
      simp at this
      exact ⟨hx.1.1, this.1⟩
  · rcases List.mem_append.mp hx with hx | hx
    · exact m.co x hx
    · rw [List.mem_filter, List.mem_filter] at hx
      exact .step (m.co h hh) hx.1.1 ⟨p, hp, hx.1.2⟩
structure Wp (μ μ' : Mu) (ts S : List T3) (a : T3) (s pc : Addr) (P : List T3) : Prop where
  eb : ExtB s μ μ'
  fr : μ pc = none
  pl : μ' pc = some (.lst (P.map encT))
  sn : μ' s = some (.dcl (snk (S ++ P)))
  mkk : Mk ts S a P
theorem ExtB.updn {μ0 μ : Mu} {s p : Addr} {o : MO} (e : ExtB s μ0 μ) (h : μ0 p = none) : ExtB s μ0 (updM μ p o) := fun a u n q => by
  rw [updM_ne (ne_free q h)]; exact e a u n q
theorem pw_step {μ μ' : Mu} {ts S P : List T3} {a h : T3} {d s pc : Addr} {A : List (Pt × Addr)} {p : Pt} {o0 o4 o5 : Option D} {Q : VK3} (hn : ts.Nodup) (hl : ts.length < 60) (hS : S.length < 60) (hs : ∃ S, μ s = some (.dcl S)) (hd : AtD μ d ts A) (ne : d ≠ s) (W : Wp μ μ' ts S a s pc P) (hh : h ∈ P) (hp : has p h = true)
    (k : ∀ μ2 N, Wp μ μ2 ts S a s pc (P ++ N) → (∀ c ∈ ts, has p c = true → c ∈ S ++ (P ++ N)) → Q .non μ2) :
    mt3 extR (v3 3) (cons3 (call3 spTake (cons3 (o3 dgR (v3 1) (v3 6)) (cons3 (v3 2) nil3))) nil3) [o0, some (.ref d), some (.ref s), some (.ref pc), o4, o5, some (encQ p)] μ' Q := by
  have hz : (1000 : Nat) < sizeLine := by decide
  obtain ⟨S0, hs0⟩ := hs
  have a' := hd.ext hs0 ne W.eb
  have lP := W.mkk.len
  conv => whnf
  rw [W.pl]
  show dgR (.ref d) (encQ p) μ' (fun x μ1 => _)
  refine dg_at a' ⟨h, (W.mkk.sub h hh).1, hp⟩ fun q hq => ?_
  have lf : (ts.filter (has p)).length ≤ ts.length := List.length_filter_le _ _
  refine ⟨q, s, ts.filter (has p), S ++ P, rfl, hq, W.sn, hn.filter _, by rw [List.length_append]; omega, fun r μ2 eb hr er es => ?_⟩
  have hps : pc ≠ s := fun z => by have := W.pl; rw [z, W.sn] at this; cases this
  have hpr : pc ≠ r := ne_free W.pl hr
  refine ext_l (eb _ _ hps W.pl) er ?_ ?_
  · rw [List.length_map, List.length_map]
    have := List.length_filter_le (fun t => !decide (t ∈ S ++ P)) (ts.filter (has p))
    omega
  · rw [← List.map_append]
    refine k _ _ ⟨(W.eb.trans eb).updn W.fr, W.fr, updM_same, ?_, W.mkk.add hn hh hp⟩ fun c hc hpc => ?_
    · rw [updM_ne (Ne.symm hps), es, List.append_assoc]
    · by_cases z : c ∈ S ++ P
      · rw [← List.append_assoc]; exact List.mem_append_left _ z
      · rw [← List.append_assoc]
        refine List.mem_append_right _ (List.mem_filter.mpr ⟨List.mem_filter.mpr ⟨hc, hpc⟩, ?_⟩)
        simpa using z
noncomputable def spPw : Sp3 := fun ds μ Q => ∃ (ts S : List T3) (a : T3) (d s : Addr) (A : List (Pt × Addr)), ds = [encT a, .ref d, .ref s] ∧ Pc ts ∧ AtD μ d ts A ∧ μ s = some (.dcl (snk S)) ∧ d ≠ s ∧ a ∈ ts ∧ a ∉ S ∧ S.length < 60 ∧
  ∀ (P us : List T3) μ', ExtB s μ μ' → μ' s = some (.dcl (snk (S ++ P))) → Mk ts S a P → (∀ x ∈ P, ∀ c ∈ ts, tch x c → c ∈ S ++ P) → us.Perm P → us.Pairwise le3 → Q (.tup (us.map encT)) μ'
theorem rd_piece_with (ds : List D) (μ : Mu) (Q : VK3) (h : spPw ds μ Q) : t_piece_with spEnds spTake { nx := fun _ μ' => Q .non μ', rt := Q } (start3 N_piece_with ds) μ := by
  obtain ⟨ts, S, a, d, s, A, rfl, hP, hd, hs, ne, ha, haS, hS, q⟩ := h
  have hn := pc_nd hP
  have hl := hP.2.2
  refine put_l (t := a) (to := v3 2) (ti := v3 0) (ρ := [some (encT a), some (.ref d), some (.ref s), none, none, none, none]) hs (by omega) haS (fun R r => r) (fun R r => r) ?_
  refine ⟨(show 1 ≤ sizeLine by decide), fun pc hpc => ?_⟩
  have hps : pc ≠ s := fun z => by subst z; rw [updM_same] at hpc; cases hpc
  have hpf : μ pc = none := by rw [updM_ne hps] at hpc; exact hpc
  have m0 : Mk ts S a [a] := ⟨by simp, fun x hx => by rw [List.mem_singleton] at hx; subst hx; exact ⟨ha, haS⟩, by simp, fun x hx => by rw [List.mem_singleton] at hx; subst hx; exact .refl⟩
  refine ⟨fun m ρ μ' => ∃ (n : Nat) (P : List T3) (o5 o6 : Option D), m = ts.length - n ∧ n ≤ P.length ∧ ρ = [some (encT a), some (.ref d), some (.ref s), some (.ref pc), some (.int n), o5, o6] ∧ Wp μ μ' ts S a s pc P ∧ ∀ j x, j < n → P[j]? = some x → ∀ c ∈ ts, tch x c → c ∈ S ++ P, ⟨ts.length - 0, 0, [a], none, none, rfl, Nat.zero_le _, rfl, ⟨ExtB.upd.updn hpf, hpf, updM_same, ?_, m0⟩, fun j x hj => absurd hj (Nat.not_lt_zero _)⟩, ?_⟩
  · rw [updM_ne (Ne.symm hps), updM_same]
  · rintro m ρ μ' ⟨n, P, o5, o6, rfl, hnP, rfl, W, cv⟩
    have lP := W.mkk.len
    conv => whnf
    rw [W.pl]
    show if decide ((n : Int) < ((P.map encT).length : Int)) = true then _ else _
    by_cases cn : n < P.length
    · rw [if_pos (decide_eq_true (by rw [List.length_map]; omega))]
      refine ⟨fun ρ1 μ1 => ∃ (P1 : List T3) (o5 o6 : Option D), n + 1 ≤ P1.length ∧ ρ1 = [some (encT a), some (.ref d), some (.ref s), some (.ref pc), some (.int ((n : Int) + 1)), o5, o6] ∧ Wp μ μ1 ts S a s pc P1 ∧ ∀ j x, j < n + 1 → P1[j]? = some x → ∀ c ∈ ts, tch x c → c ∈ S ++ P1, ?_, ?_⟩
      · rintro ρ1 μ1 ⟨P1, o5', o6', hn1, rfl, W1, cv1⟩
        exact ⟨ts.length - (n + 1), by omega, n + 1, P1, o5', o6', rfl, hn1, rfl, W1, cv1⟩
      · obtain ⟨b1, ea⟩ := atI_enc (ts := P) (i := (n : Int)) (by omega) (by omega)
        refine ix_ref W.pl ea ?_
        have ei : ((n : Int)).toNat = n := by omega
        have hg : P[n]? = some (P[n]'cn) := List.getElem?_eq_getElem cn
        have eh : P[((n : Int)).toNat] = P[n]'cn := by congr 1
        rw [eh]
        generalize P[n]'cn = h at hg
        have hh : h ∈ P := List.mem_of_getElem? hg
        have hw : wy h := hP.2.1 h (W.mkk.sub h hh).1
        refine ⟨h, rfl, hw, ?_⟩
        refine for_two (fun ρ1 μ1 => ∃ N o6, ρ1 = [some (encT a), some (.ref d), some (.ref s), some (.ref pc), some (.int n), some (encT h), o6] ∧ Wp μ μ1 ts S a s pc (P ++ N) ∧ ∀ c ∈ ts, has (e0 h) c = true → c ∈ S ++ (P ++ N))
          (fun ρ1 μ1 => ∃ N o6, ρ1 = [some (encT a), some (.ref d), some (.ref s), some (.ref pc), some (.int n), some (encT h), o6] ∧ Wp μ μ1 ts S a s pc (P ++ N) ∧ (∀ c ∈ ts, has (e0 h) c = true → c ∈ S ++ (P ++ N)) ∧ ∀ c ∈ ts, has (e1 h) c = true → c ∈ S ++ (P ++ N)) ?_ ?_ ?_
        · exact pw_step (p := e0 h) hn hl hS ⟨_, hs⟩ hd ne W hh (has_e0 h) fun μ2 N W2 cv2 => ⟨N, _, rfl, W2, cv2⟩
        · rintro ρ1 μ1 ⟨N, o6', rfl, W1, cv1⟩
          refine pw_step (p := e1 h) hn hl hS ⟨_, hs⟩ hd ne W1 (List.mem_append_left _ hh) (has_e1 h) fun μ2 N2 W2 cv2 => ⟨N ++ N2, _, rfl, by rw [← List.append_assoc]; exact W2, fun c hc hp => ?_, fun c hc hp => by have z := cv2 c hc hp; rw [List.append_assoc P] at z; exact z⟩
          rw [← List.append_assoc, ← List.append_assoc]
          refine List.mem_append_left _ ?_
          rw [List.append_assoc]
          exact cv1 c hc hp
        · rintro ρ1 μ1 ⟨N, o6', rfl, W1, cv0, cv1⟩
          refine ⟨P ++ N, _, _, by rw [List.length_append]; omega, rfl, W1, fun j x hj ex c hc ht => ?_⟩
          by_cases cj : j < n
          · rw [List.getElem?_append_left (by omega)] at ex
            rcases List.mem_append.mp (cv j x cj ex c hc ht) with z | z
            · exact List.mem_append_left _ z
            · exact List.mem_append_right _ (List.mem_append_left _ z)
          · have ej : j = n := by omega
            subst ej
            rw [List.getElem?_append_left (by omega), hg] at ex
            cases ex
            obtain ⟨p, p1, p2⟩ := ht
            rcases has_or p1 with rfl | rfl
            · exact cv0 c hc p2
            · exact cv1 c hc p2
    · rw [if_neg (fun z => cn (by have := of_decide_eq_true z; rw [List.length_map] at this; omega))]
      refine srt_l W.pl (by omega) fun us a1 a2 r hr => tup_l updM_same (q P us _ (W.eb.trans (Ext.b s (Ext.new hr))) ?_ W.mkk ?_ a1 a2)
      · rw [updM_ne (ne_free W.sn hr)]; exact W.sn
      · intro x hx c hc ht
        obtain ⟨j, hj, ej⟩ := List.getElem_of_mem hx
        exact cv j x (by omega) (by rw [List.getElem?_eq_getElem hj, ej]) c hc ht
/-! the pieces -/
noncomputable def encU (u : List T3) : D := .tup (u.map encT)
structure Wq (ts S : List T3) (us : List (List T3)) : Prop where
  perm : us.flatten.Perm S
  nd : S.Nodup
  sub : ∀ x ∈ S, x ∈ ts
  ne : ∀ u ∈ us, u ≠ []
  up : ∀ u ∈ us, u.Pairwise le3
  cl : ∀ u ∈ us, ∀ a ∈ u, ∀ c ∈ ts, tch a c → c ∈ u
  co : ∀ u ∈ us, ∀ a ∈ u, ∀ b ∈ u, Conn ts a b
theorem Wq.scl {ts S : List T3} {us : List (List T3)} (w : Wq ts S us) {x c : T3} (hx : x ∈ S) (hc : c ∈ ts) (ht : tch x c) : c ∈ S := by
  obtain ⟨u, hu, xu⟩ := List.mem_flatten.mp (w.perm.mem_iff.mpr hx)
  exact w.perm.mem_iff.mp (List.mem_flatten.mpr ⟨u, hu, w.cl u hu x xu c hc ht⟩)
theorem Wq.add {ts S P u : List T3} {us : List (List T3)} {a : T3} (ha : a ∈ ts) (w : Wq ts S us) (m : Mk ts S a P) (cv : ∀ x ∈ P, ∀ c ∈ ts, tch x c → c ∈ S ++ P) (hu : u.Perm P) (hs : u.Pairwise le3) : Wq ts (S ++ P) (us ++ [u]) := by
  have clP : ∀ x ∈ P, ∀ c ∈ ts, tch x c → c ∈ P := fun x hx c hc ht => by
    rcases List.mem_append.mp (cv x hx c hc ht) with z | z
    · exact absurd (w.scl z (m.sub x hx).1 ht.symm) (m.sub x hx).2
    · exact z
  have each : ∀ {C : List T3 → Prop}, (∀ v ∈ us, C v) → C u → ∀ v ∈ us ++ [u], C v := fun h k v hv => by
    rcases List.mem_append.mp hv with hv | hv
    · exact h v hv
    · rw [List.mem_singleton] at hv; subst hv; exact k
  refine ⟨?_, ?_, fun x hx => ?_, each w.ne ?_, each w.up hs, each w.cl ?_, each w.co ?_⟩
  · rw [List.flatten_append]
    exact List.Perm.append w.perm (by simpa using hu)
  · rw [List.nodup_append]
    exact ⟨w.nd, m.nd, fun x hx y hy e => (m.sub y hy).2 (e ▸ hx)⟩
  · rcases List.mem_append.mp hx with z | z
    · exact w.sub x z
    · exact (m.sub x z).1
  · intro z; subst z; exact absurd (hu.symm.mem_iff.mp m.hd) (by simp)
  · intro x hx c hc ht
    exact hu.mem_iff.mpr (clP x (hu.mem_iff.mp hx) c hc ht)
  · intro x hx y hy
    exact ((m.co x (hu.mem_iff.mp hx)).symm ha).trans (m.co y (hu.mem_iff.mp hy))
noncomputable def spPieces : Sp3 := fun ds μ Q => ∃ ts : List T3, ds = [.tup (ts.map encT)] ∧ Pc ts ∧ ∀ r (us : List (List T3)) μ', Ext μ μ' → μ r = none → μ' r = some (.lst (us.map encU)) → IsP ts us → Q (.ref r) μ'
theorem rd_picture_pieces (ds : List D) (μ : Mu) (Q : VK3) (h : spPieces ds μ Q) : t_picture_pieces spChkP spPw spAt { nx := fun _ μ' => Q .non μ', rt := Q } (start3 N_picture_pieces ds) μ := by
  obtain ⟨ts, rfl, hP, q⟩ := h
  have hn := pc_nd hP
  have hl := hP.2.2
  have hz : (1000 : Nat) < sizeLine := by decide
  refine ⟨ts, rfl, hP, ts, rfl, hP.2.1, hl, fun d A μ1 I => ?_⟩
  intro s hs
  refine ⟨Nat.zero_le _, fun pl hpl => ?_⟩
  have hds : d ≠ s := ne_free I.dc hs
  have hpls : pl ≠ s := fun z => by subst z; rw [updM_same] at hpl; cases hpl
  have hpl1 : μ1 pl = none := by rw [updM_ne hpls] at hpl; exact hpl
  refine for_inv (fun l ρ μ' => ∃ (ks js S : List T3) (us : List (List T3)) (o : Option D), l = ks.map encT ∧ js ++ ks = ts ∧ ρ = [some (.tup (ts.map encT)), some (.ref d), some (.ref s), some (.ref pl), o] ∧ Ext μ1 μ' ∧ μ' s = some (.dcl (snk S)) ∧ μ' pl = some (.lst (us.map encU)) ∧ Wq ts S us ∧ us.length ≤ S.length ∧ ∀ x ∈ js, x ∈ S) ?_ (fun _ _ _ _ => trivial) ?_ ?_
  · refine ⟨ts, [], [], [], none, rfl, rfl, rfl, (Ext.new hs).trans (Ext.new hpl), ?_, updM_same, ⟨by simp, List.nodup_nil, fun _ h => (nomatch h), fun _ h => (nomatch h), fun _ h => (nomatch h), fun _ h => (nomatch h), fun _ h => (nomatch h)⟩, Nat.le_refl _, fun _ h => (nomatch h)⟩
    rw [updM_ne (Ne.symm hpls), updM_same]; rfl
  · rintro ρ μ' ⟨ks, js, S, us, o, e, ej, rfl, ex, es, ep, w, lu, hj⟩
    cases ks with
    | cons _ _ => cases e
    | nil =>
      rw [List.append_nil] at ej
      subst ej
      refine q pl us μ' (I.ex.trans ex) (I.ex.free hpl1) ep ⟨w.perm.trans ((List.perm_ext_iff_of_nodup w.nd hn).mpr fun x => ⟨w.sub x, hj x⟩), w.ne, w.up, w.cl, w.co⟩
  · rintro x rest ρ μ' ⟨ks, js, S, us, o, e, ej, rfl, ex, es, ep, w, lu, hj⟩
    cases ks with
    | nil => cases e
    | cons a ks =>
      rw [List.map_cons] at e
      injection e with e2 e3
      subst e2 e3
      have ha : a ∈ ts := by rw [← ej]; simp
      have lS : S.length ≤ ts.length := List.Nodup.length_le_of_subset w.nd w.sub
      conv => whnf
      rw [es]
      show if (!(valL (snk S) (tk3 a)).isSome) = true then _ else _
      rw [val_sn]
      by_cases c : a ∈ S
      · rw [decide_eq_true c]
        refine ⟨ks, js ++ [a], S, us, _, rfl, by rw [← ej]; simp, rfl, ex, es, ep, w, lu, fun x hx => ?_⟩
        rcases List.mem_append.mp hx with z | z
        · exact hj x z
        · rw [List.mem_singleton] at z; subst z; exact c
      · rw [decide_eq_false c]
        conv => whnf
        rw [ep]
        refine ⟨ts, S, a, d, s, A, rfl, hP, I.d.mono ex, es, hds, ha, c, by omega, fun P v μ2 eb es2 m cv v1 v2 => ?_⟩
        have ep2 := eb pl _ hpls ep
        have lP := m.len
        have w2 := w.add ha m cv v1 v2
        have lS2 : (S ++ P).length ≤ ts.length := List.Nodup.length_le_of_subset w2.nd w2.sub
        have hP1 : 1 ≤ P.length := List.length_pos_of_mem m.hd
        conv => whnf
        rw [ep2]
        refine ⟨by rw [List.length_map]; omega, ?_⟩
        refine ⟨ks, js ++ [a], S ++ P, us ++ [v], _, rfl, by rw [← ej]; simp, rfl, ?_, ?_, ?_, w2, ?_, fun x hx => ?_⟩
        · intro b o' hb
          have n1 : b ≠ s := ne_free hb hs
          have n2 : b ≠ pl := ne_free hb hpl1
          rw [updM_ne n2]
          exact eb b o' n1 (ex b o' hb)
        · rw [updM_ne (Ne.symm hpls)]; exact es2
        · rw [updM_same, List.map_append]; rfl
        · rw [List.length_append, List.length_append]; simp only [List.length_cons, List.length_nil]; omega
        · rcases List.mem_append.mp hx with z | z
          · exact List.mem_append_left _ (hj x z)
          · rw [List.mem_singleton] at z; subst z; exact List.mem_append_right _ m.hd
/-! odd points -/
noncomputable def decQ (d : D) : Pt := match d with
  | .tup [.int a, .int b] => (a, b)
  | _ => (0, 0)
theorem dec_encQ (p : Pt) : decQ (encQ p) = p := rfl
theorem flt_q (g : Pt → Bool) (A : List Pt) : (A.map encQ).filter (fun d => g (decQ d)) = (A.filter g).map encQ := by
  rw [List.filter_map]; rfl
theorem srt2_l {p : Addr} {ps : List Pt} {μ : Mu} {Q : VK3} (h : μ p = some (.lst (ps.map encQ))) (h64 : ps.length < 64) (k : ∀ us : List Pt, us.Perm ps → us.Pairwise le2 → ∀ r, μ r = none → Q (.ref r) (updM μ r (.lst (us.map encQ)))) : srt2R [.ref p] μ Q := by
  have e : t2s? (ps.map encQ) = some ps := t2s_enc ps
  unfold srt2R
  simp only [h, e]
  exact ⟨h64, k⟩
noncomputable def spOdd : Sp3 := fun ds μ Q => ∃ ts : List T3, ds = [.tup (ts.map encT)] ∧ Pc ts ∧ ts.length < 31 ∧ ∀ r (ps : List Pt) μ', Ext μ μ' → μ r = none → μ' r = some (.lst (ps.map encQ)) → ps.Perm (Od ts) → ps.Pairwise le2 → Q (.ref r) μ'
theorem rd_odd_points (ds : List D) (μ : Mu) (Q : VK3) (h : spOdd ds μ Q) : t_odd_points spChkP spAt { nx := fun _ μ' => Q .non μ', rt := Q } (start3 N_odd_points ds) μ := by
  obtain ⟨ts, rfl, hP, h31, q⟩ := h
  have hz : (1000 : Nat) < sizeLine := by decide
  refine ⟨ts, rfl, hP, ts, rfl, hP.2.1, hP.2.2, fun d A μ1 I => ?_⟩
  have a := I.d
  have lA := a.le
  conv => whnf
  rw [I.dc]
  intro p hp
  have el : ((atk A).map fun kv => tupI kv.1) = (A.map (·.1)).map encQ := by
    unfold atk; rw [List.map_map, List.map_map]; rfl
  rw [el]
  refine comp_flt (rest := [some (.ref d)]) (fun x => decide (deg ts (decQ x) % 2 = 1)) hp (by rw [List.length_map, List.length_map]; omega) (fun μ' ex => ex _ _ I.dc) ?_ ?_
  · intro x hx μ' R ex kk
    obtain ⟨p', hp', rfl⟩ := List.mem_map.mp hx
    show dgR (.ref d) (encQ p') μ' (fun x μ1 => _)
    refine dg_at (a.mono ex) ((a.me p').mp hp') fun r hr => ?_
    conv => whnf
    rw [hr]
    refine ⟨(show (0 : Int) < 2 by decide), ?_⟩
    have e : decide ((((ts.filter (has p')).map encT).length : Int) % 2 = 1) = decide (deg ts (decQ (encQ p')) % 2 = 1) := by
      rw [dec_encQ, List.length_map]
      unfold deg
      rw [List.countP_eq_length_filter]
      exact decide_eq_decide.mpr (by omega)
    show R (decide ((((ts.filter (has p')).map encT).length : Int) % 2 = 1)) μ'
    rw [e]
    exact kk
  · intro μ2 ex e2
    rw [flt_q (fun p => decide (deg ts p % 2 = 1))] at e2
    have lF := List.length_filter_le (fun p => decide (deg ts p % 2 = 1)) (A.map (·.1))
    rw [List.length_map] at lF
    refine srt2_l e2 (by omega) fun us u1 u2 r hr => q r us _ (I.ex.trans (ex.trans (Ext.new hr))) ((I.ex.trans ex).free hr) updM_same (u1.trans ?_) u2
    refine (List.perm_ext_iff_of_nodup (a.nd.filter _) (Od_nd _)).mpr fun p => ?_
    rw [List.mem_filter, Od_mem, decide_eq_true_eq]
    refine ⟨fun z => z.2, fun z => ⟨(a.me p).mpr (deg_pos z), z⟩⟩
/-! trails needed -/
noncomputable def spOf : Sp3 := fun ds μ Q => ∃ ts : List T3, ds = [encU ts] ∧ Pc ts ∧ ts.length < 31 ∧ ∀ μ', Ext μ μ' → Q (.int (need ts)) μ'
theorem rd_trails_of_piece_needed (ds : List D) (μ : Mu) (Q : VK3) (h : spOf ds μ Q) : t_trails_of_piece_needed spOdd { nx := fun _ μ' => Q .non μ', rt := Q } (start3 N_trails_of_piece_needed ds) μ := by
  obtain ⟨ts, rfl, hP, h31, q⟩ := h
  refine ⟨ts, rfl, hP, h31, fun r ps μ1 ex hr er p1 p2 => ?_⟩
  conv => whnf
  rw [er]
  refine ⟨⟨(show (0 : Int) < 2 by decide), (show (2 : Int) < 2 ^ 120 by decide)⟩, ?_⟩
  have z := q μ1 ex
  have e : (need ts : Int) = if (1 : Int) < (((ps.map encQ).length : Nat) : Int) / 2 then (((ps.map encQ).length : Nat) : Int) / 2 else 1 := by
    rw [List.length_map, p1.length_eq]
    unfold need
    split <;> omega
  rw [e] at z
  show mxR [.int 1, .int ((((ps.map encQ).length : Nat) : Int) / 2)] μ1 Q
  rw [mxR_ii]
  exact z
theorem IsP.pc {ts : List T3} {us : List (List T3)} (hP : Pc ts) (h : IsP ts us) {u : List T3} (hu : u ∈ us) : Pc u ∧ u.length ≤ ts.length := by
  have hn := pc_nd hP
  have nu := (h.two hn).1 u hu
  have lu : u.length ≤ ts.length := List.Nodup.length_le_of_subset nu fun x hx => h.mem hu hx
  exact ⟨pc_of nu (fun t ht => hP.2.1 t (h.mem hu ht)) (by have := hP.2.2; omega) (List.Perm.refl _) (h.up u hu), lu⟩
noncomputable def decU (d : D) : List T3 := match d with
  | .tup l => l.map decT
  | _ => []
theorem dec_encU (u : List T3) : decU (encU u) = u := by
  show (u.map encT).map decT = u
  rw [List.map_map]
  exact List.map_id _
theorem sum_cast : ∀ l : List Nat, (l.map (fun n : Nat => (n : Int))).sum = ((l.sum : Nat) : Int)
  | [] => rfl
  | n :: r => by rw [List.map_cons, List.sum_cons, List.sum_cons, sum_cast r]; omega
theorem ints_nat : ∀ l : List Nat, ints? (l.map fun n : Nat => D.int (n : Int)) = some (l.map fun n : Nat => (n : Int))
  | [] => rfl
  | n :: r => by simp only [List.map_cons, ints?, ints_nat r]
theorem IsP.len {ts : List T3} {us : List (List T3)} (hn : ts.Nodup) (h : IsP ts us) : us.length ≤ ts.length := by
  rw [← h.perm.length_eq, List.length_flatten]
  have key : ∀ us : List (List T3), (∀ u ∈ us, u ≠ []) → us.length ≤ (us.map List.length).sum := by
    intro us
    induction us with
    | nil => intro _; exact Nat.le_refl _
    | cons u r ih =>
      intro hne
      have h1 := ih fun v hv => hne v (List.mem_cons_of_mem _ hv)
      have h2 : 1 ≤ u.length := List.length_pos_iff.mpr (hne u (List.mem_cons_self ..))
      rw [List.length_cons, List.map_cons, List.sum_cons]
      omega
  exact key us h.ne
noncomputable def spTn : Sp3 := fun ds μ Q => ∃ ts : List T3, ds = [.tup (ts.map encT)] ∧ Pc ts ∧ ts.length < 31 ∧ ∀ (us : List (List T3)) μ', Ext μ μ' → IsP ts us → Q (.int (needs us)) μ'
theorem rd_trails_needed (ds : List D) (μ : Mu) (Q : VK3) (h : spTn ds μ Q) : t_trails_needed spPieces spOf { nx := fun _ μ' => Q .non μ', rt := Q } (start3 N_trails_needed ds) μ := by
  obtain ⟨ts, rfl, hP, h31, q⟩ := h
  have hz : (1000 : Nat) < sizeLine := by decide
  refine ⟨ts, rfl, hP, fun r us μ1 ex hr er ip => ?_⟩
  have lu := ip.len (pc_nd hP)
  conv => whnf
  rw [er]
  intro p hp
  refine comp_map (rest := []) (fun d => .int (need (decU d))) hp (by rw [List.length_map]; omega) (fun μ' e => e _ _ er) ?_ ?_
  · intro x hx μ' R e kk
    obtain ⟨u, hu, rfl⟩ := List.mem_map.mp hx
    obtain ⟨p1, p2⟩ := ip.pc hP hu
    exact ⟨u, rfl, p1, by omega, fun μ2 e2 => by have z := kk μ2 e2; rw [dec_encU] at z; exact z⟩
  · intro μ2 e2 ep
    have el : (us.map encU).map (fun d => D.int (need (decU d))) = (us.map need).map fun n : Nat => D.int (n : Int) := by
      rw [List.map_map, List.map_map]
      apply List.map_congr_left
      intro u _
      show D.int (need (decU (encU u)) : Nat) = _
      rw [dec_encU]; rfl
    rw [el] at ep
    conv => whnf
    rw [ep]
    show (match ints? ((us.map need).map fun n : Nat => D.int (n : Int)) with
      | some ns => Q (.int ns.sum) μ2
      | none => False)
    rw [ints_nat]
    show Q (.int ((us.map need).map fun n : Nat => (n : Int)).sum) μ2
    rw [sum_cast]
    exact q us μ2 (ex.trans e2) ip
/-! a dense picture -/
noncomputable def spDense : Sp3 := fun ds μ Q => ∃ (z : Addr) (most a : Int) (b : Bool), ds = [.ref z, .int most] ∧ μ z = some (.lst [.int a, .bl b]) ∧ 0 ≤ a ∧ 0 ≤ most ∧ most < 50 ∧ ∀ (us : List T3) (a' : Int) (b' : Bool) μ', Pc us → (us.length : Int) ≤ most → 0 ≤ a' → μ' z = some (.lst [.int a', .bl b']) → Q (.tup (us.map encT)) μ'
theorem rd__law_dense (ds : List D) (μ : Mu) (Q : VK3) (h : spDense ds μ Q) : t__law_dense spChoice { nx := fun _ μ' => Q .non μ', rt := Q } (start3 N__law_dense ds) μ := by
  obtain ⟨z, most, a, b, rfl, hm, ha, m0, m1, q⟩ := h
  intro d hd
  have hzd : z ≠ d := ne_free hm hd
  refine ⟨z, 3, a, b, [], rfl, by decide, by decide, by rw [updM_ne hzd]; exact hm, ha, fun w0 a1 w1 w2 a1n => ?_⟩
  refine ⟨z, most + 1, a1, b, [], rfl, by omega, by omega, updM_same, a1n, fun c a2 c0 c1 a2n => ⟨⟨by omega, by omega⟩, ?_⟩⟩
  refine for_inv (fun l ρ μ' => ∃ (kvs : List (T3 × D)) (a : Int) (kk : Option D), l.length + kvs.length ≤ c.toNat ∧ ρ = [some (.ref z), some (.int most), some (.ref d), some (.int (2 + w0)), kk] ∧ μ' z = some (.lst [.int a, .bl b]) ∧ 0 ≤ a ∧ μ' d = some (.dct kvs) ∧ (kvs.map (·.1)).Nodup ∧ ∀ t ∈ kvs.map (·.1), wy t) ?_ (fun _ _ _ _ => trivial) ?_ ?_
  · refine ⟨[], a2, none, ?_, rfl, updM_same, a2n, ?_, List.nodup_nil, fun t ht => by simp at ht⟩
    · simp [rngD]
    · rw [updM_ne (Ne.symm hzd), updM_ne (Ne.symm hzd), updM_same]
  · rintro ρ μ' ⟨kvs, a3, kk, el, rfl, ez, a3n, ed, hn, hw⟩
    rw [List.length_nil, Nat.zero_add] at el
    refine srt_d ed (by omega) fun us e1 e2 r hr => tup_l updM_same (q us a3 b _ (pc_of hn hw (by rw [List.length_map]; omega) e1 e2) (by rw [e1.length_eq, List.length_map]; omega) a3n (by rw [updM_ne (ne_free ez hr)]; exact ez))
  · rintro dd rest ρ μ' ⟨kvs, a3, kk, el, rfl, ez, a3n, ed, hn, hw⟩
    rw [List.length_cons] at el
    refine ⟨z, 2 + w0, a3, b, [], rfl, by omega, by omega, ez, a3n, fun x a4 x0 x1 a4n => ?_⟩
    refine ⟨z, 2 + w0, a4, b, [], rfl, by omega, by omega, updM_same, a4n, fun y a5 y0 y1 a5n => ?_⟩
    refine ⟨z, 2, a5, b, [], rfl, by decide, by decide, updM_same, a5n, fun w a6 w3 w4 a6n => ?_⟩
    have ed2 : updM (updM (updM μ' z (.lst [.int a4, .bl b])) z (.lst [.int a5, .bl b])) z (.lst [.int a6, .bl b]) d = some (.dct kvs) := by rw [updM_ne (Ne.symm hzd), updM_ne (Ne.symm hzd), updM_ne (Ne.symm hzd)]; exact ed
    conv => whnf
    rw [ed2]
    obtain ⟨k1, k2, k3⟩ := putT_keys (t := (x, y, w)) (v := .bl true) hn
    refine ⟨by omega, putT kvs (x, y, w) (.bl true), a6, some dd, by omega, rfl, by rw [updM_ne hzd]; exact updM_same, a6n, updM_same, k1, fun t ht => ?_⟩
    rcases k3 t ht with rfl | h
    · show w = 0 ∨ w = 1
      omega
    · exact hw t h
/-! pieces hang apart -/
noncomputable def pQ (p : Pt) : PyData := .tuple [.int p.1, .int p.2]
theorem eqv_pQ (p q : Pt) : PyData.eqv (pQ p) (pQ q) = decide (p = q) := by
  obtain ⟨a, b⟩ := p
  obtain ⟨c, d⟩ := q
  simp [pQ, PyData.eqv, PyData.eqvAll]
  rfl
/-! the fewest trails, gone through -/
noncomputable def encH : Option Pt → D
  | none => .non
  | some p => encQ p
theorem flt_ne (ts : List T3) (s : T3) : (ts.filter fun t => !decide (t = s)) = ts.filter (fun t => t != s) := by
  apply List.filter_congr
  intro t _
  rw [Bool.eq_iff_iff]
  simp
theorem ne_TT (s t : T3) (μ : Mu) (K : VK3) : neR (encT s) (encT t) μ K = K (.bl (!decide (s = t))) μ := by
  rw [neR_dat (p := pT s) (q := pT t) rfl rfl rfl (by simp only [pT, PyData.depth, PyData.depthAll]; omega) (by simp only [pT, PyData.depth, PyData.depthAll]; omega), eqv_pT]
theorem depth_pQ (p : Pt) : (pQ p).depth ≤ 64 := by simp only [pQ, PyData.depth, PyData.depthAll]; omega
theorem ne_QH (a : Pt) (h : Option Pt) (μ : Mu) (K : VK3) : neR (encQ a) (encH h) μ K = K (.bl (!decide (some a = h))) μ := by
  cases h with
  | none =>
    rw [neR_dat (p := pQ a) (q := .none) rfl rfl rfl (depth_pQ a) (by simp only [PyData.depth]; omega)]
    rfl
  | some p =>
    rw [show encH (some p) = encQ p from rfl, neR_dat (p := pQ a) (q := pQ p) rfl rfl rfl (depth_pQ a) (depth_pQ p), eqv_pQ, Bool.eq_iff_iff.mpr (show decide (a = p) = true ↔ decide (some a = some p) = true by rw [decide_eq_true_eq, decide_eq_true_eq, Option.some.injEq])]
structure Bst (ts : List T3) (h : Option Pt) (done : List Or) (b : Nat) : Prop where
  got : b = ts.length + 1 ∨ ∃ q : List Or, (Sk q).Perm ts ∧ J h q = b
  le : ∀ o ∈ done, ∀ q : List Or, (Sk (o :: q)).Perm ts → b ≤ J h (o :: q)
theorem Bst.step {ts : List T3} {h : Option Pt} {done : List Or} {b n c : Nat} (o : Or) (B : Bst ts h done b) (hn : ts.Nodup) (hs : o.1 ∈ ts) (f : IsF (ts.filter fun t => !decide (t = o.1)) (some (fi o)) n) (hc : c = one (some (st o) = h)) :
    Bst ts h (o :: done) (if c + n < b then c + n else b) := by
  subst hc
  have pe : ts.Perm (o.1 :: ts.filter fun t => !decide (t = o.1)) := by
    have a := List.perm_cons_erase hs
    rw [hn.erase_eq_filter, ← flt_ne] at a
    exact a
  constructor
  · split
    · right
      obtain ⟨q, e, rfl⟩ := f.has
      exact ⟨o :: q, (e.cons o.1).trans pe.symm, rfl⟩
    · exact B.got
  · intro o' ho' q e
    rcases List.mem_cons.mp ho' with rfl | z
    · have e' : (Sk q).Perm (ts.filter fun t => !decide (t = o'.1)) := (List.perm_cons o'.1).mp ((show (o'.1 :: Sk q).Perm ts from e).trans pe)
      have := f.le q e'
      show _ ≤ one _ + J _ q
      split <;> omega
    · have := B.le o' z q e
      split <;> omega
theorem Bst.skip {ts : List T3} {h : Option Pt} {done : List Or} {b c : Nat} (o : Or) (B : Bst ts h done b) (hc : c = one (some (st o) = h)) (l : ¬ c < b) : Bst ts h (o :: done) b := by
  subst hc
  refine ⟨B.got, fun o' ho' q e => ?_⟩
  rcases List.mem_cons.mp ho' with rfl | z
  · show _ ≤ one _ + J _ q
    omega
  · exact B.le o' z q e
theorem Bst.end {ts : List T3} {h : Option Pt} {done : List Or} {b : Nat} (B : Bst ts h done b) (hne : ts ≠ []) (all : ∀ s ∈ ts, ∀ k, (s, k) ∈ done) : IsF ts h b := by
  have le : ∀ q : List Or, (Sk q).Perm ts → b ≤ J h q := by
    intro q e
    cases q with
    | nil => exact absurd e.nil_eq.symm hne
    | cons o q => exact B.le o (all o.1 (e.mem_iff.mp (.head _)) o.2) q e
  refine ⟨?_, le⟩
  rcases B.got with z | z
  · have e : (Sk (ts.map fun s => (s, false))).Perm ts := by
      rw [Sk, List.map_map]
      show (ts.map fun s => s).Perm ts
      rw [List.map_id']
    have l1 := le _ e
    have l2 := J_len h (ts.map fun s => (s, false))
    rw [List.length_map] at l2
    omega
  · exact z
noncomputable def spFew (j : Nat) : Sp3 := fun ds μ Q => ∃ (p : Addr) (ts : List T3) (h : Option Pt), ds = [.ref p, encH h] ∧ μ p = some (.lst (ts.map encT)) ∧ ts.Nodup ∧ ts.length < j ∧ ts.length < 60 ∧ ∀ (n : Nat) μ', Ext μ μ' → IsF ts h n → Q (.int n) μ'
theorem more_eq (c : Prop) [Decidable c] : (if (!decide c) = true then (1 : Int) else 0) = ((one c : Nat) : Int) := by
  unfold one
  by_cases h : c
  · rw [if_neg (by simp [h]), if_pos h]; rfl
  · rw [if_pos (by simp [h]), if_neg h]; rfl
theorem few_step {j : Nat} {ts : List T3} {h : Option Pt} {s : T3} {b : Bool} {best : Nat} {done : List Or} {p r : Addr} {o7 : Option D} {μ : Mu} {D' : Ends3} (hs : s ∈ ts) (hn : ts.Nodup) (hj : ts.length < j + 1) (hl : ts.length < 60)
    (er : μ r = some (.lst ((ts.filter fun t => !decide (t = s)).map encT))) (B : Bst ts h done best)
    (k : ∀ (best' : Nat) (o7 : Option D) μ', Ext μ μ' → Bst ts h ((s, b) :: done) best' → D'.nx [some (.ref p), some (encH h), some (.int best'), some (encT s), some (.ref r), some (.tup [encQ (e0 s), encQ (e1 s)]), some (.int (if b then 1 else 0)), o7] μ') :
    (seq3 (set3 7 (call3 intR (cons3 (o3 neR (o3 ixR (v3 5) (v3 6)) (v3 1)) nil3))) (ifs3 (b3 (o3 ltR (v3 7) (v3 2))) (set3 2 (call3 min2R (cons3 (v3 2) (cons3 (o3 addR (v3 7) (call3 (spFew j) (cons3 (v3 4) (cons3 (o3 ixR (v3 5) (o3 subR (c3 (.int 1)) (v3 6))) nil3)))) nil3)))) next3))
      D' [some (.ref p), some (encH h), some (.int best), some (encT s), some (.ref r), some (.tup [encQ (e0 s), encQ (e1 s)]), some (.int (if b then 1 else 0)), o7] μ := by
  have lf : (ts.filter fun t => !decide (t = s)).length < ts.length := by
    have := hn.erase_eq_filter (a := s)
    have e2 : (ts.filter fun t => !decide (t = s)) = ts.erase s := by rw [this, flt_ne]
    rw [e2, List.length_erase_of_mem hs]
    have := List.length_pos_of_mem hs
    omega
  have cs : ∀ a n b : Nat, (if ((a : Nat) : Int) + ((n : Nat) : Int) < ((b : Nat) : Int) then ((a : Nat) : Int) + ((n : Nat) : Int) else ((b : Nat) : Int)) = (((if a + n < b then a + n else b) : Nat) : Int) := by
    intro a n b
    split <;> split <;> omega
  cases b with
  | false =>
    refine (ne_QH (e0 s) h μ (fun d μ1 => intR [d] μ1 fun d2 μ2 => (ifs3 (b3 (o3 ltR (v3 7) (v3 2))) (set3 2 (call3 min2R (cons3 (v3 2) (cons3 (o3 addR (v3 7) (call3 (spFew j) (cons3 (v3 4) (cons3 (o3 ixR (v3 5) (o3 subR (c3 (.int 1)) (v3 6))) nil3)))) nil3)))) next3) D' [some (.ref p), some (encH h), some (.int best), some (encT s), some (.ref r), some (.tup [encQ (e0 s), encQ (e1 s)]), some (.int 0), some d2] μ2)).mpr ?_
    show (ifs3 (b3 (o3 ltR (v3 7) (v3 2))) (set3 2 (call3 min2R (cons3 (v3 2) (cons3 (o3 addR (v3 7) (call3 (spFew j) (cons3 (v3 4) (cons3 (o3 ixR (v3 5) (o3 subR (c3 (.int 1)) (v3 6))) nil3)))) nil3)))) next3) D' [some (.ref p), some (encH h), some (.int best), some (encT s), some (.ref r), some (.tup [encQ (e0 s), encQ (e1 s)]), some (.int 0), some (.int (if (!decide (some (e0 s) = h)) = true then (1 : Int) else 0))] μ
    rw [more_eq]
    generalize hc : one (some (e0 s) = h) = c
    by_cases l : ((c : Nat) : Int) < ((best : Nat) : Int)
    · show if (decide (((c : Nat) : Int) < ((best : Nat) : Int))) = true then _ else _
      rw [if_pos (decide_eq_true l)]
      refine ⟨r, _, some (e1 s), rfl, er, hn.filter _, by omega, by omega, fun n μ1 ex f => ?_⟩
      show D'.nx [some (.ref p), some (encH h), some (.int (if ((c : Nat) : Int) + ((n : Nat) : Int) < ((best : Nat) : Int) then ((c : Nat) : Int) + ((n : Nat) : Int) else ((best : Nat) : Int))), some (encT s), some (.ref r), some (.tup [encQ (e0 s), encQ (e1 s)]), some (.int 0), _] μ1
      rw [cs]
      exact k _ _ μ1 ex (B.step (s, false) hn hs f hc.symm)
    · show if (decide (((c : Nat) : Int) < ((best : Nat) : Int))) = true then _ else _
      rw [if_neg (fun e => l (of_decide_eq_true e))]
      exact k best _ μ (fun _ _ h => h) (B.skip (s, false) hc.symm (by omega))
  | true =>
    refine (ne_QH (e1 s) h μ (fun d μ1 => intR [d] μ1 fun d2 μ2 => (ifs3 (b3 (o3 ltR (v3 7) (v3 2))) (set3 2 (call3 min2R (cons3 (v3 2) (cons3 (o3 addR (v3 7) (call3 (spFew j) (cons3 (v3 4) (cons3 (o3 ixR (v3 5) (o3 subR (c3 (.int 1)) (v3 6))) nil3)))) nil3)))) next3) D' [some (.ref p), some (encH h), some (.int best), some (encT s), some (.ref r), some (.tup [encQ (e0 s), encQ (e1 s)]), some (.int 1), some d2] μ2)).mpr ?_
    show (ifs3 (b3 (o3 ltR (v3 7) (v3 2))) (set3 2 (call3 min2R (cons3 (v3 2) (cons3 (o3 addR (v3 7) (call3 (spFew j) (cons3 (v3 4) (cons3 (o3 ixR (v3 5) (o3 subR (c3 (.int 1)) (v3 6))) nil3)))) nil3)))) next3) D' [some (.ref p), some (encH h), some (.int best), some (encT s), some (.ref r), some (.tup [encQ (e0 s), encQ (e1 s)]), some (.int 1), some (.int (if (!decide (some (e1 s) = h)) = true then (1 : Int) else 0))] μ
    rw [more_eq]
    generalize hc : one (some (e1 s) = h) = c
    by_cases l : ((c : Nat) : Int) < ((best : Nat) : Int)
    · show if (decide (((c : Nat) : Int) < ((best : Nat) : Int))) = true then _ else _
      rw [if_pos (decide_eq_true l)]
      refine ⟨r, _, some (e0 s), rfl, er, hn.filter _, by omega, by omega, fun n μ1 ex f => ?_⟩
      show D'.nx [some (.ref p), some (encH h), some (.int (if ((c : Nat) : Int) + ((n : Nat) : Int) < ((best : Nat) : Int) then ((c : Nat) : Int) + ((n : Nat) : Int) else ((best : Nat) : Int))), some (encT s), some (.ref r), some (.tup [encQ (e0 s), encQ (e1 s)]), some (.int 1), _] μ1
      rw [cs]
      exact k _ _ μ1 ex (B.step (s, true) hn hs f hc.symm)
    · show if (decide (((c : Nat) : Int) < ((best : Nat) : Int))) = true then _ else _
      rw [if_neg (fun e => l (of_decide_eq_true e))]
      exact k best _ μ (fun _ _ h => h) (B.skip (s, true) hc.symm (by omega))
theorem rd__law_fewest (j : Nat) (ds : List D) (μ : Mu) (Q : VK3) (hh : spFew (j + 1) ds μ Q) : t__law_fewest spLe (spFew j) { nx := fun _ μ' => Q .non μ', rt := Q } (start3 N__law_fewest ds) μ := by
  obtain ⟨p, ts, h, rfl, hp, hn, hj, hl, q⟩ := hh
  have hz : (1000 : Nat) < sizeLine := by decide
  refine ⟨Nat.zero_le _, fun e he => ?_⟩
  have ex0 : Ext μ (updM μ e (.lst [])) := Ext.new he
  have hp1 := ex0 _ _ hp
  show eqR (.ref p) (.ref e) (updM μ e (.lst [])) _
  rw [eq_LT (M := []) hp1 updM_same]
  generalize updM μ e (.lst []) = μ1 at ex0 hp1
  by_cases c : ts = []
  · show if (decide (ts = [])) = true then _ else _
    rw [if_pos (decide_eq_true c)]
    subst c
    refine q 0 μ1 ex0 ⟨⟨[], .refl _, rfl⟩, fun q _ => Nat.zero_le _⟩
  · show if (decide (ts = [])) = true then _ else _
    rw [if_neg (fun e => c (of_decide_eq_true e))]
    conv => whnf
    rw [hp1]
    conv => whnf
    rw [hp1]
    show forS3 _ _ _ _ _ [some (.ref p), some (encH h), some (.int (((ts.map encT).length : Int) + 1)), none, none, none, none, none] μ1
    rw [List.length_map, show ((ts.length : Int) + 1) = ((ts.length + 1 : Nat) : Int) from rfl]
    refine for_inv (fun l ρ μ' => ∃ (ks js : List T3) (best : Nat) (done : List Or) (x1 x2 x4 x5 x6 : Option D), l = ks.map encT ∧ js ++ ks = ts ∧ ρ = [some (.ref p), some (encH h), some (.int best), x1, x2, x4, x5, x6] ∧ Ext μ1 μ' ∧ Bst ts h done best ∧ ∀ s ∈ js, ∀ k, (s, k) ∈ done) ?_ ?_ ?_ ?_
    · exact ⟨ts, [], ts.length + 1, [], none, none, none, none, none, rfl, rfl, rfl, fun _ _ h => h, ⟨.inl rfl, fun _ h => nomatch h⟩, fun _ h => nomatch h⟩
    · rintro l ρ μ' ⟨ks, js, best, done, x1, x2, x4, x5, x6, _, _, _, ex, _⟩
      exact ex _ _ hp1
    · rintro ρ μ' ⟨ks, js, best, done, x1, x2, x4, x5, x6, e, ej, rfl, ex, B, al⟩
      cases ks with
      | cons _ _ => cases e
      | nil =>
        rw [List.append_nil] at ej
        subst ej
        exact q best μ' (ex0.trans ex) (B.end c al)
    · rintro x rest ρ μ' ⟨ks, js, best, done, x1, x2, x4, x5, x6, e, ej, rfl, ex, B, al⟩
      cases ks with
      | nil => cases e
      | cons s ks =>
        rw [List.map_cons] at e
        injection e with e2 e3
        subst e2 e3
        have hs : s ∈ ts := by rw [← ej]; simp
        have hp2 := ex _ _ hp1
        conv => whnf
        rw [hp2]
        intro r hr
        refine comp_flt (rest := [some (encT s)]) (fun d => !decide (decT d = s)) hr (by rw [List.length_map]; omega) (fun μ2 e => e _ _ hp2) ?_ ?_
        · intro x hx μ2 R e kk
          obtain ⟨t, ht, rfl⟩ := List.mem_map.mp hx
          exact (ne_TT t s μ2 (fun d μ1 => match d with | .bl c => R c μ1 | _ => False)).mpr kk
        · intro μ2 e2 er
          rw [flt_enc (fun t => !decide (t = s))] at er
          refine ⟨s, rfl, ⟨by decide, by decide⟩, ?_⟩
          show forS3 (fun _ => True) _ _ _ [.int 0, .int 1] [some (.ref p), some (encH h), some (.int best), some (encT s), some (.ref r), some (.tup [encQ (e0 s), encQ (e1 s)]), x5, x6] μ2
          refine for_two (fun ρ μ3 => ∃ (best : Nat) (o7 : Option D), ρ = [some (.ref p), some (encH h), some (.int best), some (encT s), some (.ref r), some (.tup [encQ (e0 s), encQ (e1 s)]), some (.int 0), o7] ∧ Ext μ2 μ3 ∧ Bst ts h ((s, false) :: done) best)
            (fun ρ μ3 => ∃ (best : Nat) (o7 : Option D), ρ = [some (.ref p), some (encH h), some (.int best), some (encT s), some (.ref r), some (.tup [encQ (e0 s), encQ (e1 s)]), some (.int 1), o7] ∧ Ext μ2 μ3 ∧ Bst ts h ((s, true) :: (s, false) :: done) best) ?_ ?_ ?_
          · exact few_step (b := false) hs hn hj hl er B fun best' o7 μ3 ex3 B3 => ⟨best', o7, rfl, ex3, B3⟩
          · rintro ρ μ3 ⟨b1, o7, rfl, ex3, B3⟩
            exact few_step (b := true) hs hn hj hl (ex3 _ _ er) B3 fun best' o7 μ4 ex4 B4 => ⟨best', o7, rfl, ex3.trans ex4, B4⟩
          · rintro ρ μ3 ⟨b1, o7, rfl, ex3, B3⟩
            refine ⟨ks, js ++ [s], b1, _, _, _, _, _, _, rfl, by rw [← ej]; simp, rfl, ex.trans (e2.trans ex3), B3, fun t ht k => ?_⟩
            rcases List.mem_append.mp ht with z | z
            · exact .tail _ (.tail _ (al t z k))
            · rw [List.mem_singleton] at z
              subst z
              cases k with
              | false => exact .tail _ (.head _)
              | true => exact .head _
noncomputable def spLaw : Sp3 := fun ds μ Q => ∃ ns : List Int, ds = [.fls (ns.map D.int)] ∧ ns.length ≤ 63 ∧ ∀ μ', Q (.bl true) μ'
theorem rd_law (ds : List D) (μ : Mu) (Q : VK3) (h : spLaw ds μ Q) : t_law spDense (spFew 6) spState spTn { nx := fun _ μ' => Q .non μ', rt := Q } (start3 N_law ds) μ := by
  obtain ⟨ns, rfl, hl, q⟩ := h
  refine ⟨ns, 0, rfl, by decide, fun a b z ha hz => ?_⟩
  refine ⟨z, 5, a, b, rfl, updM_same, ha, by decide, by decide, fun ts a1 b1 μ1 hP l1 a1n ez => ?_⟩
  refine ⟨ts, rfl, hP, by omega, fun us μ2 ex ip => ?_⟩
  intro r hr
  refine ⟨r, ts, none, rfl, updM_same, pc_nd hP, by omega, by omega, fun n μ3 ex3 f => ?_⟩
  rw [f.needs (pc_nd hP) ip]
  show Q (.bl (decide ((needs us : Int) = (needs us : Int)))) μ3
  rw [decide_eq_true rfl]
  exact q μ3
end Pv

namespace Pv
open PySem PySem.Spec PyProof.Rows L2
noncomputable def top (i : Nat) : Stmt := PySem.Challenge.pw_penwright_k30_whole_none_can_be_fewer.main.body.getD i (.Pass ⟨0, 0, 0, 0⟩)
section
variable {P : Program} {w : World} {K : Fg} {mg : Str → Option Value} {base : Heap}
noncomputable abbrev s_check_picture : Stmt := top 5
theorem sc_check_picture : FnScope N_check_picture ["picture"] (defScope s_check_picture) := ⟨rfl, rfl, rfl, by decide +kernel, rfl, by decide +kernel, by decide +kernel⟩
theorem rs_check_picture {k : Nat} {f : Addr} {cdv : Value} {A : Around} {outer : List Env} {s : Shared} {H : Hp} {E : XK} {sp_check_stroke : Sp3} {k_check_stroke : Nat} (c_check_stroke : Cal P w K mg base k_check_stroke "check_stroke" ["stroke"] sp_check_stroke) (l_check_stroke : k_check_stroke ≤ k) (z_len : mg "len" = none) (z_range : mg "range" = none) (hr : Room k (A.deeper (envOfC "check_picture" (defScope s_check_picture) s.heap.objs.size f cdv))) :
    RSs (cxOf CX0 P w K mg base N_check_picture "check_picture" (defScope s_check_picture) f cdv A outer s H E).nox (defBody s_check_picture) (t_check_picture sp_check_stroke) :=
  (rss_cons (rs_for PassesOwn.never rfl (ri_seq (re_var 0)) (rg_name (i := 1) sc_check_picture.nd) (rss_one (rs_expr (re_call (c_check_stroke.mono l_check_stroke) hr (ra_cons (re_var 1) ra_nil))))) (rss_one (rs_for PassesOwn.never rfl (ri_range2 z_range re_int (re_callB q_len z_len bz_len (ra_cons (re_var 0) ra_nil))) (rg_name (i := 2) sc_check_picture.nd) (rss_one (rs_if (rt_cmp (q_ge3 (hu64 hr)) (re_ix q_ix (re_var 0) (re_op q_sub (re_var 2) re_int)) (re_ix q_ix (re_var 0) (re_var 2))) (rss_one rs_never) rss_nil)))))
noncomputable abbrev s_check_stroke : Stmt := top 6
theorem sc_check_stroke : FnScope N_check_stroke ["stroke"] (defScope s_check_stroke) := ⟨rfl, rfl, rfl, by decide +kernel, rfl, by decide +kernel, by decide +kernel⟩
theorem rs_check_stroke {k : Nat} {f : Addr} {cdv : Value} {A : Around} {outer : List Env} {s : Shared} {H : Hp} {E : XK} (z_len : mg "len" = none) (g_WAYS : Gd K mg "WAYS" k_WAYS) (hr : Room k (A.deeper (envOfC "check_stroke" (defScope s_check_stroke) s.heap.objs.size f cdv))) :
    RSs (cxOf CX0 P w K mg base N_check_stroke "check_stroke" (defScope s_check_stroke) f cdv A outer s H E).nox (defBody s_check_stroke) (t_check_stroke) :=
  (rss_one (rs_if (rw_pt (rw_or (rt_cmp (q_ne (hu64 hr)) (re_callB q_len z_len bz_len (ra_cons (re_var 0) ra_nil)) re_int) (rw_or1 (rt_cmp (q_notin (hu65 hr)) (re_ix q_ix (re_var 0) re_int) (re_g g_WAYS))))) (rss_one rs_never) rss_nil))
noncomputable abbrev s_ends_of : Stmt := top 7
theorem sc_ends_of : FnScope N_ends_of ["stroke"] (defScope s_ends_of) := ⟨rfl, rfl, rfl, by decide +kernel, rfl, by decide +kernel, by decide +kernel⟩
theorem rs_ends_of {k : Nat} {f : Addr} {cdv : Value} {A : Around} {outer : List Env} {s : Shared} {H : Hp} {E : XK} (hr : Room k (A.deeper (envOfC "ends_of" (defScope s_ends_of) s.heap.objs.size f cdv))) :
    RSs (cxOf CX0 P w K mg base N_ends_of "ends_of" (defScope s_ends_of) f cdv A outer s H E).nox (defBody s_ends_of) (t_ends_of) :=
  (rss_cons (rs_if (rt_cmp (q_eq (hu64 hr)) (re_ix q_ix (re_var 0) re_int) re_int) (rss_one (rs_ret (re_tup (ra_cons (re_tup (ra_cons (re_ix q_ix (re_var 0) re_int) (ra_cons (re_ix q_ix (re_var 0) re_int) ra_nil))) (ra_cons (re_tup (ra_cons (re_op q_add (re_ix q_ix (re_var 0) re_int) re_int) (ra_cons (re_ix q_ix (re_var 0) re_int) ra_nil))) ra_nil))))) rss_nil) (rss_one (rs_ret (re_tup (ra_cons (re_tup (ra_cons (re_ix q_ix (re_var 0) re_int) (ra_cons (re_ix q_ix (re_var 0) re_int) ra_nil))) (ra_cons (re_tup (ra_cons (re_ix q_ix (re_var 0) re_int) (ra_cons (re_op q_add (re_ix q_ix (re_var 0) re_int) re_int) ra_nil))) ra_nil))))))
noncomputable abbrev s_picture_pieces : Stmt := top 9
theorem sc_picture_pieces : FnScope N_picture_pieces ["picture"] (defScope s_picture_pieces) := ⟨rfl, rfl, rfl, by decide +kernel, rfl, by decide +kernel, by decide +kernel⟩
theorem rs_picture_pieces {k : Nat} {f : Addr} {cdv : Value} {A : Around} {outer : List Env} {s : Shared} {H : Hp} {E : XK} {sp_check_picture : Sp3} {k_check_picture : Nat} (c_check_picture : Cal P w K mg base k_check_picture "check_picture" ["picture"] sp_check_picture) (l_check_picture : k_check_picture ≤ k) {sp_piece_with : Sp3} {k_piece_with : Nat} (c_piece_with : Cal P w K mg base k_piece_with "piece_with" ["stroke", "at", "seen"] sp_piece_with) (l_piece_with : k_piece_with ≤ k) {sp_strokes_at : Sp3} {k_strokes_at : Nat} (c_strokes_at : Cal P w K mg base k_strokes_at "strokes_at" ["picture"] sp_strokes_at) (l_strokes_at : k_strokes_at ≤ k) (hr : Room k (A.deeper (envOfC "picture_pieces" (defScope s_picture_pieces) s.heap.objs.size f cdv))) :
    RSs (cxOf CX0 P w K mg base N_picture_pieces "picture_pieces" (defScope s_picture_pieces) f cdv A outer s H E).nox (defBody s_picture_pieces) (t_picture_pieces sp_check_picture sp_piece_with sp_strokes_at) :=
  (rss_cons (rs_expr (re_call (c_check_picture.mono l_check_picture) hr (ra_cons (re_var 0) ra_nil))) (rss_cons (rs_set (i := 1) sc_picture_pieces.nd (re_call (c_strokes_at.mono l_strokes_at) hr (ra_cons (re_var 0) ra_nil))) (rss_cons (rs_set (i := 2) sc_picture_pieces.nd re_dnl) (rss_cons (rs_set (i := 3) sc_picture_pieces.nd (re_lst ra_nil)) (rss_cons (rs_for PassesOwn.never rfl (ri_seq (re_var 0)) (rg_name (i := 4) sc_picture_pieces.nd) (rss_one (rs_if (rt_cmp (q_dinN (hu64 hr)) (re_var 4) (re_var 2)) (rss_one (rs_expr (re_append (re_var 3) (ra_cons (re_call (c_piece_with.mono l_piece_with) hr (ra_cons (re_var 4) (ra_cons (re_var 1) (ra_cons (re_var 2) ra_nil)))) ra_nil)))) rss_nil))) (rss_one (rs_ret (re_var 3))))))))
noncomputable abbrev s_strokes_at : Stmt := top 10
theorem sc_strokes_at : FnScope N_strokes_at ["picture"] (defScope s_strokes_at) := ⟨rfl, rfl, rfl, by decide +kernel, rfl, by decide +kernel, by decide +kernel⟩
theorem rs_strokes_at {k : Nat} {f : Addr} {cdv : Value} {A : Around} {outer : List Env} {s : Shared} {H : Hp} {E : XK} {sp_ends_of : Sp3} {k_ends_of : Nat} (c_ends_of : Cal P w K mg base k_ends_of "ends_of" ["stroke"] sp_ends_of) (l_ends_of : k_ends_of ≤ k) (hr : Room k (A.deeper (envOfC "strokes_at" (defScope s_strokes_at) s.heap.objs.size f cdv))) :
    RSs (cxOf CX0 P w K mg base N_strokes_at "strokes_at" (defScope s_strokes_at) f cdv A outer s H E).nox (defBody s_strokes_at) (t_strokes_at sp_ends_of) :=
  (rss_cons (rs_set (i := 1) sc_strokes_at.nd re_dnl) (rss_cons (rs_for PassesOwn.never rfl (ri_seq (re_var 0)) (rg_name (i := 2) sc_strokes_at.nd) (rss_one (rs_for PassesOwn.never rfl (ri_seq (re_call (c_ends_of.mono l_ends_of) hr (ra_cons (re_var 2) ra_nil))) (rg_name (i := 3) sc_strokes_at.nd) (rss_one (rs_expr (re_append (re_sd (hu64 hr) (re_var 1) (ra_cons (re_var 3) (ra_cons (re_lst ra_nil) ra_nil))) (ra_cons (re_var 2) ra_nil))))))) (rss_one (rs_ret (re_var 1)))))
noncomputable abbrev s_piece_with : Stmt := top 11
theorem sc_piece_with : FnScope N_piece_with ["stroke", "at", "seen"] (defScope s_piece_with) := ⟨rfl, rfl, rfl, by decide +kernel, rfl, by decide +kernel, by decide +kernel⟩
theorem rs_piece_with {k : Nat} {f : Addr} {cdv : Value} {A : Around} {outer : List Env} {s : Shared} {H : Hp} {E : XK} {sp_ends_of : Sp3} {k_ends_of : Nat} (c_ends_of : Cal P w K mg base k_ends_of "ends_of" ["stroke"] sp_ends_of) (l_ends_of : k_ends_of ≤ k) {sp_take_unseen : Sp3} {k_take_unseen : Nat} (c_take_unseen : Cal P w K mg base k_take_unseen "take_unseen" ["strokes", "seen"] sp_take_unseen) (l_take_unseen : k_take_unseen ≤ k) (z_len : mg "len" = none) (z_sorted : mg "sorted" = none) (z_tuple : mg "tuple" = none) (hr : Room k (A.deeper (envOfC "piece_with" (defScope s_piece_with) s.heap.objs.size f cdv))) :
    RSs (cxOf CX0 P w K mg base N_piece_with "piece_with" (defScope s_piece_with) f cdv A outer s H E).nox (defBody s_piece_with) (t_piece_with sp_ends_of sp_take_unseen) :=
  (rss_cons (rs_dput (hu64 hr) (re_var 2) (re_var 0) re_bl) (rss_cons (rs_set (i := 3) sc_piece_with.nd (re_lst (ra_cons (re_var 0) ra_nil))) (rss_cons (rs_set (i := 4) sc_piece_with.nd re_int) (rss_cons (rs_while PassesOwn.never (rt_cmp q_lt (re_var 4) (re_callB q_len z_len bz_len (ra_cons (re_var 3) ra_nil))) (rss_cons (rs_set (i := 5) sc_piece_with.nd (re_ix q_ix (re_var 3) (re_var 4))) (rss_cons (rs_for PassesOwn.never rfl (ri_seq (re_call (c_ends_of.mono l_ends_of) hr (ra_cons (re_var 5) ra_nil))) (rg_name (i := 6) sc_piece_with.nd) (rss_one (rs_expr (re_extend (re_var 3) (ra_cons (re_call (c_take_unseen.mono l_take_unseen) hr (ra_cons (re_dg (hu64 hr) (re_var 1) (re_var 6)) (ra_cons (re_var 2) ra_nil))) ra_nil))))) (rss_one (rs_set (i := 4) sc_piece_with.nd (re_op q_add (re_var 4) re_int)))))) (rss_one (rs_ret (re_callTy q_tuple z_tuple bz_tuple (ra_cons (re_callB (q_sortedA rfl) z_sorted bz_sorted (ra_cons (re_var 3) ra_nil)) ra_nil))))))))
noncomputable abbrev s_take_unseen : Stmt := top 12
theorem sc_take_unseen : FnScope N_take_unseen ["strokes", "seen"] (defScope s_take_unseen) := ⟨rfl, rfl, rfl, by decide +kernel, rfl, by decide +kernel, by decide +kernel⟩
theorem rs_take_unseen {k : Nat} {f : Addr} {cdv : Value} {A : Around} {outer : List Env} {s : Shared} {H : Hp} {E : XK} (hr : Room k (A.deeper (envOfC "take_unseen" (defScope s_take_unseen) s.heap.objs.size f cdv))) :
    RSs (cxOf CX0 P w K mg base N_take_unseen "take_unseen" (defScope s_take_unseen) f cdv A outer s H E).nox (defBody s_take_unseen) (t_take_unseen) :=
  (rss_cons (rs_setCG (i := 2) sc_take_unseen.nd (NN := ["stroke", "seen"]) (js := [none, some 1]) rfl comp_sc (ri_seq (re_var 0)) (fun _ _ _ _ _ => (rg_name (i := 0) (show List.Nodup (["stroke", "seen"] : List Str) by decide +kernel))) (fun _ _ _ _ _ => (rts_one (rt_cmp (q_dinN (hu64 hr)) (re_var 0) (re_var 1)))) (fun _ _ _ _ _ => (re_var 0)) (by intro _; rfl)) (rss_cons (rs_for PassesOwn.never rfl (ri_seq (re_var 2)) (rg_name (i := 3) sc_take_unseen.nd) (rss_one (rs_dput (hu64 hr) (re_var 1) (re_var 3) re_bl))) (rss_one (rs_ret (re_var 2)))))
noncomputable abbrev s_odd_points : Stmt := top 13
theorem sc_odd_points : FnScope N_odd_points ["picture"] (defScope s_odd_points) := ⟨rfl, rfl, rfl, by decide +kernel, rfl, by decide +kernel, by decide +kernel⟩
theorem rs_odd_points {k : Nat} {f : Addr} {cdv : Value} {A : Around} {outer : List Env} {s : Shared} {H : Hp} {E : XK} {sp_check_picture : Sp3} {k_check_picture : Nat} (c_check_picture : Cal P w K mg base k_check_picture "check_picture" ["picture"] sp_check_picture) (l_check_picture : k_check_picture ≤ k) {sp_strokes_at : Sp3} {k_strokes_at : Nat} (c_strokes_at : Cal P w K mg base k_strokes_at "strokes_at" ["picture"] sp_strokes_at) (l_strokes_at : k_strokes_at ≤ k) (z_len : mg "len" = none) (z_sorted : mg "sorted" = none) (hr : Room k (A.deeper (envOfC "odd_points" (defScope s_odd_points) s.heap.objs.size f cdv))) :
    RSs (cxOf CX0 P w K mg base N_odd_points "odd_points" (defScope s_odd_points) f cdv A outer s H E).nox (defBody s_odd_points) (t_odd_points sp_check_picture sp_strokes_at) :=
  (rss_cons (rs_expr (re_call (c_check_picture.mono l_check_picture) hr (ra_cons (re_var 0) ra_nil))) (rss_cons (rs_set (i := 1) sc_odd_points.nd (re_call (c_strokes_at.mono l_strokes_at) hr (ra_cons (re_var 0) ra_nil))) (rss_one (rs_ret (re_callB q_sorted2 z_sorted bz_sorted (ra_cons (re_compG (NN := ["point", "at"]) (js := [none, some 1]) rfl comp_sc (ri_dct (re_var 1)) (fun _ _ _ _ _ => (rg_name (i := 0) (show List.Nodup (["point", "at"] : List Str) by decide +kernel))) (fun _ _ _ _ _ => (rts_one (rt_cmp (q_eq (hu64 hr)) (re_op q_mod (re_callB q_len z_len bz_len (ra_cons (re_dg (hu64 hr) (re_var 1) (re_var 0)) ra_nil)) re_int) re_int))) (fun _ _ _ _ _ => (re_var 0)) (by intro _; rfl)) ra_nil))))))
noncomputable abbrev s_trails_needed : Stmt := top 14
theorem sc_trails_needed : FnScope N_trails_needed ["picture"] (defScope s_trails_needed) := ⟨rfl, rfl, rfl, by decide +kernel, rfl, by decide +kernel, by decide +kernel⟩
theorem rs_trails_needed {k : Nat} {f : Addr} {cdv : Value} {A : Around} {outer : List Env} {s : Shared} {H : Hp} {E : XK} {sp_picture_pieces : Sp3} {k_picture_pieces : Nat} (c_picture_pieces : Cal P w K mg base k_picture_pieces "picture_pieces" ["picture"] sp_picture_pieces) (l_picture_pieces : k_picture_pieces ≤ k) {sp_trails_of_piece_needed : Sp3} {k_trails_of_piece_needed : Nat} (c_trails_of_piece_needed : Cal P w K mg base k_trails_of_piece_needed "trails_of_piece_needed" ["piece"] sp_trails_of_piece_needed) (l_trails_of_piece_needed : k_trails_of_piece_needed ≤ k) (z_sum : mg "sum" = none) (hr : Room k (A.deeper (envOfC "trails_needed" (defScope s_trails_needed) s.heap.objs.size f cdv))) :
    RSs (cxOf CX0 P w K mg base N_trails_needed "trails_needed" (defScope s_trails_needed) f cdv A outer s H E).nox (defBody s_trails_needed) (t_trails_needed sp_picture_pieces sp_trails_of_piece_needed) :=
  (rss_one (rs_ret (re_callB q_sum z_sum bz_sum (ra_cons (re_comp (NN := ["piece"]) (by decide +kernel) (by decide +kernel) (by decide +kernel) (ri_seq (re_call (c_picture_pieces.mono l_picture_pieces) hr (ra_cons (re_var 0) ra_nil))) (fun _ _ _ _ _ => (rg_name (i := 0) (show List.Nodup (["piece"] : List Str) by decide +kernel))) (fun _ _ _ _ _ => rts_nil) (fun _ _ _ _ _ => (re_call (c_trails_of_piece_needed.mono l_trails_of_piece_needed) hr (ra_cons (re_var 0) ra_nil)))) ra_nil))))
noncomputable abbrev s_trails_of_piece_needed : Stmt := top 15
theorem sc_trails_of_piece_needed : FnScope N_trails_of_piece_needed ["piece"] (defScope s_trails_of_piece_needed) := ⟨rfl, rfl, rfl, by decide +kernel, rfl, by decide +kernel, by decide +kernel⟩
theorem rs_trails_of_piece_needed {k : Nat} {f : Addr} {cdv : Value} {A : Around} {outer : List Env} {s : Shared} {H : Hp} {E : XK} {sp_odd_points : Sp3} {k_odd_points : Nat} (c_odd_points : Cal P w K mg base k_odd_points "odd_points" ["picture"] sp_odd_points) (l_odd_points : k_odd_points ≤ k) (z_len : mg "len" = none) (z_max : mg "max" = none) (hr : Room k (A.deeper (envOfC "trails_of_piece_needed" (defScope s_trails_of_piece_needed) s.heap.objs.size f cdv))) :
    RSs (cxOf CX0 P w K mg base N_trails_of_piece_needed "trails_of_piece_needed" (defScope s_trails_of_piece_needed) f cdv A outer s H E).nox (defBody s_trails_of_piece_needed) (t_trails_of_piece_needed sp_odd_points) :=
  (rss_one (rs_ret (re_callB (q_mx rfl) z_max bz_max (ra_cons re_int (ra_cons (re_op q_fdiv (re_callB q_len z_len bz_len (ra_cons (re_call (c_odd_points.mono l_odd_points) hr (ra_cons (re_var 0) ra_nil)) ra_nil)) re_int) ra_nil)))))
noncomputable abbrev s__law_cell_at : Stmt := top 17
theorem sc__law_cell_at : FnScope N__law_cell_at ["script", "k"] (defScope s__law_cell_at) := ⟨rfl, rfl, rfl, by decide +kernel, rfl, by decide +kernel, by decide +kernel⟩
theorem rs__law_cell_at {k : Nat} {f : Addr} {cdv : Value} {A : Around} {outer : List Env} {s : Shared} {H : Hp} {E : XK} (z_len : mg "len" = none) (hr : Room k (A.deeper (envOfC "_law_cell_at" (defScope s__law_cell_at) s.heap.objs.size f cdv))) :
    RSs (cxOf CX0 P w K mg base N__law_cell_at "_law_cell_at" (defScope s__law_cell_at) f cdv A outer s H E).nox (defBody s__law_cell_at) (t__law_cell_at) :=
  (rss_cons (rs_if (rt_cmp q_lt (re_var 1) (re_callB q_len z_len bz_len (ra_cons (re_var 0) ra_nil))) (rss_one (rs_ret (re_ix q_ix (re_var 0) (re_var 1)))) rss_nil) (rss_one (rs_ret re_int)))
noncomputable abbrev s__law_state : Stmt := top 18
theorem sc__law_state : FnScope N__law_state ["script", "k"] (defScope s__law_state) := ⟨rfl, rfl, rfl, by decide +kernel, rfl, by decide +kernel, by decide +kernel⟩
theorem rs__law_state {k : Nat} {f : Addr} {cdv : Value} {A : Around} {outer : List Env} {s : Shared} {H : Hp} {E : XK} {sp__law_cell_at : Sp3} {k__law_cell_at : Nat} (c__law_cell_at : Cal P w K mg base k__law_cell_at "_law_cell_at" ["script", "k"] sp__law_cell_at) (l__law_cell_at : k__law_cell_at ≤ k) (hr : Room k (A.deeper (envOfC "_law_state" (defScope s__law_state) s.heap.objs.size f cdv))) :
    RSs (cxOf CX0 P w K mg base N__law_state "_law_state" (defScope s__law_state) f cdv A outer s H E).nox (defBody s__law_state) (t__law_state sp__law_cell_at) :=
  (rss_cons (rs_set (i := 2) sc__law_state.nd (re_call (c__law_cell_at.mono l__law_cell_at) hr (ra_cons (re_var 0) (ra_cons (re_var 1) ra_nil)))) (rss_cons (rs_if (rt_cmp (q_ge3 (hu64 hr)) (re_var 2) (re_op q_pow re_int re_int)) (rss_one (rs_ret (re_lst (ra_cons (re_op q_sub (re_var 2) (re_op q_pow re_int re_int)) (ra_cons re_bl ra_nil))))) rss_nil) (rss_one (rs_ret (re_lst (ra_cons (re_op q_mod (re_var 2) re_int) (ra_cons re_bl ra_nil)))))))
noncomputable abbrev s__law_choice : Stmt := top 19
theorem sc__law_choice : FnScope N__law_choice ["state", "many"] (defScope s__law_choice) := ⟨rfl, rfl, rfl, by decide +kernel, rfl, by decide +kernel, by decide +kernel⟩
theorem rs__law_choice {k : Nat} {f : Addr} {cdv : Value} {A : Around} {outer : List Env} {s : Shared} {H : Hp} {E : XK} (hr : Room k (A.deeper (envOfC "_law_choice" (defScope s__law_choice) s.heap.objs.size f cdv))) :
    RSs (cxOf CX0 P w K mg base N__law_choice "_law_choice" (defScope s__law_choice) f cdv A outer s H E).nox (defBody s__law_choice) (t__law_choice) :=
  (rss_cons (rs_if (rt_val (re_ix q_ix (re_var 0) re_int)) (rss_cons (rs_set (i := 2) sc__law_choice.nd (re_op q_mod (re_ix q_ix (re_var 0) re_int) (re_var 1))) (rss_cons (rs_asg (re_op q_fdiv (re_ix q_ix (re_var 0) re_int) (re_var 1)) (rg_sub (re_var 0) re_int)) (rss_one (rs_ret (re_var 2))))) rss_nil) (rss_cons (rs_asg (re_op q_mod (re_op q_add (re_op q_mul (re_ix q_ix (re_var 0) re_int) re_int) re_int) re_int) (rg_sub (re_var 0) re_int)) (rss_cons (rs_set (i := 3) sc__law_choice.nd (re_op q_mod (re_op q_add (re_op q_add (re_op q_mul (re_ix q_ix (re_var 0) re_int) (re_ix q_ix (re_var 0) re_int)) (re_op q_mul re_int (re_ix q_ix (re_var 0) re_int))) re_int) re_int)) (rss_cons (rs_set (i := 3) sc__law_choice.nd (re_op q_mod (re_op q_add (re_op q_mul (re_var 3) (re_var 3)) (re_op q_mul re_int (re_var 3))) re_int)) (rss_one (rs_ret (re_op q_mod (re_op q_fdiv (re_var 3) re_int) (re_var 1))))))))
noncomputable abbrev s__law_dense : Stmt := top 20
theorem sc__law_dense : FnScope N__law_dense ["state", "most"] (defScope s__law_dense) := ⟨rfl, rfl, rfl, by decide +kernel, rfl, by decide +kernel, by decide +kernel⟩
theorem rs__law_dense {k : Nat} {f : Addr} {cdv : Value} {A : Around} {outer : List Env} {s : Shared} {H : Hp} {E : XK} {sp__law_choice : Sp3} {k__law_choice : Nat} (c__law_choice : Cal P w K mg base k__law_choice "_law_choice" ["state", "many"] sp__law_choice) (l__law_choice : k__law_choice ≤ k) (z_range : mg "range" = none) (z_sorted : mg "sorted" = none) (z_tuple : mg "tuple" = none) (hr : Room k (A.deeper (envOfC "_law_dense" (defScope s__law_dense) s.heap.objs.size f cdv))) :
    RSs (cxOf CX0 P w K mg base N__law_dense "_law_dense" (defScope s__law_dense) f cdv A outer s H E).nox (defBody s__law_dense) (t__law_dense sp__law_choice) :=
  (rss_cons (rs_set (i := 2) sc__law_dense.nd re_dnew) (rss_cons (rs_set (i := 3) sc__law_dense.nd (re_op q_add re_int (re_call (c__law_choice.mono l__law_choice) hr (ra_cons (re_var 0) (ra_cons re_int ra_nil))))) (rss_cons (rs_for PassesOwn.never rfl (ri_range1 z_range (re_call (c__law_choice.mono l__law_choice) hr (ra_cons (re_var 0) (ra_cons (re_op q_add (re_var 1) re_int) ra_nil)))) (rg_name (i := 4) sc__law_dense.nd) (rss_one (rs_dset (hu64 hr) (re_var 2) (ra_cons (re_call (c__law_choice.mono l__law_choice) hr (ra_cons (re_var 0) (ra_cons (re_var 3) ra_nil))) (ra_cons (re_call (c__law_choice.mono l__law_choice) hr (ra_cons (re_var 0) (ra_cons (re_var 3) ra_nil))) (ra_cons (re_call (c__law_choice.mono l__law_choice) hr (ra_cons (re_var 0) (ra_cons re_int ra_nil))) ra_nil))) re_bl))) (rss_one (rs_ret (re_callTy q_tuple z_tuple bz_tuple (ra_cons (re_callB (q_sortedA rfl) z_sorted bz_sorted (ra_cons (re_var 2) ra_nil)) ra_nil)))))))
noncomputable abbrev s__law_ends : Stmt := top 21
theorem sc__law_ends : FnScope N__law_ends ["stroke"] (defScope s__law_ends) := ⟨rfl, rfl, rfl, by decide +kernel, rfl, by decide +kernel, by decide +kernel⟩
theorem rs__law_ends {k : Nat} {f : Addr} {cdv : Value} {A : Around} {outer : List Env} {s : Shared} {H : Hp} {E : XK} (hr : Room k (A.deeper (envOfC "_law_ends" (defScope s__law_ends) s.heap.objs.size f cdv))) :
    RSs (cxOf CX0 P w K mg base N__law_ends "_law_ends" (defScope s__law_ends) f cdv A outer s H E).nox (defBody s__law_ends) (t__law_ends) :=
  (rss_cons (rs_asg (re_var 0) (rg_tup rfl (rgs_cons (rg_name (i := 1) sc__law_ends.nd) (rgs_cons (rg_name (i := 2) sc__law_ends.nd) (rgs_cons (rg_name (i := 3) sc__law_ends.nd) rgs_nil))))) (rss_one (rs_ret (re_tup (ra_cons (re_tup (ra_cons (re_var 1) (ra_cons (re_var 2) ra_nil))) (ra_cons (re_tup (ra_cons (re_op q_sub (re_op q_add (re_var 1) re_int) (re_var 3)) (ra_cons (re_op q_add (re_var 2) (re_var 3)) ra_nil))) ra_nil))))))
noncomputable abbrev s__law_fewest : Stmt := top 23
theorem sc__law_fewest : FnScope N__law_fewest ["left", "here"] (defScope s__law_fewest) := ⟨rfl, rfl, rfl, by decide +kernel, rfl, by decide +kernel, by decide +kernel⟩
theorem rs__law_fewest {k : Nat} {f : Addr} {cdv : Value} {A : Around} {outer : List Env} {s : Shared} {H : Hp} {E : XK} {sp__law_ends : Sp3} {k__law_ends : Nat} (c__law_ends : Cal P w K mg base k__law_ends "_law_ends" ["stroke"] sp__law_ends) (l__law_ends : k__law_ends ≤ k) {sp__law_fewest : Sp3} {k__law_fewest : Nat} (c__law_fewest : Cal P w K mg base k__law_fewest "_law_fewest" ["left", "here"] sp__law_fewest) (l__law_fewest : k__law_fewest ≤ k) (z_int : mg "int" = none) (z_len : mg "len" = none) (z_min : mg "min" = none) (z_range : mg "range" = none) (hr : Room k (A.deeper (envOfC "_law_fewest" (defScope s__law_fewest) s.heap.objs.size f cdv))) :
    RSs (cxOf CX0 P w K mg base N__law_fewest "_law_fewest" (defScope s__law_fewest) f cdv A outer s H E).nox (defBody s__law_fewest) (t__law_fewest sp__law_ends sp__law_fewest) :=
  (rss_cons (rs_if (rt_cmp (q_eq (hu64 hr)) (re_var 0) (re_lst ra_nil)) (rss_one (rs_ret re_int)) rss_nil) (rss_cons (rs_set (i := 2) sc__law_fewest.nd (re_op q_add (re_callB q_len z_len bz_len (ra_cons (re_var 0) ra_nil)) re_int)) (rss_cons (rs_for PassesOwn.never rfl (ri_seq (re_var 0)) (rg_name (i := 3) sc__law_fewest.nd) (rss_cons (rs_setCG (i := 4) sc__law_fewest.nd (NN := ["other", "stroke"]) (js := [none, some 3]) rfl comp_sc (ri_seq (re_var 0)) (fun _ _ _ _ _ => (rg_name (i := 0) (show List.Nodup (["other", "stroke"] : List Str) by decide +kernel))) (fun _ _ _ _ _ => (rts_one (rt_cmp (q_ne (hu64 hr)) (re_var 0) (re_var 1)))) (fun _ _ _ _ _ => (re_var 0)) (by intro _; rfl)) (rss_cons (rs_set (i := 5) sc__law_fewest.nd (re_call (c__law_ends.mono l__law_ends) hr (ra_cons (re_var 3) ra_nil))) (rss_one (rs_for PassesOwn.never rfl (ri_range1 z_range re_int) (rg_name (i := 6) sc__law_fewest.nd) (rss_cons (rs_set (i := 7) sc__law_fewest.nd (re_callTy q_int z_int bz_int (ra_cons (re_cmp (q_ne (hu64 hr)) (re_ix q_ix (re_var 5) (re_var 6)) (re_var 1)) ra_nil))) (rss_one (rs_if (rt_cmp q_lt (re_var 7) (re_var 2)) (rss_one (rs_set (i := 2) sc__law_fewest.nd (re_callB (q_min2 rfl) z_min bz_min (ra_cons (re_var 2) (ra_cons (re_op q_add (re_var 7) (re_call (c__law_fewest.mono l__law_fewest) hr (ra_cons (re_var 4) (ra_cons (re_ix q_ix (re_var 5) (re_op q_sub re_int (re_var 6))) ra_nil)))) ra_nil))))) rss_nil)))))))) (rss_one (rs_ret (re_var 2))))))
noncomputable abbrev s_law : Stmt := top 24
theorem sc_law : FnScope N_law ["script"] (defScope s_law) := ⟨rfl, rfl, rfl, by decide +kernel, rfl, by decide +kernel, by decide +kernel⟩
theorem rs_law {k : Nat} {f : Addr} {cdv : Value} {A : Around} {outer : List Env} {s : Shared} {H : Hp} {E : XK} {sp__law_dense : Sp3} {k__law_dense : Nat} (c__law_dense : Cal P w K mg base k__law_dense "_law_dense" ["state", "most"] sp__law_dense) (l__law_dense : k__law_dense ≤ k) {sp__law_fewest : Sp3} {k__law_fewest : Nat} (c__law_fewest : Cal P w K mg base k__law_fewest "_law_fewest" ["left", "here"] sp__law_fewest) (l__law_fewest : k__law_fewest ≤ k) {sp__law_state : Sp3} {k__law_state : Nat} (c__law_state : Cal P w K mg base k__law_state "_law_state" ["script", "k"] sp__law_state) (l__law_state : k__law_state ≤ k) {sp_trails_needed : Sp3} {k_trails_needed : Nat} (c_trails_needed : Cal P w K mg base k_trails_needed "trails_needed" ["picture"] sp_trails_needed) (l_trails_needed : k_trails_needed ≤ k) (z_list : mg "list" = none) (hr : Room k (A.deeper (envOfC "law" (defScope s_law) s.heap.objs.size f cdv))) :
    RSs (cxOf CX0 P w K mg base N_law "law" (defScope s_law) f cdv A outer s H E).nox (defBody s_law) (t_law sp__law_dense sp__law_fewest sp__law_state sp_trails_needed) :=
  (rss_cons (rs_set (i := 1) sc_law.nd (re_call (c__law_state.mono l__law_state) hr (ra_cons (re_var 0) (ra_cons re_int ra_nil)))) (rss_cons (rs_set (i := 2) sc_law.nd (re_call (c__law_dense.mono l__law_dense) hr (ra_cons (re_var 1) (ra_cons re_int ra_nil)))) (rss_one (rs_ret (re_cmp (q_eq (hu64 hr)) (re_call (c_trails_needed.mono l_trails_needed) hr (ra_cons (re_var 2) ra_nil)) (re_call (c__law_fewest.mono l__law_fewest) hr (ra_cons (re_callTy q_list z_list bz_list (ra_cons (re_var 2) ra_nil)) (ra_cons re_non ra_nil))))))))

end
end Pv

namespace Pv
open PySem PySem.Spec PyProof.Rows L2
theorem bn1 {P : List Value → Prop} (h : ∀ a, P [a]) (us : List Value) (e : us.length = 1) : P us := by
  match us, e with
  | [a], _ => exact h a
theorem bn2 {P : List Value → Prop} (h : ∀ a b, P [a, b]) (us : List Value) (e : us.length = 2) : P us := by
  match us, e with
  | [a, b], _ => exact h a b
theorem bn3 {P : List Value → Prop} (h : ∀ a b c, P [a, b, c]) (us : List Value) (e : us.length = 3) : P us := by
  match us, e with
  | [a, b, c], _ => exact h a b c
noncomputable abbrev NsR (K : Fg) (x : Str) (p : Addr) : Prop := PySem.W.nsIn K mainGlobals x = some (some (.ref p))
noncomputable def FnA (K : Fg) (x : Str) (st : Stmt) (p : Addr) : Prop := ∃ oc od sl kV dc pm an cd ct, K.lookup p = some ⟨oc, od, .func (PySem.W.fnOf x x (defArgs st) (defBody st) (defScope st) .none kV dc pm an cd ct), sl⟩ ∧ PySem.W.codeIn K cd x = true ∧ PySem.W.keepIn K (.ref p) = true
theorem fnA_mk {K : Fg} {x : Str} {st : Stmt} {p : Addr} {oc kV dc pm cd ct : Value} {od an : Option Addr} {sl : Array (Option Value)} (l : K.lookup p = some ⟨oc, od, .func (PySem.W.fnOf x x (defArgs st) (defBody st) (defScope st) .none kV dc pm an cd ct), sl⟩) (c : PySem.W.codeIn K cd x = true) (k : PySem.W.keepIn K (.ref p) = true) : FnA K x st p := ⟨_, _, _, _, _, _, _, _, _, l, c, k⟩
theorem FnA.fn {K : Fg} {x : Str} {st : Stmt} {p : Addr} (h : FnA K x st p) : ∃ fd, Fun K x x st p fd := by
  obtain ⟨_, _, _, _, _, _, _, _, _, l, c, k⟩ := h
  exact ⟨_, fun_mk (st := st) l c k⟩
theorem all_mk {l : PySem.W.OpenLaw} {w : World} {K : Fg} {h : Heap} {mg : Str → Option Value} {fa : Addr} (X : K.In h) (G : h.Ns mainGlobals mg) (hfa : mg "law" = some (.ref fa))
    {p_check_picture : Addr}
    {p_check_stroke : Addr}
    {p_ends_of : Addr}
    {p_picture_pieces : Addr}
    {p_strokes_at : Addr}
    {p_piece_with : Addr}
    {p_take_unseen : Addr}
    {p_odd_points : Addr}
    {p_trails_needed : Addr}
    {p_trails_of_piece_needed : Addr}
    {p__law_cell_at : Addr}
    {p__law_state : Addr}
    {p__law_choice : Addr}
    {p__law_dense : Addr}
    {p__law_ends : Addr}
    {p__law_fewest : Addr}
    {p_law : Addr}
    {t_2 : Tok}
    {t_3 : Tok}
    {q_1 : Addr} {qo_1 : Option Addr} {qn_1 : Nat} {qs_1 : Array (Option Value)}
    (a_check_picture : NsR K "check_picture" p_check_picture) (A_check_picture : FnA K "check_picture" s_check_picture p_check_picture)
    (a_check_stroke : NsR K "check_stroke" p_check_stroke) (A_check_stroke : FnA K "check_stroke" s_check_stroke p_check_stroke)
    (a_ends_of : NsR K "ends_of" p_ends_of) (A_ends_of : FnA K "ends_of" s_ends_of p_ends_of)
    (a_picture_pieces : NsR K "picture_pieces" p_picture_pieces) (A_picture_pieces : FnA K "picture_pieces" s_picture_pieces p_picture_pieces)
    (a_strokes_at : NsR K "strokes_at" p_strokes_at) (A_strokes_at : FnA K "strokes_at" s_strokes_at p_strokes_at)
    (a_piece_with : NsR K "piece_with" p_piece_with) (A_piece_with : FnA K "piece_with" s_piece_with p_piece_with)
    (a_take_unseen : NsR K "take_unseen" p_take_unseen) (A_take_unseen : FnA K "take_unseen" s_take_unseen p_take_unseen)
    (a_odd_points : NsR K "odd_points" p_odd_points) (A_odd_points : FnA K "odd_points" s_odd_points p_odd_points)
    (a_trails_needed : NsR K "trails_needed" p_trails_needed) (A_trails_needed : FnA K "trails_needed" s_trails_needed p_trails_needed)
    (a_trails_of_piece_needed : NsR K "trails_of_piece_needed" p_trails_of_piece_needed) (A_trails_of_piece_needed : FnA K "trails_of_piece_needed" s_trails_of_piece_needed p_trails_of_piece_needed)
    (a__law_cell_at : NsR K "_law_cell_at" p__law_cell_at) (A__law_cell_at : FnA K "_law_cell_at" s__law_cell_at p__law_cell_at)
    (a__law_state : NsR K "_law_state" p__law_state) (A__law_state : FnA K "_law_state" s__law_state p__law_state)
    (a__law_choice : NsR K "_law_choice" p__law_choice) (A__law_choice : FnA K "_law_choice" s__law_choice p__law_choice)
    (a__law_dense : NsR K "_law_dense" p__law_dense) (A__law_dense : FnA K "_law_dense" s__law_dense p__law_dense)
    (a__law_ends : NsR K "_law_ends" p__law_ends) (A__law_ends : FnA K "_law_ends" s__law_ends p__law_ends)
    (a__law_fewest : NsR K "_law_fewest" p__law_fewest) (A__law_fewest : FnA K "_law_fewest" s__law_fewest p__law_fewest)
    (a_law : NsR K "law" p_law) (A_law : FnA K "law" s_law p_law)
    (e_WAYS : PySem.W.nsIn K mainGlobals "WAYS" = some (some (.ref q_1)))
    (ql_1 : K.lookup q_1 = some ⟨.type "tuple", qo_1, .seq #[.int (0) t_2, .int (1) t_3] qn_1, qs_1⟩)
    (zz_int : PySem.W.nsIn K mainGlobals "int" = some none)
    (zz_len : PySem.W.nsIn K mainGlobals "len" = some none)
    (zz_list : PySem.W.nsIn K mainGlobals "list" = some none)
    (zz_max : PySem.W.nsIn K mainGlobals "max" = some none)
    (zz_min : PySem.W.nsIn K mainGlobals "min" = some none)
    (zz_range : PySem.W.nsIn K mainGlobals "range" = some none)
    (zz_sorted : PySem.W.nsIn K mainGlobals "sorted" = some none)
    (zz_sum : PySem.W.nsIn K mainGlobals "sum" = some none)
    (zz_tuple : PySem.W.nsIn K mainGlobals "tuple" = some none) :
    ∃ fd : FuncData, (∀ (s : Shared) (v : Value), BindsTo s fd ⟨[v], []⟩ [("script", v)]) ∧ ∀ base : Heap, K.In base → base.Ns mainGlobals mg → FnOk l.prog w K mg base CX0 8 fa fd ["script"] (lift K spLaw) := by
  have e := hfa.symm.trans (PySem.W.mg_of X G a_law)
  cases e
  have g_WAYS : Gd K mg "WAYS" k_WAYS := gd_tup X G e_WAYS (TupK.mk ql_1 (show 2 ≤ sizeLine by decide) (.int (.int .nil)))
  have z_int := PySem.W.mg_none_of X G zz_int
  have z_len := PySem.W.mg_none_of X G zz_len
  have z_list := PySem.W.mg_none_of X G zz_list
  have z_max := PySem.W.mg_none_of X G zz_max
  have z_min := PySem.W.mg_none_of X G zz_min
  have z_range := PySem.W.mg_none_of X G zz_range
  have z_sorted := PySem.W.mg_none_of X G zz_sorted
  have z_sum := PySem.W.mg_none_of X G zz_sum
  have z_tuple := PySem.W.mg_none_of X G zz_tuple
  obtain ⟨_, F_check_picture⟩ := A_check_picture.fn
  have b_check_picture := F_check_picture.binds (ps := ["picture"]) fun _ _ _ _ _ _ => bn1 fun _ => rfl
  have m_check_picture := PySem.W.mg_of X G a_check_picture
  obtain ⟨_, F_check_stroke⟩ := A_check_stroke.fn
  have b_check_stroke := F_check_stroke.binds (ps := ["stroke"]) fun _ _ _ _ _ _ => bn1 fun _ => rfl
  have m_check_stroke := PySem.W.mg_of X G a_check_stroke
  obtain ⟨_, F_ends_of⟩ := A_ends_of.fn
  have b_ends_of := F_ends_of.binds (ps := ["stroke"]) fun _ _ _ _ _ _ => bn1 fun _ => rfl
  have m_ends_of := PySem.W.mg_of X G a_ends_of
  obtain ⟨_, F_picture_pieces⟩ := A_picture_pieces.fn
  have b_picture_pieces := F_picture_pieces.binds (ps := ["picture"]) fun _ _ _ _ _ _ => bn1 fun _ => rfl
  have m_picture_pieces := PySem.W.mg_of X G a_picture_pieces
  obtain ⟨_, F_strokes_at⟩ := A_strokes_at.fn
  have b_strokes_at := F_strokes_at.binds (ps := ["picture"]) fun _ _ _ _ _ _ => bn1 fun _ => rfl
  have m_strokes_at := PySem.W.mg_of X G a_strokes_at
  obtain ⟨_, F_piece_with⟩ := A_piece_with.fn
  have b_piece_with := F_piece_with.binds (ps := ["stroke", "at", "seen"]) fun _ _ _ _ _ _ => bn3 fun _ _ _ => rfl
  have m_piece_with := PySem.W.mg_of X G a_piece_with
  obtain ⟨_, F_take_unseen⟩ := A_take_unseen.fn
  have b_take_unseen := F_take_unseen.binds (ps := ["strokes", "seen"]) fun _ _ _ _ _ _ => bn2 fun _ _ => rfl
  have m_take_unseen := PySem.W.mg_of X G a_take_unseen
  obtain ⟨_, F_odd_points⟩ := A_odd_points.fn
  have b_odd_points := F_odd_points.binds (ps := ["picture"]) fun _ _ _ _ _ _ => bn1 fun _ => rfl
  have m_odd_points := PySem.W.mg_of X G a_odd_points
  obtain ⟨_, F_trails_needed⟩ := A_trails_needed.fn
  have b_trails_needed := F_trails_needed.binds (ps := ["picture"]) fun _ _ _ _ _ _ => bn1 fun _ => rfl
  have m_trails_needed := PySem.W.mg_of X G a_trails_needed
  obtain ⟨_, F_trails_of_piece_needed⟩ := A_trails_of_piece_needed.fn
  have b_trails_of_piece_needed := F_trails_of_piece_needed.binds (ps := ["piece"]) fun _ _ _ _ _ _ => bn1 fun _ => rfl
  have m_trails_of_piece_needed := PySem.W.mg_of X G a_trails_of_piece_needed
  obtain ⟨_, F__law_cell_at⟩ := A__law_cell_at.fn
  have b__law_cell_at := F__law_cell_at.binds (ps := ["script", "k"]) fun _ _ _ _ _ _ => bn2 fun _ _ => rfl
  have m__law_cell_at := PySem.W.mg_of X G a__law_cell_at
  obtain ⟨_, F__law_state⟩ := A__law_state.fn
  have b__law_state := F__law_state.binds (ps := ["script", "k"]) fun _ _ _ _ _ _ => bn2 fun _ _ => rfl
  have m__law_state := PySem.W.mg_of X G a__law_state
  obtain ⟨_, F__law_choice⟩ := A__law_choice.fn
  have b__law_choice := F__law_choice.binds (ps := ["state", "many"]) fun _ _ _ _ _ _ => bn2 fun _ _ => rfl
  have m__law_choice := PySem.W.mg_of X G a__law_choice
  obtain ⟨_, F__law_dense⟩ := A__law_dense.fn
  have b__law_dense := F__law_dense.binds (ps := ["state", "most"]) fun _ _ _ _ _ _ => bn2 fun _ _ => rfl
  have m__law_dense := PySem.W.mg_of X G a__law_dense
  obtain ⟨_, F__law_ends⟩ := A__law_ends.fn
  have b__law_ends := F__law_ends.binds (ps := ["stroke"]) fun _ _ _ _ _ _ => bn1 fun _ => rfl
  have m__law_ends := PySem.W.mg_of X G a__law_ends
  obtain ⟨_, F__law_fewest⟩ := A__law_fewest.fn
  have b__law_fewest := F__law_fewest.binds (ps := ["left", "here"]) fun _ _ _ _ _ _ => bn2 fun _ _ => rfl
  have m__law_fewest := PySem.W.mg_of X G a__law_fewest
  obtain ⟨_, _, _, kV_law, dc_law, pm_law, an_law, cd_law, ct_law, l_law, c_law, k_law⟩ := A_law
  have F_law := fun_mk (st := s_law) l_law c_law k_law
  have b_law := F_law.binds (ps := ["script"]) fun _ _ _ _ _ _ => bn1 fun _ => rfl
  have m_law := PySem.W.mg_of X G a_law
  refine ⟨PySem.W.fnOf "law" "law" (defArgs s_law) (defBody s_law) (defScope s_law) .none kV_law dc_law pm_law an_law cd_law ct_law, fun s v => .of_eq rfl, fun base KB GB => ?_⟩

  have h_check_stroke : Cal l.prog w K mg base (1) "check_stroke" ["stroke"] spChkS := cal_of F_check_stroke m_check_stroke b_check_stroke sc_check_stroke (by rintro _ _ _ ⟨_, rfl, _⟩; rfl) (k := 0) (fun cdv A outer s H E hr => rs_check_stroke z_len g_WAYS hr) rd_check_stroke
  have h_ends_of : Cal l.prog w K mg base (1) "ends_of" ["stroke"] spEnds := cal_of F_ends_of m_ends_of b_ends_of sc_ends_of (by rintro _ _ _ ⟨_, rfl, _⟩; rfl) (k := 0) (fun cdv A outer s H E hr => rs_ends_of hr) rd_ends_of
  have h_check_picture : Cal l.prog w K mg base (2) "check_picture" ["picture"] spChkP := cal_of F_check_picture m_check_picture b_check_picture sc_check_picture (by rintro _ _ _ ⟨_, rfl, _⟩; rfl) (k := 1) (fun cdv A outer s H E hr => rs_check_picture h_check_stroke (by decide) z_len z_range hr) rd_check_picture
  have h_strokes_at : Cal l.prog w K mg base (2) "strokes_at" ["picture"] spAt := cal_of F_strokes_at m_strokes_at b_strokes_at sc_strokes_at (by rintro _ _ _ ⟨_, rfl, _⟩; rfl) (k := 1) (fun cdv A outer s H E hr => rs_strokes_at h_ends_of (by decide) hr) rd_strokes_at
  have h_take_unseen : Cal l.prog w K mg base (1) "take_unseen" ["strokes", "seen"] spTake := cal_of F_take_unseen m_take_unseen b_take_unseen sc_take_unseen (by rintro _ _ _ ⟨_, _, _, _, rfl, _⟩; rfl) (k := 0) (fun cdv A outer s H E hr => rs_take_unseen hr) rd_take_unseen
  have h_piece_with : Cal l.prog w K mg base (2) "piece_with" ["stroke", "at", "seen"] spPw := cal_of F_piece_with m_piece_with b_piece_with sc_piece_with (by rintro _ _ _ ⟨_, _, _, _, _, _, rfl, _⟩; rfl) (k := 1) (fun cdv A outer s H E hr => rs_piece_with h_ends_of (by decide) h_take_unseen (by decide) z_len z_sorted z_tuple hr) rd_piece_with
  have h_picture_pieces : Cal l.prog w K mg base (3) "picture_pieces" ["picture"] spPieces := cal_of F_picture_pieces m_picture_pieces b_picture_pieces sc_picture_pieces (by rintro _ _ _ ⟨_, rfl, _⟩; rfl) (k := 2) (fun cdv A outer s H E hr => rs_picture_pieces h_check_picture (by decide) h_piece_with (by decide) h_strokes_at (by decide) hr) rd_picture_pieces
  have h_odd_points : Cal l.prog w K mg base (3) "odd_points" ["picture"] spOdd := cal_of F_odd_points m_odd_points b_odd_points sc_odd_points (by rintro _ _ _ ⟨_, rfl, _⟩; rfl) (k := 2) (fun cdv A outer s H E hr => rs_odd_points h_check_picture (by decide) h_strokes_at (by decide) z_len z_sorted hr) rd_odd_points
  have h_trails_of_piece_needed : Cal l.prog w K mg base (4) "trails_of_piece_needed" ["piece"] spOf := cal_of F_trails_of_piece_needed m_trails_of_piece_needed b_trails_of_piece_needed sc_trails_of_piece_needed (by rintro _ _ _ ⟨_, rfl, _⟩; rfl) (k := 3) (fun cdv A outer s H E hr => rs_trails_of_piece_needed h_odd_points (by decide) z_len z_max hr) rd_trails_of_piece_needed
  have h_trails_needed : Cal l.prog w K mg base (5) "trails_needed" ["picture"] spTn := cal_of F_trails_needed m_trails_needed b_trails_needed sc_trails_needed (by rintro _ _ _ ⟨_, rfl, _⟩; rfl) (k := 4) (fun cdv A outer s H E hr => rs_trails_needed h_picture_pieces (by decide) h_trails_of_piece_needed (by decide) z_sum hr) rd_trails_needed
  have h__law_cell_at : Cal l.prog w K mg base (1) "_law_cell_at" ["script", "k"] spCell := cal_of F__law_cell_at m__law_cell_at b__law_cell_at sc__law_cell_at (by rintro _ _ _ ⟨_, _, rfl, _⟩; rfl) (k := 0) (fun cdv A outer s H E hr => rs__law_cell_at z_len hr) rd__law_cell_at
  have h__law_state : Cal l.prog w K mg base (2) "_law_state" ["script", "k"] spState := cal_of F__law_state m__law_state b__law_state sc__law_state (by rintro _ _ _ ⟨_, _, rfl, _⟩; rfl) (k := 1) (fun cdv A outer s H E hr => rs__law_state h__law_cell_at (by decide) hr) rd__law_state
  have h__law_choice : Cal l.prog w K mg base (1) "_law_choice" ["state", "many"] spChoice := cal_of F__law_choice m__law_choice b__law_choice sc__law_choice (by rintro _ _ _ ⟨_, _, _, _, _, rfl, _⟩; rfl) (k := 0) (fun cdv A outer s H E hr => rs__law_choice hr) rd__law_choice
  have h__law_dense : Cal l.prog w K mg base (2) "_law_dense" ["state", "most"] spDense := cal_of F__law_dense m__law_dense b__law_dense sc__law_dense (by rintro _ _ _ ⟨_, _, _, _, rfl, _⟩; rfl) (k := 1) (fun cdv A outer s H E hr => rs__law_dense h__law_choice (by decide) z_range z_sorted z_tuple hr) rd__law_dense
  have h__law_ends : Cal l.prog w K mg base (1) "_law_ends" ["stroke"] spLe := cal_of F__law_ends m__law_ends b__law_ends sc__law_ends (by rintro _ _ _ ⟨_, rfl, _⟩; rfl) (k := 0) (fun cdv A outer s H E hr => rs__law_ends hr) rd__law_ends
  have fam__law_fewest : ∀ j, Cal l.prog w K mg base (j + 1) "_law_fewest" ["left", "here"] (spFew j) := fun j => by
    induction j with
    | zero => exact (cal_zero F__law_fewest m__law_fewest b__law_fewest (by intro ds μ Q h; first | (obtain ⟨_, _, h⟩ := h; omega) | (obtain ⟨_, _, _, h⟩ := h; omega) | (obtain ⟨_, _, _, _, h⟩ := h; omega) | (obtain ⟨_, _, _, _, _, _, _, _, h⟩ := h; omega) | (obtain ⟨_, _, _, _, _, _, _, h, _⟩ := h; split at h <;> omega))).mono (by omega)
    | succ j ih => exact (cal_of F__law_fewest m__law_fewest b__law_fewest sc__law_fewest (by rintro _ _ _ ⟨_, _, _, rfl, _⟩; rfl) (k := j + 1) (fun cdv A outer s H E hr => rs__law_fewest h__law_ends (by omega) ih (Nat.le_refl _) z_int z_len z_min z_range hr) (rd__law_fewest j)).mono (by omega)
  have h__law_fewest := fam__law_fewest 6
  exact fnok_of F_law sc_law (by rintro _ _ _ ⟨_, rfl, _⟩; rfl) (k := 7) (fun cdv A outer s H E hr => rs_law h__law_dense (by decide) h__law_fewest (by decide) h__law_state (by decide) h_trails_needed (by decide) z_list hr) rd_law
theorem walk {l : PySem.W.OpenLaw} {q : Program} {loose : List Str} {XP : (Str → Option Value) → Heap → Prop} {YP : World → Heap → Prop} {d : DefRec} {K : Params → Fg} (hn : l.most = some 63) (hdf : d.params.defaults = [])
    (hY : ∀ (w : World) (h : Heap), YP w h → (K w.params).In h)
    (F : ∀ (w : World) (mg : Str → Option Value) (fa : Addr) (h : Heap), (K w.params).In h → h.Ns mainGlobals mg → mg d.name = some (.ref fa) →
      ∃ fd : FuncData, (∀ (s : Shared) (u : Value), BindsTo s fd ⟨[u], []⟩ [("script", u)]) ∧ ∀ base : Heap, (K w.params).In base → base.Ns mainGlobals mg → FnOk l.prog w (K w.params) mg base CX0 8 fa fd ["script"] (lift (K w.params) spLaw)) :
    PySem.W.WalkO q loose XP YP l.row.toRowW d [] (fun f vs => PySem.call f vs) :=
  L2.walk_of (n := 63) (k := 8) (x := "script") (CX := fun _ => CX0) (sp := fun w => lift (K w.params) spLaw) hn (by decide) hdf ⟨rfl, by decide, by decide⟩ hY F (fun _ _ a ns hl hO hS => law_lift hO hS ⟨ns, rfl, hl, fun _ => rfl⟩) fun _ _ _ _ _ z => z
end Pv
open PySem PySem.W PyProof.Rows
set_option maxRecDepth 100000 in
set_option maxHeartbeats 0 in
theorem PySem.Challenge.cw_penwright_k30_whole_none_can_be_fewer_holds : PySem.Challenge.rw_penwright_k30_whole_none_can_be_fewer.Holds := by
  w_on; o_law; k_head; (case hw => w_witness2)
  k_fill
  refine Pv.walk (l := PySem.Challenge.rw_penwright_k30_whole_none_can_be_fewer) rfl rfl (fun w h Y => PySem.W.kIn_of Y) ?F
  case F =>
    intro w mg fa h KX G hmg
    refine' Pv.all_mk KX G hmg ?a_check_picture ?A_check_picture ?a_check_stroke ?A_check_stroke ?a_ends_of ?A_ends_of ?a_picture_pieces ?A_picture_pieces ?a_strokes_at ?A_strokes_at ?a_piece_with ?A_piece_with ?a_take_unseen ?A_take_unseen ?a_odd_points ?A_odd_points ?a_trails_needed ?A_trails_needed ?a_trails_of_piece_needed ?A_trails_of_piece_needed ?a__law_cell_at ?A__law_cell_at ?a__law_state ?A__law_state ?a__law_choice ?A__law_choice ?a__law_dense ?A__law_dense ?a__law_ends ?A__law_ends ?a__law_fewest ?A__law_fewest ?a_law ?A_law ?e_WAYS ?ql_1 ?zz_int ?zz_len ?zz_list ?zz_max ?zz_min ?zz_range ?zz_sorted ?zz_sum ?zz_tuple
    (case e_WAYS | ql_1 | zz_int | zz_len | zz_list | zz_max | zz_min | zz_range | zz_sorted | zz_sum | zz_tuple => k_is)
    (case a_check_picture | a_check_stroke | a_ends_of | a_picture_pieces | a_strokes_at | a_piece_with | a_take_unseen | a_odd_points | a_trails_needed | a_trails_of_piece_needed | a__law_cell_at | a__law_state | a__law_choice | a__law_dense | a__law_ends | a__law_fewest | a_law => (show _ = _; k_is))
    (case A_check_picture | A_check_stroke | A_ends_of | A_picture_pieces | A_strokes_at | A_piece_with | A_take_unseen | A_odd_points | A_trails_needed | A_trails_of_piece_needed | A__law_cell_at | A__law_state | A__law_choice | A__law_dense | A__law_ends | A__law_fewest | A_law => (refine' Pv.fnA_mk ?l ?c ?k; (case l => k_is); (case c => k_is); (case k => k_is)))
