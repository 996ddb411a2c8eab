import PyProof.Rows.All
import Wide.All
import OpenK.AllK
import Wide.FinOn
import Lean
import PyProof.EqAt
import PyProof.EqKinds
import PyProof.TupleCall
import PyProof.P3Statements
import KE.KIntText
import KE.KRevIter
import KE.KSortTup
import KE.KDictSum
import KE.KIsAll
import PyProof.ExcAttrAll.ValueError
import PySem.Challenge.RW_penwright_k21_no_pictures
set_option Elab.async false
set_option linter.all false
set_option maxRecDepth 100000
set_option maxHeartbeats 4000000
namespace L2
open PySem PySem.Spec PyProof.Rows

noncomputable abbrev Key := Sum Int Str
noncomputable def yd3 : Key → Value → Bool
  | .inl k, v => Value.isInt k v
  | .inr x, v => Value.isStrOf x v
noncomputable def keyH (w : World) : Key → Int
  | .inl k => hashInt k
  | .inr x => hashStr w x
theorem zf0 : ∀ {k : Key} {v : Value}, yd3 k v = true → (∃ i t, k = Sum.inl i ∧ v = Value.int i t) ∨ (∃ x t, k = Sum.inr x ∧ v = Value.str x t)
  | .inl i, v, h => by
    obtain ⟨t, e⟩ := Value.isInt_shape (k := i) (v := v) h
    exact .inl ⟨i, t, rfl, e⟩
  | .inr x, v, h => by
    obtain ⟨t, e⟩ := Value.isStrOf_shape (x := x) (v := v) h
    exact .inr ⟨x, t, rfl, e⟩
theorem xt3 (i : Int) (t : Tok) : yd3 (.inl i) (.int i t) = true := by simp [yd3, Value.isInt]
theorem ws3 (x : Str) (t : Tok) : yd3 (.inr x) (.str x t) = true := by simp [yd3, Value.isStrOf]
theorem xl7 (a b : Int) : decide ((Sum.inl a : Key) = Sum.inl b) = (a == b) := by
  by_cases e : a = b
  · subst e; simp
  · have h : ¬ (Sum.inl a : Key) = Sum.inl b := fun q => e (Sum.inl.inj q)
    rw [decide_eq_false h]
    exact (beq_eq_false_iff_ne.mpr e).symm
theorem yk7 (a b : Str) : decide ((Sum.inr a : Key) = Sum.inr b) = decide (a = b) := by
  by_cases e : a = b
  · subst e; simp
  · have h : ¬ (Sum.inr a : Key) = Sum.inr b := fun q => e (Sum.inr.inj q)
    rw [decide_eq_false h, decide_eq_false e]
theorem wk7 (a : Int) (b : Str) : decide ((Sum.inl a : Key) = Sum.inr b) = false := decide_eq_false (fun q => nomatch q)
theorem zk7 (a : Str) (b : Int) : decide ((Sum.inr a : Key) = Sum.inl b) = false := decide_eq_false (fun q => nomatch q)

noncomputable def zi0 (prog : Program) (w : World) : PySem.KeyKind prog w Key where
  is := yd3
  hash := keyH w
  inj := fun v a b ha hb => by
    rcases zf0 ha with ⟨i, t, rfl, rfl⟩ | ⟨x, t, rfl, rfl⟩
    · rcases zf0 hb with ⟨j, u, rfl, e⟩ | ⟨y, u, rfl, e⟩
      · injection e with e1 _; rw [e1]
      · exact nomatch e
    · rcases zf0 hb with ⟨j, u, rfl, e⟩ | ⟨y, u, rfl, e⟩
      · exact nomatch e
      · injection e with e1 _; rw [e1]
  byValue := fun k v h => by
    rcases zf0 h with ⟨i, t, rfl, rfl⟩ | ⟨x, t, rfl, rfl⟩ <;> rfl
  pyHash := fun hv h => by
    rcases zf0 hv with ⟨i, t, rfl, rfl⟩ | ⟨x, t, rfl, rfl⟩
    · exact wpAny_pyHash_int h
    · exact wpAny_pyHash_str h
  eqBool := fun hu hv h => by
    rcases zf0 hu with ⟨i, t, rfl, rfl⟩ | ⟨x, t, rfl, rfl⟩
    · rcases zf0 hv with ⟨j, u, rfl, rfl⟩ | ⟨y, u, rfl, rfl⟩
      · rw [xl7] at h; exact wpAny_eqBool_int h
      · rw [wk7] at h; exact SeqAt.EqAt.int_str i t y u _ _ _ _ h
    · rcases zf0 hv with ⟨j, u, rfl, rfl⟩ | ⟨y, u, rfl, rfl⟩
      · rw [zk7] at h; exact SeqAt.EqAt.str_int x t j u _ _ _ _ h
      · rw [yk7] at h; exact wpAny_eqBool_str h
  «strs» := fun k x t v h => by
    rcases zf0 h with ⟨i, u, rfl, e⟩ | ⟨y, u, rfl, e⟩
    · exact nomatch e
    · injection e with e1 _
      subst e1
      cases v <;> rfl

theorem xi2 (prog : Program) (w : World) (i : Int) (t : Tok) : (zi0 prog w).is (.inl i) (.int i t) = true := xt3 i t
theorem wh2 (prog : Program) (w : World) (x : Str) (t : Tok) : (zi0 prog w).is (.inr x) (.str x t) = true := ws3 x t
end L2

namespace L2
open PySem PySem.Spec PyProof.Rows

inductive V where
  | non | bl (b : Bool) | int (i : Int) | str (x : Str) | byt (b : Array UInt8) | flt (b : UInt64) | ref (a : Addr) | ty (n : String)
  deriving DecidableEq

noncomputable def RelV : V → Value → Prop
  | .non, u => u = Value.none
  | .bl b, u => u = Value.bool b
  | .int i, u => ∃ t, u = Value.int i t
  | .str x, u => ∃ t, u = Value.str x t
  | .byt b, u => ∃ t, u = Value.bytes b t
  | .flt b, u => ∃ t, u = Value.float b t
  | .ref a, u => u = Value.ref a
  | .ty n, u => u = Value.type n

noncomputable abbrev Vals : List V → List Value → Prop := Paired RelV
theorem Vals.length {xs : List V} {us : List Value} (r : Vals xs us) : xs.length = us.length := Paired.length r
theorem Vals.get : ∀ {xs : List V} {us : List Value} {i : Nat} {x : V}, Vals xs us → xs[i]? = some x → ∃ u, us[i]? = some u ∧ RelV x u
  | _, _, _, _, .nil, e => by simp at e
  | _, _, 0, _, .cons r _, e => by simp at e; subst e; exact ⟨_, rfl, r⟩
  | _, _, i + 1, x, .cons _ t, e => by
    obtain ⟨u, h1, h2⟩ := Vals.get (i := i) (x := x) t (by simpa using e)
    exact ⟨u, by simpa using h1, h2⟩
theorem Vals.set {x : V} {u : Value} (r : RelV x u) : ∀ {xs : List V} {us : List Value} (i : Nat), Vals xs us → Vals (xs.set i x) (us.set i u)
  | _, _, _, .nil => .nil
  | _, _, 0, .cons _ t => .cons r t
  | _, _, i + 1, .cons q t => .cons q (Vals.set r i t)
theorem Vals.append : ∀ {xs ys : List V} {us ws : List Value}, Vals xs us → Vals ys ws → Vals (xs ++ ys) (us ++ ws)
  | _, _, _, _, .nil, s => s
  | _, _, _, _, .cons r t, s => .cons r (Vals.append t s)
theorem Vals.take : ∀ {xs : List V} {us : List Value} (n : Nat), Vals xs us → Vals (xs.take n) (us.take n)
  | _, _, 0, _ => .nil
  | _, _, _ + 1, .nil => .nil
  | _, _, n + 1, .cons r t => .cons r (Vals.take n t)
theorem Vals.drop : ∀ {xs : List V} {us : List Value} (n : Nat), Vals xs us → Vals (xs.drop n) (us.drop n)
  | _, _, 0, r => r
  | _, _, _ + 1, .nil => .nil
  | _, _, n + 1, .cons _ t => Vals.drop n t
noncomputable def RelO : Option V → Option Value → Prop
  | some v, some u => RelV v u
  | none, none => True
  | _, _ => False
noncomputable def KV {κ : Type} : List (κ × V) → List (κ × Value) → Prop := Paired fun (p : κ × V) (q : κ × Value) => p.1 = q.1 ∧ RelV p.2 q.2

noncomputable def kV : Key → V
  | .inl i => .int i
  | .inr x => .str x

inductive HO where
  | lst (xs : List V)
  | tup (xs : List V)
  | dK (kvs : List (Key × V)) | dT (kvs : List (List Key × V))
  | set (S : Int → Bool) (n : Nat)
  | ins (C dx : Addr) (fs : List (Str × V))
  | own (x : Addr)
  | xd (fs : List (Str × V))
  | met (f x : Addr)
  | rng (lo hi : Int)
  | frz (o : Obj) (u : HO)
  | tbl (ps : Array Value)
  | ext (φ : Heap → Prop)

noncomputable abbrev Hp := Addr → Option HO
noncomputable def upd (H : Hp) (a : Addr) (o : HO) : Hp := fun b => if b = a then some o else H b
theorem wf0 {H : Hp} {a : Addr} {o : HO} : upd H a o a = some o := by unfold upd; rw [if_pos rfl]
theorem yd0 {H : Hp} {a b : Addr} {o : HO} (h : b ≠ a) : upd H a o b = H b := by unfold upd; rw [if_neg h]
theorem xr3 {H : Hp} {a b : Addr} {o u : HO} (h : H a = some o) (h' : H b = some u) (d : o ≠ u) : a ≠ b := by
  intro e; subst e; rw [h] at h'; exact d (Option.some.inj h')
theorem yi0 {H : Hp} {a b : Addr} {o : HO} (h : H a = some o) (h' : H b = none) : a ≠ b := by
  intro e; subst e; rw [h] at h'; cases h'

section
variable (P : Program) (w : World)
noncomputable def ObjOk (H : Hp) (h : Heap) (a : Addr) : HO → Prop
  | .lst xs => xs.length ≤ sizeLine ∧ ∃ (its : List Value) (n : Nat), Vals xs its ∧ h.get? a = some { cls := .type "list", data := .seq its.toArray n }
  | .tup xs => xs.length ≤ sizeLine ∧ ∃ its : List Value, Vals xs its ∧ IsTup h a its.toArray
  | .dK kvs => kvs.length ≤ sizeLine ∧ (a == sysModules) = false ∧ ∃ vs, KV kvs vs ∧ h.DictOf (zi0 P w) a vs
  | .dT kvs => kvs.length ≤ sizeLine ∧ (a == sysModules) = false ∧ ∃ xs : List (List Key × Addr × Value),
      Paired (fun (p : List Key × V) (q : List Key × Addr × Value) => p.1 = q.1 ∧ H q.2.1 = some (.tup (p.1.map kV)) ∧ RelV p.2 q.2.2) kvs xs ∧
      ∃ o es ep, h.get? a = some o ∧ o.ExactDict ∧ o.data = .dict es ep ∧ es.toList = xs.map (entryOfKey (tupleKind (zi0 P w))) ∧ (xs.map (·.1)).Nodup
  | .set S n => h.SetOf (intKind P w) a S n
  | .ins C dx fs => H dx = some (.own a) ∧ fs.length ≤ 1000 ∧ dx ≠ a ∧ h.get? a = some (PySem.W.instObj C dx) ∧
      ∃ mA, h.Ns1 dx mA ∧ (∀ f, RelO (fs.lookup f) (mA f)) ∧ PySem.Within mA (fs.map (·.1))
  | .own _ => ∃ o, h.get? a = some o
  | .xd fs => ∃ mA, h.Ns1 a mA ∧ ∀ f, RelO (fs.lookup f) (mA f)
  | .rng lo hi => ∃ t u v, h.get? a = some { cls := .type "range", data := .fields #[.int lo t, .int hi u, .int 1 v] }
  | .frz o u => h.get? a = some o ∧ ObjOk H h a u
  | .tbl ps => h.get? a = some { cls := .none, data := .fields ps }
  | .met f x => h.get? a = some (PySem.W.methodObj (.ref f) (.ref x))
  | .ext φ => φ h ∧ (∃ o, h.get? a = some o) ∧ ∀ h1 h2 : Heap, φ h1 → (∀ o, h1.get? a = some o → h2.get? a = some o) → φ h2
noncomputable def HOk (H : Hp) (h : Heap) : Prop := ∀ a o, H a = some o → ObjOk P w H h a o
end

section
variable {P : Program} {w : World} {H H' : Hp} {h h' : Heap} {a : Addr} {o : HO}
theorem ObjOk.lt (x : ObjOk P w H h a o) : a < h.objs.size := by
  cases o with
  | lst xs => obtain ⟨_, _, _, _, e⟩ := x; exact Heap.lt_size e
  | tup xs => obtain ⟨_, _, _, p⟩ := x; exact p.lt
  | dK kvs => obtain ⟨_, _, _, _, o, _, _, e, _⟩ := x; exact Heap.lt_size e
  | dT kvs => obtain ⟨_, _, _, _, o, _, _, e, _⟩ := x; exact Heap.lt_size e
  | set S n => obtain ⟨o, _, _, _, e, _⟩ := x; exact Heap.lt_size e
  | ins C dx fs => obtain ⟨_, _, _, e, _⟩ := x; exact Heap.lt_size e
  | own y => obtain ⟨_, e⟩ := x; exact Heap.lt_size e
  | xd fs => obtain ⟨_, ⟨_, _, _, e, _⟩, _⟩ := x; exact Heap.lt_size e
  | rng lo hi => obtain ⟨_, _, _, e⟩ := x; exact Heap.lt_size e
  | frz ob u => obtain ⟨e, _⟩ := x; exact Heap.lt_size e
  | tbl ps => exact Heap.lt_size (show h.get? a = some _ from x)
  | met f y => exact Heap.lt_size (show h.get? a = some _ from x)
  | ext φ => obtain ⟨_, ⟨_, e⟩, _⟩ := x; exact Heap.lt_size e
theorem Paired.mapP {α β : Type} {F G : α → β → Prop} : ∀ {l₁ : List α} {l₂ : List β}, Paired F l₁ l₂ → (∀ a b, F a b → G a b) → Paired G l₁ l₂
  | _, _, .nil, _ => .nil
  | _, _, .cons r t, f => .cons (f _ _ r) (Paired.mapP t f)
theorem ObjOk.stay (x : ObjOk P w H h a o) (k : ∀ b u, (b = a ∨ H b = some (.own a)) → h.get? b = some u → h'.get? b = some u)
    (ho : ∀ b, H b = some (.own a) → H' b = some (.own a)) (ht : ∀ b xs, H b = some (.tup xs) → H' b = some (.tup xs)) : ObjOk P w H' h' a o := by
  induction o with
  | lst xs => obtain ⟨z, its, n, r, e⟩ := x; exact ⟨z, its, n, r, k _ _ (.inl rfl) e⟩
  | tup xs => obtain ⟨z, its, r, ob, e, c⟩ := x; exact ⟨z, its, r, ob, k _ _ (.inl rfl) e, c⟩
  | dK kvs => obtain ⟨z, y, vs, r, ob, es, ep, e, c⟩ := x; exact ⟨z, y, vs, r, ob, es, ep, k _ _ (.inl rfl) e, c⟩
  | dT kvs =>
    obtain ⟨z, y, xs, r, ob, es, ep, e, c⟩ := x
    exact ⟨z, y, xs, Paired.mapP r fun p q z => ⟨z.1, ht _ _ z.2.1, z.2.2⟩, ob, es, ep, k _ _ (.inl rfl) e, c⟩
  | set S n => obtain ⟨ob, es, ep, t, e, c⟩ := x; exact ⟨ob, es, ep, t, k _ _ (.inl rfl) e, c⟩
  | ins C dx fs =>
    obtain ⟨d, z, ne, e, mA, ⟨od, es, ep, e2, c⟩, r⟩ := x
    exact ⟨ho _ d, z, ne, k _ _ (.inl rfl) e, mA, ⟨od, es, ep, k _ _ (.inr d) e2, c⟩, r⟩
  | own y => obtain ⟨ob, e⟩ := x; exact ⟨ob, k _ _ (.inl rfl) e⟩
  | xd fs => obtain ⟨mA, ⟨od, es, ep, e, c⟩, r⟩ := x; exact ⟨mA, ⟨od, es, ep, k _ _ (.inl rfl) e, c⟩, r⟩
  | rng lo hi => obtain ⟨t, u, v, e⟩ := x; exact ⟨t, u, v, k _ _ (.inl rfl) e⟩
  | frz ob u ih => obtain ⟨e, q⟩ := x; exact ⟨k _ _ (.inl rfl) e, ih q⟩
  | tbl ps =>
    have e : h.get? a = some { cls := .none, data := .fields ps } := x
    show h'.get? a = some { cls := .none, data := .fields ps }
    exact k a _ (.inl rfl) e
  | met f y =>
    have e : h.get? a = some (PySem.W.methodObj (.ref f) (.ref y)) := x
    show h'.get? a = some (PySem.W.methodObj (.ref f) (.ref y))
    exact k a _ (.inl rfl) e
  | ext φ => obtain ⟨p, ⟨o, e⟩, st⟩ := x; exact ⟨st _ _ p fun o q => k _ _ (.inl rfl) q, ⟨o, k _ _ (.inl rfl) e⟩, st⟩
theorem HOk.lt (x : HOk P w H h) (e : H a = some o) : a < h.objs.size := (x a o e).lt
theorem HOk.fresh (x : HOk P w H h) (e : h.objs.size ≤ a) : H a = none := by
  cases q : H a with
  | none => rfl
  | some u => exact absurd (Nat.lt_of_lt_of_le (x.lt q) e) (Nat.lt_irrefl _)
theorem HOk.kept (x : HOk P w H h) (k : ∀ b u, h.get? b = some u → h'.get? b = some u) : HOk P w H h' := fun a o e =>
  (x a o e).stay (fun b u _ q => k b u q) (fun _ q => q) fun _ _ q => q
theorem HOk.laid (x : HOk P w H h) (k : ∀ b u, h.get? b = some u → h'.get? b = some u) (hp : h.objs.size ≤ a) (new : ObjOk P w (upd H a o) h' a o) : HOk P w (upd H a o) h' := fun b u e => by
  have hn := x.fresh hp
  by_cases hb : b = a
  · subst hb; rw [wf0] at e; cases e; exact new
  · rw [yd0 hb] at e
    exact (x b u e).stay (fun c v _ q => k c v q) (fun c q => by rw [yd0 (yi0 q hn)]; exact q) fun c xs q => by rw [yd0 (yi0 q hn)]; exact q
end

noncomputable def Rd (H : Hp) (a : Addr) (u : HO) : Prop := H a = some u ∨ ∃ o, H a = some (.frz o u)
theorem Rd.ok {P : Program} {w : World} {H : Hp} {h : Heap} {a : Addr} {u : HO} (r : Rd H a u) (x : HOk P w H h) : ObjOk P w H h a u := by
  rcases r with r | ⟨o, r⟩
  · exact x a u r
  · obtain ⟨_, q⟩ := x a _ r
    exact q
noncomputable def Mut : Option HO → Prop
  | some (.lst _) => True
  | some (.dK _) => True
  | some (.dT _) => True
  | some (.set _ _) => True
  | some (.ins _ _ _) => True
  | some (.ext _) => True
  | _ => False
section
variable {P : Program} {w : World} {H : Hp} {h h' : Heap} {x e : Addr} {o' : HO}
theorem HOk.write (ok : HOk P w H h) (mu : Mut (H x)) (he : e = x ∨ H e = some (.own x)) (k : ∀ b u, b ≠ e → h.get? b = some u → h'.get? b = some u) (heo : ∃ u, h'.get? e = some u)
    (new : ObjOk P w (upd H x o') h' x o') : HOk P w (upd H x o') h' := fun b u q => by
  have nown : ∀ c y, H c = some (.own y) → c ≠ x := fun c y r z => by subst z; rw [r] at mu; exact mu
  have ntup : ∀ c xs, H c = some (.tup xs) → c ≠ x := fun c xs r z => by subst z; rw [r] at mu; exact mu
  by_cases hb : b = x
  · subst hb; rw [wf0] at q; cases q; exact new
  · rw [yd0 hb] at q
    by_cases hbe : b = e
    · have q' : H b = some (.own x) := by
        rcases he with z | z
        · exact absurd (hbe.trans z) hb
        · rw [hbe]; exact z
      rw [q] at q'; cases q'
      obtain ⟨v, hv⟩ := heo
      exact ⟨v, by rw [hbe]; exact hv⟩
    · refine (ok b u q).stay (fun c v hc r => k c v ?_ r) (fun c r => by rw [yd0 (nown c b r)]; exact r) fun c xs r => by rw [yd0 (ntup c xs r)]; exact r
      rcases hc with rfl | hc
      · exact hbe
      · rintro rfl
        rcases he with z | z
        · exact nown c b hc z
        · rw [hc] at z; cases z; exact hb rfl
end

structure Un (fs ex : List Addr) (H H' : Hp) (h h' : Heap) : Prop where
  keep : ∀ b o, h.get? b = some o → H b = none → b ∉ fs → b ∉ ex → h'.get? b = some o
  slot : ∀ b o, h.get? b = some o → H b = none → b ∈ fs → b ∉ ex → ∃ sl, h'.get? b = some { o with slots := sl }
  free : ∀ b o, h.get? b = some o → H b = none → b ∉ ex → H' b = none
  there : ∀ b o, h.get? b = some o → b ∉ ex → ∃ o', h'.get? b = some o'
  tups : ∀ b xs, H b = some (.tup xs) → H' b = some (.tup xs)
  frzs : ∀ b o u, H b = some (.frz o u) → H' b = some (.frz o u)
  tbls : ∀ b ps, H b = some (.tbl ps) → ∃ more, H' b = some (.tbl (ps ++ more))
section
variable {fs fs' ex ex' : List Addr} {H H1 H2 : Hp} {h h1 h2 h' : Heap} {a x e : Addr} {o : HO}
theorem Un.any (u : Un fs ex H H1 h h1) {b : Addr} {ob : Obj} (q : h.get? b = some ob) (n : H b = none) (hx : b ∉ ex) : ∃ sl, h1.get? b = some { ob with slots := sl } := by
  by_cases hb : b ∈ fs
  · exact u.slot b ob q n hb hx
  · exact ⟨ob.slots, u.keep b ob q n hb hx⟩
theorem Un.kept (k : ∀ b u, h.get? b = some u → h'.get? b = some u) : Un fs ex H H h h' :=
  ⟨fun b ob q _ _ _ => k b ob q, fun b ob q _ _ _ => ⟨ob.slots, k b ob q⟩, fun _ _ _ n _ => n, fun b ob q _ => ⟨ob, k b ob q⟩, fun _ _ q => q, fun _ _ _ q => q, fun _ ps q => ⟨#[], by rw [q]; simp⟩⟩
theorem Un.refl : Un fs ex H H h h := Un.kept fun _ _ q => q
theorem Un.laid (k : ∀ b u, h.get? b = some u → h'.get? b = some u) (hp : h.objs.size ≤ a) (hn : H a = none) : Un fs ex H (upd H a o) h h' where
  keep := fun b u q _ _ _ => k b u q
  slot := fun b u q _ _ _ => ⟨u.slots, k b u q⟩
  free := fun b u q n _ => by rw [yd0 (Nat.ne_of_lt (Nat.lt_of_lt_of_le (Heap.lt_size q) hp))]; exact n
  there := fun b u q _ => ⟨u, k b u q⟩
  tups := fun b xs q => by rw [yd0 (yi0 q hn)]; exact q
  frzs := fun b u xs q => by rw [yd0 (yi0 q hn)]; exact q
  tbls := fun b ps q => ⟨#[], by rw [yd0 (yi0 q hn), q]; simp⟩
theorem Un.write (mu : Mut (H x)) (he : e = x ∨ H e = some (.own x)) (k : ∀ b u, b ≠ e → h.get? b = some u → h'.get? b = some u) (heo : ∃ u, h'.get? e = some u) : Un fs ex H (upd H x o) h h' := by
  have hx : ∀ b, H b = none → b ≠ x := fun b n z => by subst z; rw [n] at mu; exact mu
  have hb : ∀ b, H b = none → b ≠ e := fun b n z => by
    subst z
    rcases he with r | r
    · exact hx b n r
    · rw [n] at r; cases r
  have hm : ∀ b u, H b = some u → ¬ Mut (some u) → b ≠ x := fun b u q nm z => by subst z; rw [q] at mu; exact nm mu
  refine ⟨fun b u q n _ _ => k b u (hb b n) q, fun b u q n _ _ => ⟨u.slots, k b u (hb b n) q⟩, fun b u q n _ => by rw [yd0 (hx b n)]; exact n, fun b u q _ => ?_,
    fun b xs q => by rw [yd0 (hm b _ q fun z => z)]; exact q, fun b u xs q => by rw [yd0 (hm b _ q fun z => z)]; exact q, fun b ps q => ⟨#[], by rw [yd0 (hm b _ q fun z => z), q]; simp⟩⟩
  by_cases hbe : b = e
  · subst hbe; exact heo
  · exact ⟨u, k b u hbe q⟩
end

noncomputable def trk (h : Heap) (H : Hp) : List Addr := (List.range h.objs.size).filter fun a => (H a).isSome
noncomputable def hidT (h : Heap) (H : Hp) : Heap := PySem.W.hideAll h (trk h H)
theorem xu3 (h : Heap) (H : Hp) : (hidT h H).objs.size = h.objs.size := PySem.W.hideAll_size _ _
theorem yn4 {h : Heap} {H : Hp} {b : Addr} {o : Obj} (e : h.get? b = some o) (n : H b = none) : (hidT h H).get? b = some o :=
  PySem.W.hideAll_get _ e fun hm => by
    have q : (H b).isSome = true := (List.mem_filter.mp hm).2
    rw [n] at q; simp at q
theorem yp5 {h : Heap} {H : Hp} {b : Addr} {o : Obj} (e : (hidT h H).get? b = some o) : h.get? b = some o ∧ H b = none := by
  have e' : h.get? b = some o := PySem.W.of_hideAll (trk h H) e
  refine ⟨e', ?_⟩
  cases q : H b with
  | none => rfl
  | some x =>
    have hm : b ∈ trk h H := List.mem_filter.mpr ⟨List.mem_range.mpr (Heap.lt_size e'), by simp [q]⟩
    have z : (hidT h H).get? b = none := PySem.W.hideAll_none (trk h H) hm
    rw [z] at e; cases e

noncomputable def zv5 (g h : Heap) (L : Addr) : List (Addr × Obj) := (List.range h.objs.size).filterMap fun a => if a = L ∨ (g.get? a).isSome = true then none else (h.get? a).map fun o => (a, o)
noncomputable def rest (g h : Heap) (L d : Addr) : List (Addr × Obj) := (zv5 g h L).filter fun p => decide (p.1 ≠ d)
end L2

namespace L2
open PySem PySem.Spec PyProof.Rows

structure Mod (K : PySem.W.Frag) (mg : Str → Option Value) (base : Heap) : Prop where
  kin : K.In base
  glob : base.Ns mainGlobals mg
  blt : ∃ mb, base.Ns builtinsNs mb ∧ ∀ x : Str, x ≠ "__name__" → mb x = bootBuiltins x
  nolimit : base.NoLimit

/-- the context: a def's body (or a comprehension's block) running. base: fixed through the whole law; s₀, H₀: the entry; outer: the frames whose slots others may change (a def's callers); stack: all frames that run;
   ex: iterators that were made ahead of the entry and are walked here (a comprehension's); fn: the names whose cells were made at the entry (a def: all; a comprehension's block: its own); calm: not within an except suite; pn: pins that every state bears; xe: what is wanted of an exception that leaves the code -/
structure Cx where
  prog : Program
  w : World
  K : PySem.W.Frag
  mg : Str → Option Value
  base : Heap
  A : Around
  N : List Str
  s₀ : Shared
  H₀ : Hp
  env : Env
  outer : List Env
  stack : List Env
  ex : List Addr
  fn : Str → Bool
  calm : Bool
  pn : List (Addr × Obj)
  xe : Value → Shared → Prop
noncomputable def frs (l : List Env) : List Addr := l.filterMap (·.frame)
noncomputable abbrev Cx.fs (X : Cx) : List Addr := frs X.outer

noncomputable def Vis (sc : Scope) (x : Str) : Prop := sc.names.lookup x = some .local ∨ sc.names.lookup x = some .cell ∨ sc.names.lookup x = some .free
noncomputable def Loc (sc : Scope) (x : Str) : Prop := sc.names.lookup x = some .local ∨ sc.names.lookup x = some .cell
noncomputable def Look (env : Env) (h : Heap) (m : Str → Option Value) (x : Str) (u : Value) : Prop :=
  (env.kindOf x = some .local ∧ m x = some u) ∨ ((env.kindOf x = some .cell ∨ env.kindOf x = some .free) ∧ ∃ c, env.cells.lookup x = some c ∧ h.IsCell c (some u))

structure Cx.Ok (X : Cx) : Prop where
  mod : Mod X.K X.mg X.base
  kind : X.env.scope.kind = .function
  glob : X.env.globals = mainGlobals
  blt : X.env.builtins = builtinsNs
  above : X.s₀.heap.objs.size ≤ X.env.locals
  inj : ∀ x y c, X.env.cells.lookup x = some c → X.env.cells.lookup y = some c → x = y
  has : ∀ x, (X.env.kindOf x = some .cell ∨ X.env.kindOf x = some .free) → ∃ c, X.env.cells.lookup x = some c
  cab : ∀ x c, X.fn x = true → X.env.cells.lookup x = some c → X.s₀.heap.objs.size ≤ c
  hd : X.calm = true → X.A.handled = none
  frames : X.A.frames = some X.stack
  stk : X.stack = X.outer ∨ (X.stack = X.env :: X.outer ∧ X.env.frame = some X.env.locals)
  exf : ∀ b ∈ X.ex, b ≠ X.env.locals ∧ ∀ x c, X.env.cells.lookup x = some c → c ≠ b
  bs : ∀ b o, X.base.get? b = some o → X.s₀.heap.get? b = some o ∧ X.H₀ b = none
  bsz : X.base.objs.size ≤ X.s₀.heap.objs.size
  noex : ∀ b o, X.base.get? b = some o → b ∉ X.ex
  exfs : ∀ b ∈ X.ex, b ∉ X.fs
  funs : X.s₀.heap.FunFrames X.base X.outer
  frf : ∀ b ∈ X.fs, X.H₀ b = none

structure Inv (X : Cx) (pins : List (Addr × Obj)) (σ : List (Option V)) (H : Hp) (s : Shared) : Prop where
  ok : X.Ok
  os : s.os = X.s₀.os
  bare : AllBare s.gens
  base : Un X.fs X.ex X.H₀ H X.s₀.heap s.heap
  loc : ∃ m, s.heap.Ns X.env.locals m ∧ ∀ (i : Nat) (x : Str) (v : V), X.N[i]? = some x → σ[i]? = some (some v) → Vis X.env.scope x → ∃ u, RelV v u ∧ Look X.env s.heap m x u
  cell : ∀ x c, X.env.cells.lookup x = some c → ∃ v, s.heap.IsCell c v
  free : H X.env.locals = none
  freeC : ∀ x c, X.env.cells.lookup x = some c → H c = none
  pin : ∀ p ∈ X.pn ++ pins, s.heap.get? p.1 = some p.2 ∧ H p.1 = none ∧ p.1 ≠ X.env.locals ∧ p.1 ∉ X.fs ∧ ∀ v, p.2.data ≠ .cell v
  hok : HOk X.prog X.w H s.heap
  len : σ.length = X.N.length

section
variable {X : Cx} {pins : List (Addr × Obj)} {σ : List (Option V)} {H H' : Hp} {s : Shared} {h' : Heap}

theorem Cx.Ok.nofr (ok : X.Ok) {b : Addr} {o : Obj} (e : X.base.get? b = some o) : b ∉ X.fs := fun hb => by
  have := (ok.funs.mem hb).1
  rw [e] at this; cases this
theorem Inv.bs (I : Inv X pins σ H s) : ∀ b o, X.base.get? b = some o → s.heap.get? b = some o ∧ H b = none := fun b o e =>
  ⟨I.base.keep b o (I.ok.bs b o e).1 (I.ok.bs b o e).2 (I.ok.nofr e) (I.ok.noex b o e), I.base.free b o (I.ok.bs b o e).1 (I.ok.bs b o e).2 (I.ok.noex b o e)⟩
theorem Inv.bk (I : Inv X pins σ H s) : ∀ b o, X.base.get? b = some o → s.heap.get? b = some o := fun b o e => (I.bs b o e).1
theorem Inv.mod (I : Inv X pins σ H s) : Mod X.K X.mg X.base := I.ok.mod
theorem Inv.kIn (I : Inv X pins σ H s) : X.K.In s.heap := I.ok.mod.kin.keeps I.bk
theorem Inv.lt (I : Inv X pins σ H s) : X.env.locals < s.heap.objs.size := let ⟨_, hn, _⟩ := I.loc; hn.lt
theorem Inv.sz (I : Inv X pins σ H s) : X.s₀.heap.objs.size ≤ s.heap.objs.size := Nat.le_trans I.ok.above (Nat.le_of_lt I.lt)
theorem Inv.nofs (I : Inv X pins σ H s) {a : Addr} (h : s.heap.objs.size ≤ a) : a ∉ X.fs := fun hb => by
  obtain ⟨_, o, ho, _⟩ := I.ok.funs.mem hb
  exact absurd (Nat.lt_of_lt_of_le (Heap.lt_size ho) (Nat.le_trans I.sz h)) (Nat.lt_irrefl _)
theorem Inv.cne (I : Inv X pins σ H s) : ∀ x c, X.env.cells.lookup x = some c → c ≠ X.env.locals := fun x c e z => by
  obtain ⟨v, o, ho, hd⟩ := I.cell x c e
  obtain ⟨m, ⟨o', es, ep, ho', hd', _⟩, _⟩ := I.loc
  rw [z, ho'] at ho; cases ho; rw [hd'] at hd; cases hd
theorem Inv.funs (I : Inv X pins σ H s) : s.heap.FunFrames X.base X.outer := by
  have all : ∀ (l : List Env), (∀ b ∈ frs l, b ∈ X.fs) → X.s₀.heap.FunFrames X.base l → s.heap.FunFrames X.base l := by
    intro l
    induction l with
    | nil => intro _ _; trivial
    | cons env r ih =>
      intro hs hl
      obtain ⟨hk, ⟨L, o, hf, hn, ho, hd⟩, hr⟩ := hl
      have hL : L ∈ X.fs := hs L (by unfold frs; rw [List.filterMap_cons, hf]; exact List.mem_cons_self)
      obtain ⟨sl, e⟩ := I.base.slot L o ho (I.ok.frf L hL) hL fun z => I.ok.exfs L z hL
      exact ⟨hk, ⟨L, _, hf, hn, e, hd⟩, ih (fun b hb => hs b (by unfold frs; rw [List.filterMap_cons, hf]; exact List.mem_cons_of_mem _ hb)) hr⟩
  exact all X.outer (fun _ hb => hb) I.ok.funs

theorem Inv.stack (I : Inv X pins σ H s) : s.heap.FunFrames X.base X.stack := by
  rcases I.ok.stk with e | ⟨e, hf⟩
  · rw [e]; exact I.funs
  · rw [e]
    obtain ⟨m, hn, _⟩ := I.loc
    refine .cons (by rw [I.ok.kind]; decide) hf hn ?_ I.funs
    exact Heap.get?_none_of_le (Nat.le_trans I.ok.bsz I.ok.above)
theorem Inv.stkSub (I : Inv X pins σ H s) : ∀ b ∈ frs X.stack, b ∈ X.env.locals :: X.fs := fun b hb => by
  rcases I.ok.stk with e | ⟨e, hf⟩
  · rw [e] at hb; exact List.mem_cons_of_mem _ hb
  · rw [e] at hb
    unfold frs at hb
    rw [List.filterMap_cons, hf] at hb
    exact hb
theorem Inv.stkFree (I : Inv X pins σ H s) : ∀ b ∈ frs X.stack, H b = none := fun b hb => by
  rcases List.mem_cons.mp (I.stkSub b hb) with e | hb
  · rw [e]; exact I.free
  · obtain ⟨_, o, ho, _⟩ := I.ok.funs.mem hb
    exact I.base.free b o ho (I.ok.frf b hb) fun z => I.ok.exfs b z hb

theorem Inv.step {g' : Array GenState} {t' : Nat} {d' : Drawn} {ch : List Addr} (I : Inv X pins σ H s)
    (hch : ∀ b ∈ ch, (b ∈ X.ex ∨ X.s₀.heap.objs.size ≤ b) ∧ b ≠ X.env.locals ∧ (∀ x c, X.env.cells.lookup x = some c → c ≠ b) ∧ ∀ p ∈ X.pn ++ pins, p.1 ≠ b)
    (keep : ∀ b o, b ≠ X.env.locals → b ∉ X.fs → b ∉ ch → s.heap.get? b = some o → H b = none → h'.get? b = some o)
    (slot : ∀ b o, b ≠ X.env.locals → b ∈ X.fs → b ∉ ch → s.heap.get? b = some o → H b = none → ∃ sl, h'.get? b = some { o with slots := sl }) (free : ∀ b o, b ∉ ch → s.heap.get? b = some o → H b = none → H' b = none)
    (there : ∀ b o, b ∉ ch → s.heap.get? b = some o → ∃ o', h'.get? b = some o')
    (tups : ∀ b xs, H b = some (.tup xs) → H' b = some (.tup xs)) (frzs : ∀ b o u, H b = some (.frz o u) → H' b = some (.frz o u)) (tbls : ∀ b ps, H b = some (.tbl ps) → ∃ more, H' b = some (.tbl (ps ++ more)))
    (ns : ∀ m, s.heap.Ns X.env.locals m → h'.Ns X.env.locals m) (hok : HOk X.prog X.w H' h') (hg : AllBare g') :
    Inv X pins σ H' { s with heap := h', gens := g', drawn := d', toks := t' } := by
  have neL : ∀ b o, X.s₀.heap.get? b = some o → b ≠ X.env.locals := fun b o e => Nat.ne_of_lt (Nat.lt_of_lt_of_le (Heap.lt_size e) I.ok.above)
  have neC : ∀ b o, X.s₀.heap.get? b = some o → b ∉ X.ex → b ∉ ch := fun b o e hx hb => by
    rcases (hch b hb).1 with z | z
    · exact hx z
    · exact absurd (Nat.lt_of_lt_of_le (Heap.lt_size e) z) (Nat.lt_irrefl _)
  have cellK : ∀ x c, X.env.cells.lookup x = some c → ∀ v, s.heap.IsCell c v → h'.IsCell c v := fun x c e v ⟨o, ho, hd⟩ => by
    have nch : c ∉ ch := fun z => (hch c z).2.2.1 x c e rfl
    by_cases hc : c ∈ X.fs
    · obtain ⟨sl, q⟩ := slot c o (I.cne x c e) hc nch ho (I.freeC x c e)
      exact ⟨_, q, hd⟩
    · exact ⟨o, keep c o (I.cne x c e) hc nch ho (I.freeC x c e), hd⟩
  refine ⟨I.ok, I.os, hg, ⟨fun b o e n hb hx => ?_, fun b o e n hb hx => ?_, fun b o e n hx => ?_, fun b o e hx => ?_, fun b xs e => tups b xs (I.base.tups b xs e), fun b o xs e => frzs b o xs (I.base.frzs b o xs e), fun b ps e => ?_⟩, ?_, fun x c e => ?_, ?_, fun x c e => ?_, fun p hp => ?_, hok, I.len⟩
  · exact keep b o (neL b o e) hb (neC b o e hx) (I.base.keep b o e n hb hx) (I.base.free b o e n hx)
  · obtain ⟨sl, e1⟩ := I.base.slot b o e n hb hx
    obtain ⟨sl', e2⟩ := slot b _ (neL b o e) hb (neC b o e hx) e1 (I.base.free b o e n hx)
    exact ⟨sl', e2⟩
  · obtain ⟨o', e1⟩ := I.base.there b o e hx
    exact free b o' (neC b o e hx) e1 (I.base.free b o e n hx)
  · obtain ⟨o', e1⟩ := I.base.there b o e hx
    exact there b o' (neC b o e hx) e1
  · obtain ⟨m1, e1⟩ := I.base.tbls b ps e
    obtain ⟨m2, e2⟩ := tbls b _ e1
    exact ⟨m1 ++ m2, by rw [e2, Array.append_assoc]⟩
  · obtain ⟨m, hn, hl⟩ := I.loc
    refine ⟨m, ns m hn, fun i x v e1 e2 e3 => ?_⟩
    obtain ⟨u, r, l⟩ := hl i x v e1 e2 e3
    refine ⟨u, r, ?_⟩
    rcases l with l | ⟨k, c, e, z⟩
    · exact .inl l
    · exact .inr ⟨k, c, e, cellK x c e _ z⟩
  · obtain ⟨v, z⟩ := I.cell x c e
    exact ⟨v, cellK x c e v z⟩
  · obtain ⟨m, ⟨o, _, _, ho, _⟩, _⟩ := I.loc
    exact free _ o (fun z => (hch _ z).2.1 rfl) ho I.free
  · obtain ⟨v, o, ho, hd⟩ := I.cell x c e
    exact free c o (fun z => (hch c z).2.2.1 x c e rfl) ho (I.freeC x c e)
  · obtain ⟨e, n, ne, nf, d⟩ := I.pin p hp
    have nch : p.1 ∉ ch := fun z => (hch p.1 z).2.2.2 p hp rfl
    exact ⟨keep p.1 p.2 ne nf nch e n, free p.1 p.2 nch e n, ne, nf, d⟩
theorem Inv.un {t' : Nat} (I : Inv X pins σ H s) (u : Un X.fs [] H H' s.heap h') (hok : HOk X.prog X.w H' h') : Inv X pins σ H' { s with heap := h', toks := t' } := by
  obtain ⟨m, ⟨o, es, ep, ho, r⟩, _⟩ := id I.loc
  obtain ⟨sl, hL⟩ := u.any ho I.free (by simp)
  exact I.step (g' := s.gens) (d' := s.drawn) (ch := []) (fun _ z => nomatch z) (fun b o _ hb _ e n => u.keep b o e n hb (by simp)) (fun b o _ hb _ e n => u.slot b o e n hb (by simp)) (fun b o _ e n => u.free b o e n (by simp)) (fun b o _ e => u.there b o e (by simp)) u.tups u.frzs u.tbls (fun m' hm => by
    obtain ⟨o', es', ep', ho', r'⟩ := hm
    rw [ho] at ho'; cases ho'
    exact ⟨_, es', ep', hL, r'⟩) hok I.bare
theorem Inv.call {g' : Array GenState} {t' : Nat} {d' : Drawn} {ch : List Addr} (I : Inv X pins σ H s) (u : Un (frs X.stack) ch H H' s.heap h') (hok : HOk X.prog X.w H' h') (hg : AllBare g')
    (hch : ∀ b ∈ ch, (b ∈ X.ex ∨ X.s₀.heap.objs.size ≤ b) ∧ b ≠ X.env.locals ∧ (∀ x c, X.env.cells.lookup x = some c → c ≠ b) ∧ ∀ p ∈ X.pn ++ pins, p.1 ≠ b) :
    Inv X pins σ H' { s with heap := h', gens := g', drawn := d', toks := t' } := by
  obtain ⟨m, ⟨o, es, ep, ho, r⟩, _⟩ := id I.loc
  obtain ⟨sl, hL⟩ := u.any ho I.free fun z => (hch _ z).2.1 rfl
  exact I.step (ch := ch) hch (fun b o hL hb hc e n => u.keep b o e n (fun z => (List.mem_cons.mp (I.stkSub b z)).elim hL hb) hc) (fun b o _ _ hc e n => u.any e n hc) (fun b o hc e n => u.free b o e n hc) (fun b o hc e => u.there b o e hc) u.tups u.frzs u.tbls (fun m' hm => by
    obtain ⟨o', es', ep', ho', r'⟩ := hm
    rw [ho] at ho'; cases ho'
    exact ⟨_, es', ep', hL, r'⟩) hok hg
theorem Inv.turned {t' : Nat} {it : Addr} (I : Inv X pins σ H s) (k : ∀ b o, b ≠ it → s.heap.get? b = some o → h'.get? b = some o) (hn : H it = none) (hL : it ≠ X.env.locals)
    (h1 : it ∈ X.ex ∨ X.s₀.heap.objs.size ≤ it) (h2 : ∀ x c, X.env.cells.lookup x = some c → c ≠ it) (h3 : ∀ p ∈ X.pn ++ pins, p.1 ≠ it) : Inv X pins σ H { s with heap := h', toks := t' } := by
  have nit : ∀ b u, H b = some u → b ≠ it := fun b u e z => by rw [z, hn] at e; cases e
  refine I.step (g' := s.gens) (d' := s.drawn) (ch := [it]) (fun b hb => ?_) (fun b o _ _ hc e _ => k b o (fun z => hc (by simp [z])) e) (fun b o _ _ hc e _ => ⟨o.slots, k b o (fun z => hc (by simp [z])) e⟩) (fun _ _ _ _ n => n)
    (fun b o hc e => ⟨o, k b o (fun z => hc (by simp [z])) e⟩) (fun _ _ e => e) (fun _ _ _ e => e) (fun b ps e => ⟨#[], by rw [e]; simp⟩) (fun m hm => ?_) (fun b u e => ?_) I.bare
  · have e : b = it := by simpa using hb
    subst e
    exact ⟨h1, hL, h2, h3⟩
  · obtain ⟨o, es, ep, ho, r⟩ := hm
    exact ⟨o, es, ep, k _ o (Ne.symm hL) ho, r⟩
  · refine (I.hok b u e).stay (fun c v hc q => k c v ?_ q) (fun _ q => q) fun _ _ q => q
    rcases hc with z | z
    · rw [z]; exact nit b u e
    · exact nit c _ z
theorem Inv.tok (I : Inv X pins σ H s) (t : Nat) : Inv X pins σ H { s with toks := t } := I.un (h' := s.heap) (t' := t) Un.refl I.hok
theorem Inv.kept {t' : Nat} (I : Inv X pins σ H s) (k : ∀ b u, s.heap.get? b = some u → h'.get? b = some u) : Inv X pins σ H { s with heap := h', toks := t' } := I.un (Un.kept k) (I.hok.kept k)
theorem Inv.laid {a : Addr} {o : HO} {t' : Nat} (I : Inv X pins σ H s) (k : ∀ b u, s.heap.get? b = some u → h'.get? b = some u) (hp : s.heap.objs.size ≤ a) (new : ObjOk X.prog X.w (upd H a o) h' a o) :
    Inv X pins σ (upd H a o) { s with heap := h', toks := t' } := I.un (Un.laid k hp (I.hok.fresh hp)) (I.hok.laid k hp new)
theorem Inv.write {x e : Addr} {o : HO} {t' : Nat} (I : Inv X pins σ H s) (mu : Mut (H x)) (he : e = x ∨ H e = some (.own x)) (k : ∀ b u, b ≠ e → s.heap.get? b = some u → h'.get? b = some u) (heo : ∃ u, h'.get? e = some u)
    (new : ObjOk X.prog X.w (upd H x o) h' x o) : Inv X pins σ (upd H x o) { s with heap := h', toks := t' } := I.un (Un.write mu he k heo) (I.hok.write mu he k heo new)
theorem Inv.pins_of {pins' : List (Addr × Obj)} (I : Inv X pins σ H s) (h : ∀ p ∈ pins', s.heap.get? p.1 = some p.2 ∧ H p.1 = none ∧ p.1 ≠ X.env.locals ∧ p.1 ∉ X.fs ∧ ∀ v, p.2.data ≠ .cell v) : Inv X pins' σ H s :=
  ⟨I.ok, I.os, I.bare, I.base, I.loc, I.cell, I.free, I.freeC, fun p hp => (List.mem_append.mp hp).elim (fun z => I.pin p (List.mem_append_left _ z)) (h p), I.hok, I.len⟩

theorem yp1 {N : List Str} (hN : N.Nodup) {i j : Nat} {x : Str} (a : N[i]? = some x) (b : N[j]? = some x) : i = j := by
  obtain ⟨h1, e1⟩ := List.getElem?_eq_some_iff.mp a
  obtain ⟨h2, e2⟩ := List.getElem?_eq_some_iff.mp b
  exact (List.getElem_inj hN).mp (e1.trans e2.symm)

theorem xh3 {M : Model} {A : Around} {E : Value → Shared → Prop} {i : Nat} {x : Str} {v : V} {u : Value} {Q : Unit → Shared → Prop} (I : Inv X pins σ H s) (hN : X.N.Nodup) (hi : X.N[i]? = some x) (hx : Loc X.env.scope x) (r : RelV v u)
    (h : ∀ s', Inv X pins (σ.set i (some v)) H s' → (∃ a, Heap.SameBut a s.heap s'.heap ∧ (a = X.env.locals ∨ X.env.cells.lookup x = some a)) → Q () s') (hf : X.fn x = true ∨ X.env.scope.names.lookup x = some .local := by first | exact .inl rfl | exact .inr rfl | assumption) : wpAny M A (storeName X.env x u) Q E s := by
  obtain ⟨m, hn, hl⟩ := id I.loc
  have hcls : (X.env.scope.kind == .class || (X.env.scope.kind == .module && X.env.locals != X.env.globals)) = false := by rw [I.ok.kind]; rfl
  have hiσ : i < σ.length := by rw [I.len]; exact (List.getElem?_eq_some_iff.mp hi).1
  have cne := I.cne
  have tracked : ∀ {a : Addr} {h' : Heap}, (∃ o, s.heap.get? a = some o ∧ H a = none) → Heap.SameBut a s.heap h' → HOk X.prog X.w H h' := fun {a h'} ha hs b ob e => by
    obtain ⟨_, _, hfree⟩ := ha
    refine (I.hok b ob e).stay (fun c w' hc q => (hs.2 c ?_).trans q) (fun _ q => q) fun _ _ q => q
    rintro rfl
    rcases hc with rfl | hc
    · rw [hfree] at e; cases e
    · rw [hfree] at hc; cases hc
  rcases hx with hk | hk
  · refine wpAny_storeName_local hk hn (fun h' hn' hs => ?_) hcls
    obtain ⟨oL, _, _, hoL, _⟩ := id hn
    refine h _ ⟨I.ok, I.os, I.bare, ⟨fun b o e n hb hx => ?_, fun b o e n hb hx => ?_, I.base.free, fun b o e hx => ?_, I.base.tups, I.base.frzs, I.base.tbls⟩, ⟨_, hn', fun j y v' e1 e2 e3 => ?_⟩, fun y c e => ?_, I.free, I.freeC, fun p hp => ?_, tracked ⟨oL, hoL, I.free⟩ hs, by simpa using I.len⟩ ⟨_, hs, .inl rfl⟩
    · exact (hs.2 b (Nat.ne_of_lt (Nat.lt_of_lt_of_le (Heap.lt_size e) I.ok.above))).trans (I.base.keep b o e n hb hx)
    · obtain ⟨sl, e1⟩ := I.base.slot b o e n hb hx
      exact ⟨sl, (hs.2 b (Nat.ne_of_lt (Nat.lt_of_lt_of_le (Heap.lt_size e) I.ok.above))).trans e1⟩
    · obtain ⟨o', e1⟩ := I.base.there b o e hx
      exact ⟨o', (hs.2 b (Nat.ne_of_lt (Nat.lt_of_lt_of_le (Heap.lt_size e) I.ok.above))).trans e1⟩
    · by_cases hj : j = i
      · subst hj
        rw [hi] at e1; cases e1
        rw [List.getElem?_set_self hiσ] at e2
        cases e2
        exact ⟨u, r, .inl ⟨hk, by simp⟩⟩
      · rw [List.getElem?_set_ne (Ne.symm hj)] at e2
        obtain ⟨u', r', q⟩ := hl j y v' e1 e2 e3
        refine ⟨u', r', ?_⟩
        rcases q with ⟨k, e⟩ | ⟨k, c, e, z⟩
        · refine .inl ⟨k, ?_⟩
          have : y ≠ x := fun e => hj (yp1 hN e1 (e ▸ hi))
          simp [this, e]
        · exact .inr ⟨k, c, e, z.sameBut hs (cne y c e)⟩
    · obtain ⟨w', z⟩ := I.cell y c e
      exact ⟨w', z.sameBut hs (cne y c e)⟩
    · obtain ⟨e, n, ne, nf, d⟩ := I.pin p hp
      exact ⟨(hs.2 p.1 ne).trans e, n, ne, nf, d⟩
  · have hfn : X.fn x = true := by
      rcases hf with z | z
      · exact z
      · rw [z] at hk; cases hk
    obtain ⟨c, hc⟩ := I.ok.has x (.inl hk)
    obtain ⟨w', z⟩ := I.cell x c hc
    refine wpAny_storeName_cell I.ok.kind hk hc z (fun h' hc' hs => ?_)
    obtain ⟨oc, hoc, hocd⟩ := id z
    refine h { s with heap := h' } ⟨I.ok, I.os, I.bare, ⟨fun b o e n hb hx => ?_, fun b o e n hb hx => ?_, I.base.free, fun b o e hx => ?_, I.base.tups, I.base.frzs, I.base.tbls⟩, ⟨m, hn.sameBut hs (Ne.symm (cne x c hc)), fun j y v' e1 e2 e3 => ?_⟩, fun y c' e => ?_, I.free, I.freeC, fun p hp => ?_, tracked ⟨oc, hoc, I.freeC x c hc⟩ hs, by simpa using I.len⟩ ⟨c, hs, .inr hc⟩
    · exact (hs.2 b (Nat.ne_of_lt (Nat.lt_of_lt_of_le (Heap.lt_size e) (I.ok.cab x c hfn hc)))).trans (I.base.keep b o e n hb hx)
    · obtain ⟨sl, e1⟩ := I.base.slot b o e n hb hx
      exact ⟨sl, (hs.2 b (Nat.ne_of_lt (Nat.lt_of_lt_of_le (Heap.lt_size e) (I.ok.cab x c hfn hc)))).trans e1⟩
    · obtain ⟨o', e1⟩ := I.base.there b o e hx
      exact ⟨o', (hs.2 b (Nat.ne_of_lt (Nat.lt_of_lt_of_le (Heap.lt_size e) (I.ok.cab x c hfn hc)))).trans e1⟩
    · by_cases hj : j = i
      · subst hj
        rw [hi] at e1; cases e1
        rw [List.getElem?_set_self hiσ] at e2
        cases e2
        exact ⟨u, r, .inr ⟨.inl hk, c, hc, hc'⟩⟩
      · rw [List.getElem?_set_ne (Ne.symm hj)] at e2
        obtain ⟨u', r', q⟩ := hl j y v' e1 e2 e3
        refine ⟨u', r', ?_⟩
        rcases q with q | ⟨k, c', e, z'⟩
        · exact .inl q
        · refine .inr ⟨k, c', e, z'.sameBut hs ?_⟩
          rintro rfl
          exact hj (yp1 hN e1 (I.ok.inj _ _ _ e hc ▸ hi))
    · by_cases hcc : c' = c
      · subst hcc; exact ⟨_, hc'⟩
      · obtain ⟨w2, z2⟩ := I.cell y c' e
        exact ⟨w2, z2.sameBut hs hcc⟩
    · obtain ⟨e, n, ne, nf, d⟩ := I.pin p hp
      refine ⟨(hs.2 p.1 ?_).trans e, n, ne, nf, d⟩
      intro q
      rw [q, hoc] at e
      have q' : oc = p.2 := Option.some.inj e
      exact d w' (by rw [← q']; exact hocd)
theorem zl1 {M : Model} {A : Around} {E : Value → Shared → Prop} {i : Nat} {x : Str} {v : V} {u : Value} {Q : Unit → Shared → Prop} (I : Inv X pins σ H s) (hN : X.N.Nodup) (hi : X.N[i]? = some x) (hx : Loc X.env.scope x) (r : RelV v u)
    (h : ∀ s', Inv X pins (σ.set i (some v)) H s' → Q () s') (hf : X.fn x = true ∨ X.env.scope.names.lookup x = some .local := by first | exact .inl rfl | exact .inr rfl | assumption) : wpAny M A (storeName X.env x u) Q E s :=
  xh3 I hN hi hx r (fun s' I' _ => h s' I') hf
theorem Inv.call' {s' : Shared} {ch : List Addr} (I : Inv X pins σ H s) (ho : s'.os = s.os) (u : Un (frs X.stack) ch H H' s.heap s'.heap) (hok : HOk X.prog X.w H' s'.heap) (hg : AllBare s'.gens)
    (hch : ∀ b ∈ ch, (b ∈ X.ex ∨ X.s₀.heap.objs.size ≤ b) ∧ b ≠ X.env.locals ∧ (∀ x c, X.env.cells.lookup x = some c → c ≠ b) ∧ ∀ p ∈ X.pn ++ pins, p.1 ≠ b) : Inv X pins σ H' s' := by
  obtain ⟨h', g', d', t', o'⟩ := s'
  have e : o' = s.os := ho
  subst e
  exact I.call (g' := g') (t' := t') (d' := d') u hok hg hch
end

noncomputable abbrev XK := Value → Option Addr → Hp → Prop
noncomputable abbrev St := List (Option V)
noncomputable abbrev VK := V → Hp → Prop
noncomputable abbrev TE := St → Hp → VK → Prop
noncomputable abbrev TT := St → Hp → (Bool → Hp → Prop) → Prop
noncomputable abbrev TA := St → Hp → (List V → Hp → Prop) → Prop
structure Ends where
  nx : St → Hp → Prop
  rt : VK
  bk : St → Hp → Prop := fun _ _ => False
  ct : St → Hp → Prop := fun _ _ => False
noncomputable abbrev TS := Ends → St → Hp → Prop

noncomputable def EP (X : Cx) (pins : List (Addr × Obj)) (σ : St) (Q : VK) (u : Value) (s' : Shared) : Prop := ∃ v H', Inv X pins σ H' s' ∧ RelV v u ∧ Q v H'
noncomputable def TP (X : Cx) (pins : List (Addr × Obj)) (σ : St) (Q : Bool → Hp → Prop) (b : Bool) (s' : Shared) : Prop := ∃ H', Inv X pins σ H' s' ∧ Q b H'
noncomputable def AP (X : Cx) (pins : List (Addr × Obj)) (σ : St) (Q : List V → Hp → Prop) (us : List Value) (s' : Shared) : Prop := ∃ vs H', Inv X pins σ H' s' ∧ Vals vs us ∧ Q vs H'
noncomputable def SP (X : Cx) (pins : List (Addr × Obj)) (D : Ends) (f : Flow) (s' : Shared) : Prop :=
  match f with
  | .next => ∃ σ' H', Inv X pins σ' H' s' ∧ D.nx σ' H'
  | .brk => ∃ σ' H', Inv X pins σ' H' s' ∧ D.bk σ' H'
  | .cont => ∃ σ' H', Inv X pins σ' H' s' ∧ D.ct σ' H'
  | .ret u => ∃ v σ' H', Inv X pins σ' H' s' ∧ RelV v u ∧ D.rt v H'

noncomputable def PE (X : Cx) (e : Expr) (t : TE) : Prop :=
  ∀ (pins : List (Addr × Obj)) (s : Shared) (σ : St) (H : Hp) (Q : VK), Inv X pins σ H s → t σ H Q → wpAny (model X.prog X.w) X.A (eval e X.env) (EP X pins σ Q) X.xe s
noncomputable def PT (X : Cx) (e : Expr) (t : TT) : Prop :=
  ∀ (pins : List (Addr × Obj)) (s : Shared) (σ : St) (H : Hp) (Q : Bool → Hp → Prop), Inv X pins σ H s → t σ H Q → wpAny (model X.prog X.w) X.A (isTrue e X.env (eval e X.env)) (TP X pins σ Q) X.xe s
noncomputable def PW (X : Cx) (e : Expr) (t : TT) : Prop :=
  ∀ (whole : Sem Value) (pins : List (Addr × Obj)) (s : Shared) (σ : St) (H : Hp) (Q : Bool → Hp → Prop), Inv X pins σ H s → t σ H Q → wpAny (model X.prog X.w) X.A (isTrue e X.env whole) (TP X pins σ Q) X.xe s
theorem PW.pt {X : Cx} {e : Expr} {t : TT} (h : PW X e t) : PT X e t := h _
noncomputable def PA (X : Cx) (es : List Expr) (t : TA) : Prop :=
  ∀ (pos : Pos) (pins : List (Addr × Obj)) (s : Shared) (σ : St) (H : Hp) (Q : List V → Hp → Prop), Inv X pins σ H s → t σ H Q → wpAny (model X.prog X.w) X.A (spliced (backTo pos (starEach es X.env))) (AP X pins σ Q) X.xe s
noncomputable def PS (X : Cx) (st : Stmt) (t : TS) : Prop :=
  ∀ (pins : List (Addr × Obj)) (s : Shared) (σ : St) (H : Hp) (D : Ends), Inv X pins σ H s → t D σ H → wpAny (model X.prog X.w) X.A (exec st X.env) (SP X pins D) X.xe s
noncomputable def PSs (X : Cx) (st : List Stmt) (t : TS) : Prop :=
  ∀ (pins : List (Addr × Obj)) (s : Shared) (σ : St) (H : Hp) (D : Ends), Inv X pins σ H s → t D σ H → wpAny (model X.prog X.w) X.A (execs st X.env) (SP X pins D) X.xe s
theorem thn {α : Type} {t : Sem α} {Q Q' : α → Shared → Prop} {M : Model} {A : Around} {E : Value → Shared → Prop} {s : Shared} (h : wpAny M A t Q E s) (hQ : ∀ a s, Q a s → Q' a s) : wpAny M A t Q' E s := wpAny_mono h hQ fun _ _ x => x
end L2

namespace L2
open PySem PySem.Spec PyProof.Rows
section
variable {X : Cx}

noncomputable def tVar (i : Nat) : TE := fun σ H Q => ∃ v, σ[i]? = some (some v) ∧ Q v H
noncomputable def tC (v : V) : TE := fun _ H Q => Q v H
theorem zv4 {i : Nat} {x : Str} {pos : Pos} (hN : X.N[i]? = some x) (hv : Vis X.env.scope x) (hd : (x == ("__debug__" : Str)) = false := by decide) (hcd : (x == ("__classdict__" : Str)) = false := by decide) : PE X (.Name x pos) (tVar i) := by
  intro pins s σ H Q I h
  obtain ⟨v, e, h⟩ := h
  obtain ⟨m, hn, hl⟩ := I.loc
  obtain ⟨u, r, l⟩ := hl i x v hN e hv
  have fin : EP X pins σ Q u s := ⟨v, H, I, r, h⟩
  rcases l with ⟨hk, hm⟩ | ⟨hk, c, hc, hcell⟩
  · exact wpAny_Name (wpAny_loadName_local I.ok.kind hk hn hm fin) hd
  · rcases hk with hk | hk
    · exact wpAny_Name (wpAny_loadName_cell I.ok.kind hk hc hcell fin) hd
    · exact wpAny_Name (wpAny_loadName_free I.ok.kind hk hc hcell fin hcd) hd
theorem zf7 {i j pos} : PE X (.Constant (.int i) j pos) (tC (.int i)) := fun _ _ _ H _ I h => wpAny_Constant_int ⟨.int i, H, I.tok _, ⟨_, rfl⟩, h⟩
theorem zg8 {b j pos} : PE X (.Constant (.bool b) j pos) (tC (.bl b)) := fun _ _ _ H _ I h => Constant_bool ⟨.bl b, H, I, rfl, h⟩
theorem xf7 {j pos} : PE X (.Constant .none j pos) (tC .non) := fun _ _ _ H _ I h => Constant_none ⟨.non, H, I, rfl, h⟩
theorem we7 {x j pos} : PE X (.Constant (.str x) j pos) (tC (.str x)) := fun _ _ _ H _ I h => Calls.Constant_str ⟨.str x, H, I.tok _, ⟨_, rfl⟩, h⟩

noncomputable def Gl (X : Cx) (x : Str) : Prop := X.env.kindOf x = some .globalImplicit
theorem wr0 {E : Value → Shared → Prop} {pins : List (Addr × Obj)} {s : Shared} {σ : St} {H : Hp} {x : Str} {u : Value} {pos : Pos} {Q : Value → Shared → Prop} (I : Inv X pins σ H s) (hg : Gl X x) (hm : X.mg x = some u) (h : Q u s)
    (hd : (x == ("__debug__" : Str)) = false := by decide) : wpAny (model X.prog X.w) X.A (eval (.Name x pos) X.env) Q E s :=
  Calls.Name_function_global I.ok.kind hg (Calls.loadGlobal_global (by rw [I.ok.glob]; exact I.mod.glob.keeps I.bk) hm h) hd
theorem zd1 {E : Value → Shared → Prop} {pins : List (Addr × Obj)} {s : Shared} {σ : St} {H : Hp} {x : Str} {u : Value} {pos : Pos} {Q : Value → Shared → Prop} (I : Inv X pins σ H s) (hg : Gl X x) (hm : X.mg x = none) (hv : bootBuiltins x = some u) (h : Q u s)
    (hn : x ≠ "__name__" := by decide) (hd : (x == ("__debug__" : Str)) = false := by decide) : wpAny (model X.prog X.w) X.A (eval (.Name x pos) X.env) Q E s := by
  obtain ⟨mb, h1, h2⟩ := I.mod.blt
  exact Calls.Name_function_global I.ok.kind hg (Calls.loadGlobal_builtin (by rw [I.ok.glob]; exact I.mod.glob.keeps I.bk) hm (by rw [I.ok.blt]; exact h1.keeps I.bk) ((h2 x hn).trans hv) h) hd
theorem xn5 {x : Str} {v : V} {u : Value} {pos : Pos} (hg : Gl X x) (hm : X.mg x = some u) (r : RelV v u) (hd : (x == ("__debug__" : Str)) = false := by decide) : PE X (.Name x pos) (tC v) :=
  fun _ _ _ H _ I h => wr0 I hg hm ⟨v, H, I, r, h⟩ hd
theorem wn5 {x : Str} {v : V} {u : Value} {pos : Pos} (hg : Gl X x) (hm : X.mg x = none) (hv : bootBuiltins x = some u) (r : RelV v u) (hn : x ≠ "__name__" := by decide) (hd : (x == ("__debug__" : Str)) = false := by decide) : PE X (.Name x pos) (tC v) :=
  fun _ _ _ H _ I h => zd1 I hg hm hv ⟨v, H, I, r, h⟩ hn hd

variable {a b : Expr} {ta tb : TE} {pos : Pos}
noncomputable def tB (t : TE) : TT := fun σ H Q => t σ H fun x H1 => ∃ c, x = .bl c ∧ Q c H1
theorem wc7 {e : Expr} {t : TE} (h : PE X e t) (he : ∀ whole, isTrue e X.env whole = (do let v ← whole; standAt e.pos; holding [v] (truthy v)) := by intro _; rfl) : PT X e (tB t) := by
  intro pins s σ H Q I hw
  refine isTrue_plain (thn (h pins s σ H _ I hw) fun v s1 ⟨x, H1, I1, r1, q1⟩ => ?_) (he _)
  obtain ⟨d, rfl, q⟩ := q1
  cases r1
  exact wpAny_truthy_bool ⟨H1, I1, q⟩

variable {tA tB' : TT} {rest : List Expr}
noncomputable def tAnd (t u : TT) : TT := fun σ H Q => t σ H fun c H1 => if c = true then u σ H1 Q else Q false H1
noncomputable def tOr (t u : TT) : TT := fun σ H Q => t σ H fun c H1 => if c = true then Q true H1 else u σ H1 Q
noncomputable def tNot (t : TT) : TT := fun σ H Q => t σ H fun c H1 => Q (!c) H1
theorem wj5 (ha : PT X a tA) : PW X (.BoolOp .And [a] pos) tA := by
  intro wh pins s σ H Q I h
  refine isTrue_and (thn (ha pins s σ H Q I h) fun c s1 e => ?_)
  cases c with
  | true => exact isTrue_and_nil e
  | false => exact e
theorem yc7 (ha : PT X a tA) : PW X (.BoolOp .Or [a] pos) tA := by
  intro wh pins s σ H Q I h
  refine isTrue_or (thn (ha pins s σ H Q I h) fun c s1 e => ?_)
  cases c with
  | false => exact isTrue_or_nil e
  | true => exact e
theorem zc7 (ha : PT X a tA) (hb : PW X (.BoolOp .And (b :: rest) pos) tB') : PW X (.BoolOp .And (a :: b :: rest) pos) (tAnd tA tB') := by
  intro wh pins s σ H Q I h
  refine isTrue_and (thn (ha pins s σ H _ I h) fun c s1 ⟨H1, I1, q1⟩ => ?_)
  cases c with
  | true => exact hb wh pins s1 σ H1 Q I1 q1
  | false => exact ⟨H1, I1, q1⟩
theorem we8 (ha : PT X a tA) (hb : PW X (.BoolOp .Or (b :: rest) pos) tB') : PW X (.BoolOp .Or (a :: b :: rest) pos) (tOr tA tB') := by
  intro wh pins s σ H Q I h
  refine isTrue_or (thn (ha pins s σ H _ I h) fun c s1 ⟨H1, I1, q1⟩ => ?_)
  cases c with
  | true => exact ⟨H1, I1, q1⟩
  | false => exact hb wh pins s1 σ H1 Q I1 q1
theorem xd7 (ha : PT X a tA) : PT X (.UnaryOp .Not a pos) (tNot tA) := by
  intro pins s σ H Q I h
  exact isTrue_not (ha pins s σ H (fun c H1 => Q (!c) H1) I h)
noncomputable def tIf (t : TT) (ta tb : TE) : TE := fun σ H Q => t σ H fun c H1 => if c = true then ta σ H1 Q else tb σ H1 Q
theorem yi4 {c : Expr} (hc : PT X c tA) (ha : PE X a ta) (hb : PE X b tb) : PE X (.IfExp c a b pos) (tIf tA ta tb) := by
  intro pins s σ H Q I h
  refine wpAny_IfExp (thn (hc pins s σ H _ I h) fun d s1 ⟨H1, I1, q1⟩ => ?_)
  cases d with
  | true => exact ha pins s1 σ H1 Q I1 q1
  | false => exact hb pins s1 σ H1 Q I1 q1
end
end L2

namespace L2
open PySem PySem.Spec PyProof.Rows

noncomputable def SqL (K : PySem.W.Frag) (H : Hp) (a : Addr) (xs : List V) : Prop :=
  Rd H a (.lst xs) ∨
    ∃ (o : Obj) (its : Array Value) (n : Nat), K.lookup a = some o ∧ o.cls = .type "list" ∧ o.dict = none ∧ o.data = .seq its n ∧ its.size ≤ sizeLine ∧ Vals xs its.toList
noncomputable def SqT (K : PySem.W.Frag) (H : Hp) (a : Addr) (xs : List V) : Prop :=
  Rd H a (.tup xs) ∨
    ∃ (o : Obj) (its : Array Value) (n : Nat), K.lookup a = some o ∧ o.cls = .type "tuple" ∧ o.data = .seq its n ∧ its.size ≤ sizeLine ∧ Vals xs its.toList
noncomputable def absV : Value → Option V
  | .none => some .non
  | .bool b => some (.bl b)
  | .int i _ => some (.int i)
  | .str x _ => some (.str x)
  | .bytes b _ => some (.byt b)
  | .float b _ => some (.flt b)
  | .ref a => some (.ref a)
  | .type n => some (.ty n)
  | _ => none
theorem RelV.abs {x : V} {u : Value} (r : RelV x u) : absV u = some x := by
  cases x with
  | non => cases r; rfl
  | bl _ => cases r; rfl
  | int _ => obtain ⟨t, rfl⟩ := r; rfl
  | str _ => obtain ⟨t, rfl⟩ := r; rfl
  | byt _ => obtain ⟨t, rfl⟩ := r; rfl
  | flt _ => obtain ⟨t, rfl⟩ := r; rfl
  | ref _ => cases r; rfl
  | ty _ => cases r; rfl
theorem RelV.inj {x y : V} {u : Value} (r : RelV x u) (q : RelV y u) : x = y := Option.some.inj (r.abs.symm.trans q.abs)
theorem Vals.inj : ∀ {xs ys : List V} {us : List Value}, Vals xs us → Vals ys us → xs = ys
  | _, _, _, .nil, .nil => rfl
  | _, _, _, .cons r t, .cons r' t' => by rw [r.inj r', Vals.inj t t']
section
variable {X : Cx} {pins : List (Addr × Obj)} {σ : St} {H : Hp} {s : Shared} {a : Addr} {xs ys : List V}
theorem SqL.of {K : PySem.W.Frag} (h : H a = some (.lst xs)) : SqL K H a xs := .inl (.inl h)
theorem SqT.of {K : PySem.W.Frag} (h : H a = some (.tup xs)) : SqT K H a xs := .inl (.inl h)
theorem Inv.list (I : Inv X pins σ H s) (h : SqL X.K H a xs) : ∃ its : List Value, Vals xs its ∧ PlainL s.heap a its.toArray ∧ xs.length ≤ sizeLine := by
  rcases h with h | ⟨o, its, n, hk, hc, hd, hs, hz, r⟩
  · obtain ⟨z, its, n, r, e⟩ := h.ok I.hok
    exact ⟨its, r, ⟨_, n, e, rfl, rfl, rfl⟩, z⟩
  · refine ⟨its.toList, r, ⟨o, n, I.kIn a o hk, hc, hd, by simpa using hs⟩, ?_⟩
    have e := r.length
    simp only [Array.length_toList] at e
    omega
theorem Inv.tuple (I : Inv X pins σ H s) (h : SqT X.K H a xs) : ∃ its : List Value, Vals xs its ∧ IsTup s.heap a its.toArray ∧ xs.length ≤ sizeLine := by
  rcases h with h | ⟨o, its, n, hk, hc, hs, hz, r⟩
  · obtain ⟨z, its, r, p⟩ := h.ok I.hok
    exact ⟨its, r, p, z⟩
  · refine ⟨its.toList, r, ⟨o, I.kIn a o hk, hc, n, by simpa using hs⟩, ?_⟩
    have e := r.length
    simp only [Array.length_toList] at e
    omega
theorem Inv.list_inj (I : Inv X pins σ H s) (h : SqL X.K H a xs) (h' : SqL X.K H a ys) : xs = ys := by
  obtain ⟨its, r, ⟨o, n, e, _, _, d⟩, _⟩ := I.list h
  obtain ⟨its', r', ⟨o', n', e', _, _, d'⟩, _⟩ := I.list h'
  rw [e] at e'; cases e'
  rw [d] at d'
  injection d' with d1 _
  have : its = its' := by simpa using congrArg Array.toList d1
  subst this
  exact r.inj r'
theorem Inv.tuple_inj (I : Inv X pins σ H s) (h : SqT X.K H a xs) (h' : SqT X.K H a ys) : xs = ys := by
  obtain ⟨its, r, ⟨o, e, _, n, d⟩, _⟩ := I.tuple h
  obtain ⟨its', r', ⟨o', e', _, n', d'⟩, _⟩ := I.tuple h'
  rw [e] at e'; cases e'
  rw [d] at d'
  injection d' with d1 _
  have : its = its' := by simpa using congrArg Array.toList d1
  subst this
  exact r.inj r'
end

noncomputable abbrev Cx.wish (X : Cx) (E : Value → Shared → Prop) : Cx := { X with xe := E }
noncomputable abbrev Cx.nox (X : Cx) : Cx := X.wish fun _ _ => False
theorem Cx.Ok.wish {X : Cx} (ok : X.Ok) (E : Value → Shared → Prop) : (X.wish E).Ok :=
  ⟨ok.mod, ok.kind, ok.glob, ok.blt, ok.above, ok.inj, ok.has, ok.cab, ok.hd, ok.frames, ok.stk, ok.exf, ok.bs, ok.bsz, ok.noex, ok.exfs, ok.funs, ok.frf⟩
theorem Cx.Ok.unwish {X : Cx} {E : Value → Shared → Prop} (ok : (X.wish E).Ok) : X.Ok :=
  ⟨ok.mod, ok.kind, ok.glob, ok.blt, ok.above, ok.inj, ok.has, ok.cab, ok.hd, ok.frames, ok.stk, ok.exf, ok.bs, ok.bsz, ok.noex, ok.exfs, ok.funs, ok.frf⟩
section
variable {X : Cx} {pins : List (Addr × Obj)} {σ : St} {H : Hp} {s : Shared} {E : Value → Shared → Prop}
theorem Inv.wish (I : Inv X pins σ H s) (E : Value → Shared → Prop) : Inv (X.wish E) pins σ H s := ⟨I.ok.wish E, I.os, I.bare, I.base, I.loc, I.cell, I.free, I.freeC, I.pin, I.hok, I.len⟩
theorem Inv.unwish (I : Inv (X.wish E) pins σ H s) : Inv X pins σ H s := ⟨I.ok.unwish, I.os, I.bare, I.base, I.loc, I.cell, I.free, I.freeC, I.pin, I.hok, I.len⟩
theorem SP.unwish {D : Ends} {f : Flow} {s' : Shared} (h : SP (X.wish E) pins D f s') : SP X pins D f s' := by
  cases f with
  | next => obtain ⟨σ', H', I, q⟩ := h; exact ⟨σ', H', I.unwish, q⟩
  | brk => obtain ⟨σ', H', I, q⟩ := h; exact ⟨σ', H', I.unwish, q⟩
  | cont => obtain ⟨σ', H', I, q⟩ := h; exact ⟨σ', H', I.unwish, q⟩
  | ret u => obtain ⟨v, σ', H', I, r, q⟩ := h; exact ⟨v, σ', H', I.unwish, r, q⟩
theorem PSs.nox {st : List Stmt} {t : TS} (h : PSs X.nox st t) : PSs X st t := fun pins s σ H D I hw =>
  wpAny_mono (h pins s σ H D (I.wish _) hw) (fun _ _ q => q.unwish) fun _ _ z => False.elim z
end

section
variable {X : Cx} {st : Stmt} {rest : List Stmt} {t u : TS} {e : Expr} {te : TE} {pos : Pos}
noncomputable def yu7 : TS := fun D σ H => D.nx σ H
noncomputable def tSeq (t u : TS) : TS := fun D σ H => t { D with nx := u D } σ H
theorem wk5 : PSs X [] yu7 := fun _ _ σ H _ I h => wpAny_execs_nil ⟨σ, H, I, h⟩
theorem xh4 (h1 : PS X st t) (h2 : PSs X rest u) : PSs X (st :: rest) (tSeq t u) := by
  intro pins s σ H D I h
  refine wpAny_execs_cons (thn (h1 pins s σ H { D with nx := u D } I h) fun f s1 q => ?_)
  cases f with
  | next =>
    obtain ⟨σ', H', I', q⟩ := q
    exact h2 pins s1 σ' H' D I' q
  | ret v => exact q
  | brk => exact q
  | cont => exact q
theorem zk5 (h1 : PS X st t) : PSs X [st] t := by
  intro pins s σ H D I h
  refine wpAny_execs_cons (thn (h1 pins s σ H D I h) fun f s1 q => ?_)
  cases f with
  | next => exact wpAny_execs_nil q
  | ret v => exact q
  | brk => exact q
  | cont => exact q
theorem Inv.quiet {pins : List (Addr × Obj)} {σ : St} {H : Hp} {s : Shared} (I : Inv X pins σ H s) : interactive X.env = false := by simp [interactive, I.ok.kind]
noncomputable def zu7 (te : TE) : TS := fun D σ H => te σ H fun _ H1 => D.nx σ H1
theorem yl5 (he : PE X e te) (hs : swapsWith e none pos.line X.env = pure false := by rfl) : PS X (.Expr e pos) (zu7 te) := by
  intro pins s σ H D I h
  exact wpAny_Expr_any (thn (he pins s σ H _ I h) fun v s1 ⟨x, H1, I1, r1, q1⟩ => ⟨σ, H1, I1, q1⟩) I.quiet hs
noncomputable def tRet (te : TE) : TS := fun D σ H => te σ H D.rt
theorem yd7 (he : PE X e te) : PS X (.Return (some e) pos) (tRet te) := by
  intro pins s σ H D I h
  exact wpAny_Return_some (thn (he pins s σ H _ I h) fun v s1 ⟨x, H1, I1, r1, q1⟩ => ⟨x, σ, H1, I1, r1, q1⟩)
noncomputable def tIfS (c : TT) (t u : TS) : TS := fun D σ H => c σ H fun b H1 => if b = true then t D σ H1 else u D σ H1
theorem yf8 {c : Expr} {a b : List Stmt} {tc : TT} (hc : PT X c tc) (ha : PSs X a t) (hb : PSs X b u) : PS X (.If c a b pos) (tIfS tc t u) := by
  intro pins s σ H D I h
  refine wpAny_If (thn (hc pins s σ H _ I h) fun d s1 ⟨H1, I1, q1⟩ => ?_)
  cases d with
  | true => exact ha pins s1 σ H1 D I1 q1
  | false => exact hb pins s1 σ H1 D I1 q1
end

noncomputable abbrev TG := V → St → Hp → (St → Hp → Prop) → Prop
noncomputable abbrev TGs := List V → St → Hp → (St → Hp → Prop) → Prop
noncomputable def PG (X : Cx) (target : Expr) (t : TG) : Prop :=
  ∀ (pins : List (Addr × Obj)) (s : Shared) (σ : St) (H : Hp) (v : V) (u : Value) (Q : St → Hp → Prop), Inv X pins σ H s → RelV v u → t v σ H Q →
    wpAny (model X.prog X.w) X.A (assign target X.env u) (fun _ s' => ∃ σ' H', Inv X pins σ' H' s' ∧ Q σ' H') X.xe s
noncomputable def PGs (X : Cx) (ts : List Expr) (t : TGs) : Prop :=
  ∀ (pins : List (Addr × Obj)) (s : Shared) (σ : St) (H : Hp) (vs : List V) (us : List Value) (Q : St → Hp → Prop), Inv X pins σ H s → Vals vs us → t vs σ H Q →
    wpAny (model X.prog X.w) X.A (assignInOrder ((assignEach ts X.env).map (·.2)) us) (fun _ s' => ∃ σ' H', Inv X pins σ' H' s' ∧ Q σ' H') X.xe s
noncomputable abbrev TSet := V → V → V → Hp → (Hp → Prop) → Prop
noncomputable def PSet (X : Cx) (t : TSet) : Prop :=
  ∀ (pins : List (Addr × Obj)) (s : Shared) (σ : St) (H : Hp) (o i v : V) (ov iv u : Value) (Q : Hp → Prop), Inv X pins σ H s → RelV o ov → RelV i iv → RelV v u → t o i v H Q →
    wpAny (model X.prog X.w) X.A (setItem ov iv u) (fun _ s' => ∃ H', Inv X pins σ H' s' ∧ Q H') X.xe s
section
variable {X : Cx} {pos : Pos}
noncomputable def xn7 (i : Nat) : TG := fun v σ H Q => Q (σ.set i (some v)) H
theorem zm5 {i : Nat} {x : Str} (hN : X.N.Nodup) (hi : X.N[i]? = some x) (hx : Loc X.env.scope x) (hf : X.fn x = true ∨ X.env.scope.names.lookup x = some .local := by first | exact .inl rfl | exact .inr rfl | assumption) : PG X (.Name x pos) (xn7 i) := by
  intro pins s σ H v u Q I r h
  exact wpAny_assign_Name (zl1 I hN hi hx r (fun s' I' => ⟨_, H, I', h⟩) hf)
noncomputable def gNil : TGs := fun vs σ H Q => vs = [] ∧ Q σ H
noncomputable def zj8 (t : TG) (u : TGs) : TGs := fun vs σ H Q => ∃ v r, vs = v :: r ∧ t v σ H fun σ' H' => u r σ' H' Q
theorem ym5 : PGs X [] gNil := by
  intro pins s σ H vs us Q I r h
  obtain ⟨e, h⟩ := h
  subst e
  cases r
  exact assignInOrder_nil ⟨σ, H, I, h⟩
theorem wh4 {e : Expr} {es : List Expr} {t : TG} {u : TGs} (h1 : PG X e t) (h2 : PGs X es u)
    (hs : (assignEach (e :: es) X.env).map (·.2) = assign e X.env :: (assignEach es X.env).map (·.2) := by rfl) : PGs X (e :: es) (zj8 t u) := by
  intro pins s σ H vs us Q I r h
  obtain ⟨v, vr, e1, h⟩ := h
  subst e1
  cases r with
  | cons r rr =>
    rw [hs]
    refine assignInOrder_cons (thn (h1 pins s σ H _ _ _ I r h) fun _ s1 ⟨σ1, H1, I1, q1⟩ => ?_)
    exact h2 pins s1 σ1 H1 _ _ Q I1 rr q1
noncomputable def gTup (K : PySem.W.Frag) (n : Nat) (t : TGs) : TG := fun v σ H Q => ∃ a xs, v = .ref a ∧ SqT K H a xs ∧ xs.length = n ∧ t xs σ H Q
theorem ye7 {es : List Expr} {k : Nat} {t : TGs} {n : Nat} (hc : X.calm = true) (h : PGs X es t)
    (hn : (assignEach es X.env).length = n := by rfl) (hst : (assignEach es X.env).findIdx? (·.1) = none := by rfl) : PG X (.Tuple es k pos) (gTup X.K n t) := by
  intro pins s σ H v u Q I r hw
  obtain ⟨a, xs, e1, hq, hl, hw⟩ := hw
  subst e1
  cases r
  obtain ⟨its, rv, ht, hz⟩ := I.tuple hq
  refine assign_Tuple_tuple (I.ok.hd hc) ht (by simp [hn, ← hl, rv.length]) hst fun h' hx => ?_
  have I1 : Inv X pins σ H { s with heap := h' } := I.kept (t' := s.toks) fun b o e => hx b o (Nat.ne_of_lt (Heap.lt_size e)) e
  exact h pins _ σ H xs _ Q I1 (by simpa using rv) hw
noncomputable def gSub (to ti : TE) (t : TSet) : TG := fun v σ H Q => to σ H fun o H1 => ti σ H1 fun i H2 => t o i v H2 fun H3 => Q σ H3
theorem ze7 {o i : Expr} {to ti : TE} {t : TSet} (ho : PE X o to) (hi : PE X i ti) (hs : PSet X t)
    (ha : ∀ v, assign (.Subscript o i pos) X.env v = (do
      let ov ← holding [v] (eval o X.env)
      let iv ← holding [v, ov] (eval i X.env)
      standAt pos
      holding [v, ov, iv] (setItem ov iv v)
      release [v, ov, iv] []) := by intro _; rfl) : PG X (.Subscript o i pos) (gSub to ti t) := by
  intro pins s σ H v u Q I r h
  rw [ha]
  refine wpAny_bind (wpAny_holding (thn (ho pins s σ H _ I h) fun ov s1 ⟨x, H1, I1, r1, q1⟩ => ?_))
  refine wpAny_bind (wpAny_holding (thn (hi pins s1 σ H1 _ I1 q1) fun iv s2 ⟨y, H2, I2, r2, q2⟩ => ?_))
  refine wpAny_bind (wpAny_standAt (wpAny_bind (wpAny_holding (thn (hs pins s2 σ H2 x y v ov iv u _ I2 r1 r2 r q2) fun _ s3 ⟨H3, I3, q3⟩ => ?_))))
  exact wpAny_release ⟨σ, H3, I3, q3⟩
noncomputable def tAsg (te : TE) (g : TG) : TS := fun D σ H => te σ H fun x H1 => g x σ H1 D.nx
theorem wd7 {tg e : Expr} {te : TE} {g : TG} (he : PE X e te) (hg : PG X tg g) (hs : swapsWithSole [tg] e pos.line X.env = pure false := by rfl) (hw : swappedStores [tg] e X.env = pure none := by rfl)
    (h1 : (assignEach [tg] X.env).map (·.2) = [assign tg X.env] := by rfl) : PS X (.Assign [tg] e pos) (tAsg te g) := by
  intro pins s σ H D I h
  refine wpAny_Assign_stores (thn (he pins s σ H _ I h) fun v s1 ⟨x, H1, I1, r1, q1⟩ => ?_) hs hw
  rw [h1]
  exact thn (hg pins s1 σ H1 x v _ I1 r1 q1) fun _ s2 q => q
theorem xo3 {i : Nat} {x : Str} {e : Expr} {te : TE} {pos' : Pos} (hN : X.N.Nodup) (hi : X.N[i]? = some x) (hx : Loc X.env.scope x) (he : PE X e te) (hs : swapsWith e (some (.Name x pos')) pos.line X.env = pure false := by rfl) (hf : X.fn x = true ∨ X.env.scope.names.lookup x = some .local := by first | exact .inl rfl | exact .inr rfl | assumption) :
    PS X (.Assign [.Name x pos'] e pos) (tAsg te (xn7 i)) := by
  intro pins s σ H D I h
  refine wpAny_Assign_Name (thn (he pins s σ H _ I h) fun v s1 ⟨y, H1, I1, r1, q1⟩ => ?_) hs
  exact zl1 I1 hN hi hx r1 (fun s2 I2 => ⟨_, H1, I2, q1⟩) hf
end

section
variable {X : Cx} {pos : Pos}
end

structure It where
  go : Nat → Hp → Prop
  yld : Nat → Hp → V → Hp → Prop
  stop : Nat → Hp → Prop
noncomputable def FpOk (X : Cx) (pins : List (Addr × Obj)) (H : Hp) (b : Addr) : Prop :=
  H b = none ∧ b ≠ X.env.locals ∧ b ∉ X.fs ∧ (b ∈ X.ex ∨ X.s₀.heap.objs.size ≤ b) ∧ (∀ x c, X.env.cells.lookup x = some c → c ≠ b) ∧ ∀ p ∈ X.pn ++ pins, p.1 ≠ b
theorem Inv.fpOk {X : Cx} {pins : List (Addr × Obj)} {σ : St} {H H' : Hp} {s : Shared} {b : Addr} (I : Inv X pins σ H s) (hb : s.heap.objs.size ≤ b) (hn : H' b = none) : FpOk X pins H' b := by
  refine ⟨hn, Nat.ne_of_gt (Nat.lt_of_lt_of_le I.lt hb), I.nofs hb, .inr (Nat.le_trans I.sz hb), fun x c e z => ?_, fun p hp z => ?_⟩
  · obtain ⟨v, q⟩ := I.cell x c e
    exact absurd (Nat.lt_of_lt_of_le q.lt (by rw [z]; exact hb)) (Nat.lt_irrefl _)
  · exact absurd (Nat.lt_of_lt_of_le (Heap.lt_size (I.pin p hp).1) (by rw [z]; exact hb)) (Nat.lt_irrefl _)
structure Turn (P : Program) (w : World) (K : PySem.W.Frag) (tg : Expr) (J : It) (fp : List Addr) (it : Addr) (tn : Nat → Heap → Prop) : Prop where
  mem : it ∈ fp
  obj : ∀ i h, tn i h → ∀ b ∈ fp, ∃ o, h.get? b = some o ∧ ∀ v, o.data ≠ .cell v
  keep : ∀ i h h', tn i h → (∀ b ∈ fp, ∀ o, h.get? b = some o → h'.get? b = some o) → tn i h'
  item : ∀ (X : Cx), X.prog = P → X.w = w → X.K = K → X.calm = true → ∀ (i : Nat) (pins : List (Addr × Obj)) (s : Shared) (σ : St) (H : Hp) (E : Value → Shared → Prop), Inv X pins σ H s → (∀ b ∈ fp, FpOk X pins H b) → tn i s.heap → J.go i H →
    wpAny (model P w) X.A (pyNext (.ref it)) (fun r s1 => ∃ u, r = some u ∧
      wpAny (model P w) X.A (letOwnedTupleGo tg (.ref it) u) (fun _ s2 => ∃ x H', Inv X pins σ H' s2 ∧ RelV x u ∧ J.yld i H x H' ∧ tn (i + 1) s2.heap ∧ ∀ b ∈ fp, H' b = none) E s1) E s
  done : ∀ (X : Cx), X.prog = P → X.w = w → X.K = K → X.calm = true → ∀ (i : Nat) (pins : List (Addr × Obj)) (s : Shared) (σ : St) (H : Hp) (E : Value → Shared → Prop), Inv X pins σ H s → (∀ b ∈ fp, FpOk X pins H b) → tn i s.heap → J.stop i H →
    wpAny (model P w) X.A (pyNext (.ref it)) (fun r s1 => r = none ∧ Inv X pins σ H s1) E s
  self : ∀ (A : Around) (i : Nat) (s : Shared) (Q : Value → Shared → Prop) (E : Value → Shared → Prop), tn i s.heap → Q (.ref it) s → wpAny (model P w) A (pyIter (.ref it)) Q E s
noncomputable abbrev TI := St → Hp → (It → Hp → Prop) → Prop
noncomputable def PIE (X : Cx) (pins : List (Addr × Obj)) (σ : St) (tg : Expr) (R : It → Hp → Prop) (itv : Value) (s2 : Shared) : Prop :=
  ∃ (it : Addr) (fp : List Addr) (tn : Nat → Heap → Prop) (J : It) (H' : Hp), itv = .ref it ∧ Inv X pins σ H' s2 ∧ Turn X.prog X.w X.K tg J fp it tn ∧ tn 0 s2.heap ∧ (∀ b ∈ fp, FpOk X pins H' b) ∧ R J H'
noncomputable def PI (X : Cx) (tg iter : Expr) (wi : TI) : Prop :=
  ∀ (pins : List (Addr × Obj)) (s : Shared) (σ : St) (H : Hp) (R : It → Hp → Prop), Inv X pins σ H s → wi σ H R →
    wpAny (model X.prog X.w) X.A (eval iter X.env) (fun v s1 => wpAny (model X.prog X.w) X.A (pyIter v) (PIE X pins σ tg R) X.xe s1) X.xe s

theorem zn4 {M : Model} {A : Around} {E : Value → Shared → Prop} {s : Shared} {tg : Expr} {it : Addr} {u : Value} {o : Obj} {n : String} {vs : Array Value} {Q : Unit → Shared → Prop} (ho : s.heap.get? it = some o) (hc : o.cls = .type n) (hd : o.data = .fields vs)
    (hn : ["enumerate", "zip", "dict_itemiterator", "dict_reverseitemiterator", "odict_iterator", "itertools.zip_longest", "itertools.pairwise"].contains n = false) (hQ : Q () s) : wpAny M A (letOwnedTupleGo tg (.ref it) u) Q E s := by
  unfold letOwnedTupleGo
  cases tg <;> first
    | exact wpAny_pure hQ
    | (cases u <;> first
        | exact wpAny_pure hQ
        | (refine wpAny_bind (wpAny_load ho ?_)
           rw [hc, hd]
           show wpAny M A (if (["enumerate", "zip", "dict_itemiterator", "dict_reverseitemiterator", "odict_iterator", "itertools.zip_longest", "itertools.pairwise"].contains n && vs[0]? == some (rawInt _)) = true then _ else _) Q E s
           rw [if_neg (by intro h; rw [hn, Bool.false_and] at h; cases h)]
           exact wpAny_pure hQ))

noncomputable def Itl (K : PySem.W.Frag) (a : Addr) : It :=
  ⟨fun i H => ∃ xs x, SqL K H a xs ∧ xs[i]? = some x, fun i H x H' => H' = H ∧ ∀ xs, SqL K H a xs → xs[i]? = some x, fun i H => ∃ xs, SqL K H a xs ∧ xs.length ≤ i⟩
noncomputable def Itt (K : PySem.W.Frag) (a : Addr) : It :=
  ⟨fun i H => ∃ xs x, SqT K H a xs ∧ xs[i]? = some x, fun i H x H' => H' = H ∧ ∀ xs, SqT K H a xs → xs[i]? = some x, fun i H => ∃ xs, SqT K H a xs ∧ xs.length ≤ i⟩
noncomputable def Itr (lo : Int) (n : Nat) : It := ⟨fun i _ => i < n, fun i H x H' => H' = H ∧ x = .int (lo + i), fun i _ => n ≤ i⟩
theorem wf3 {P : Program} {w : World} {K : PySem.W.Frag} {tg : Expr} (a it : Addr) : Turn P w K tg (Itl K a) [it] it (fun i h => h.IsListIter it a i) where
  mem := by simp
  obj := fun i h st b hb => by
    have e : b = it := by simpa using hb
    subst e
    obtain ⟨o, e, c, d⟩ := st
    exact ⟨o, e, fun v z => by rw [d] at z; cases z⟩
  keep := fun i h h' st k => st.at fun o e => k it (by simp) o e
  item := by
    intro X hP hw hK hc i pins s σ H E I hf st hg
    subst hP hw hK
    obtain ⟨xs, x, hq, hx⟩ := hg
    obtain ⟨its, rv, p, hz⟩ := I.list hq
    obtain ⟨u, hu, ru⟩ := rv.get hx
    obtain ⟨f0, f1, f2, f3, f4, f5⟩ := hf it (by simp)
    refine wpAny_pyNext_list_item st p.isList (x := u) (by simpa using hu) fun h' st' sb => ?_
    have I1 : Inv X pins σ H { s with heap := h' } := I.turned (t' := s.toks) (fun b o hb e => (sb.2 b hb).trans e) f0 f1 f3 f4 f5
    obtain ⟨o, e, c, d⟩ := id st'
    exact ⟨u, rfl, zn4 (s := { s with heap := h' }) e c d (by decide) ⟨x, H, I1, ru, ⟨rfl, fun ys hy => by rw [I.list_inj hy hq]; exact hx⟩, st', fun b hb => (hf b hb).1⟩⟩
  done := by
    intro X hP hw hK hc i pins s σ H E I hf st hg
    subst hP hw hK
    obtain ⟨xs, hq, hx⟩ := hg
    obtain ⟨its, rv, p, hz⟩ := I.list hq
    obtain ⟨f0, f1, f2, f3, f4, f5⟩ := hf it (by simp)
    have hl := rv.length
    exact wpAny_pyNext_list_end (I.ok.hd hc) st p.isList (by simp; omega) fun h' eb => ⟨rfl, I.turned (t' := s.toks) (fun b o hb e => eb b o hb e) f0 f1 f3 f4 f5⟩
  self := fun _ _ _ _ _ st h => wpAny_pyIter_listiter st h
theorem xv2 {P : Program} {w : World} {K : PySem.W.Frag} {tg : Expr} (a it : Addr) : Turn P w K tg (Itt K a) [it] it (fun i h => h.IsTupleIter it a i) where
  mem := by simp
  obj := fun i h st b hb => by
    have e : b = it := by simpa using hb
    subst e
    obtain ⟨o, e, c, d⟩ := st
    exact ⟨o, e, fun v z => by rw [d] at z; cases z⟩
  keep := fun i h h' st k => st.at fun o e => k it (by simp) o e
  item := by
    intro X hP hw hK hc i pins s σ H E I hf st hg
    subst hP hw hK
    obtain ⟨xs, x, hq, hx⟩ := hg
    obtain ⟨its, rv, p, hz⟩ := I.tuple hq
    obtain ⟨u, hu, ru⟩ := rv.get hx
    obtain ⟨f0, f1, f2, f3, f4, f5⟩ := hf it (by simp)
    refine wpAny_pyNext_tuple_item st (show s.heap.IsTuple a its.toArray from p) (x := u) (by simpa using hu) fun h' st' sb => ?_
    have I1 : Inv X pins σ H { s with heap := h' } := I.turned (t' := s.toks) (fun b o hb e => (sb.2 b hb).trans e) f0 f1 f3 f4 f5
    obtain ⟨o, e, c, d⟩ := id st'
    exact ⟨u, rfl, zn4 (s := { s with heap := h' }) e c d (by decide) ⟨x, H, I1, ru, ⟨rfl, fun ys hy => by rw [I.tuple_inj hy hq]; exact hx⟩, st', fun b hb => (hf b hb).1⟩⟩
  done := by
    intro X hP hw hK hc i pins s σ H E I hf st hg
    subst hP hw hK
    obtain ⟨xs, hq, hx⟩ := hg
    obtain ⟨its, rv, p, hz⟩ := I.tuple hq
    obtain ⟨f0, f1, f2, f3, f4, f5⟩ := hf it (by simp)
    have hl := rv.length
    exact wpAny_pyNext_tuple_end (I.ok.hd hc) st (show s.heap.IsTuple a its.toArray from p) (by simp; omega) fun h' eb => ⟨rfl, I.turned (t' := s.toks) (fun b o hb e => eb b o hb e) f0 f1 f3 f4 f5⟩
  self := fun _ _ _ _ _ st h => wpAny_pyIter_tupleiter st h
theorem yv2 {P : Program} {w : World} {K : PySem.W.Frag} {tg : Expr} (it : Addr) (lo : Int) (n : Nat) : Turn P w K tg (Itr lo n) [it] it (fun i h => IsRangeIter h it (lo + (i : Nat) * 1) ((n : Int) - (i : Nat)) 1) where
  mem := by simp
  obj := fun i h st b hb => by
    have e : b = it := by simpa using hb
    subst e
    exact ⟨_, st, fun v z => by
      have z' : Data.fields _ = Data.cell v := z
      cases z'⟩
  keep := fun i h h' st k => k it (by simp) _ st
  item := by
    intro X hP hw hK hc i pins s σ H E I hf st hg
    subst hP hw hK
    obtain ⟨f0, f1, f2, f3, f4, f5⟩ := hf it (by simp)
    have W := Walks.range (prog := X.prog) (w := X.w) (I.ok.hd hc) it lo 1 n
    refine W.item i s _ _ hg st fun v h' tk hv st' kk => ?_
    obtain ⟨t, rfl⟩ := hv
    have I1 : Inv X pins σ H { s with heap := h', toks := tk } := I.turned (fun b o hb e => kk b o (by simpa using hb) e) f0 f1 f3 f4 f5
    refine ⟨_, rfl, zn4 (s := { s with heap := h', toks := tk }) (n := "range_iterator") st' rfl rfl (by decide) ⟨.int (lo + i), H, I1, ⟨t, ?_⟩, ⟨rfl, rfl⟩, st', fun b hb => (hf b hb).1⟩⟩
    rw [Int.mul_one]
  done := by
    intro X hP hw hK hc i pins s σ H E I hf st hg
    subst hP hw hK
    obtain ⟨f0, f1, f2, f3, f4, f5⟩ := hf it (by simp)
    exact wpAny_pyNext_range_end (I.ok.hd hc) st (by have : n ≤ i := hg; omega) fun h' eb => ⟨rfl, I.turned (t' := s.toks) (fun b o hb e => eb b o hb e) f0 f1 f3 f4 f5⟩
  self := fun _ _ _ _ _ st h => wpAny_pyIter_rangeiter st h
end L2

namespace L2
open PySem PySem.Spec PyProof.Rows
section
variable {X : Cx} {tg : Expr}
theorem xq2 {pins : List (Addr × Obj)} {σ : St} {H : Hp} {s : Shared} {R : It → Hp → Prop} {E : Value → Shared → Prop} {lo hi : Int} {t u v : Tok} {tk : Nat} (I : Inv X pins σ H s) (h1 : -(2 ^ 62) ≤ lo) (h2 : lo < 2 ^ 62) (h3 : -(2 ^ 62) ≤ hi) (h4 : hi < 2 ^ 62)
    (q : R (Itr lo (hi - lo).toNat) H) : wpAny (model X.prog X.w) X.A (pyIter (.ref s.heap.objs.size)) (PIE X pins σ tg R) E { s with heap := s.heap.push { cls := .type "range", data := .fields #[.int lo t, .int hi u, .int 1 v] }, toks := tk } := by
  refine wpAny_pyIter_range (IsRange.new ..) (small_one h1 h2 h3 h4) ?_
  have I1 : Inv X pins σ H { s with heap := s.heap.push { cls := .type "range", data := .fields #[.int lo t, .int hi u, .int 1 v] }, toks := tk } := I.kept fun b o e => Heap.get?_push_of_some _ e
  refine ⟨(s.heap.push { cls := .type "range", data := .fields #[.int lo t, .int hi u, .int 1 v] }).objs.size, [(s.heap.push { cls := .type "range", data := .fields #[.int lo t, .int hi u, .int 1 v] }).objs.size], _, _, H, rfl,
    I1.kept (t' := tk) fun b o e => Heap.get?_push_of_some _ e, yv2 _ lo (hi - lo).toNat, ?_, fun b hb => ?_, q⟩
  · have e1 : lo + ((0 : Nat) : Int) * 1 = lo := by simp
    have e2 : (((hi - lo).toNat : Nat) : Int) - ((0 : Nat) : Int) = Builtin.Range.rangeSize lo hi 1 := by rw [rangeSize_one]; split <;> omega
    show IsRangeIter _ _ (lo + ((0 : Nat) : Int) * 1) ((((hi - lo).toNat : Nat) : Int) - ((0 : Nat) : Int)) 1
    rw [e1, e2]
    exact Heap.get?_push_size _ rfl
  · have e : b = (s.heap.push { cls := .type "range", data := .fields #[.int lo t, .int hi u, .int 1 v] }).objs.size := by simpa using hb
    subst e
    exact I1.fpOk (Nat.le_refl _) (I1.hok.fresh (Nat.le_refl _))
noncomputable def yj8 (ta : TA) : TI := fun σ H R => ta σ H fun vs H1 => ∃ j : Int, vs = [.int j] ∧ -(2 ^ 62) ≤ j ∧ j < 2 ^ 62 ∧ R (Itr 0 j.toNat) H1
noncomputable def xj8 (ta : TA) : TI := fun σ H R => ta σ H fun vs H1 => ∃ i j : Int, vs = [.int i, .int j] ∧ (-(2 ^ 62) ≤ i ∧ i < 2 ^ 62 ∧ -(2 ^ 62) ≤ j ∧ j < 2 ^ 62) ∧ R (Itr i (j - i).toNat) H1
theorem yp3 {a : Expr} {ta : TA} {p pos : Pos} (hg : Gl X "range") (hm : X.mg "range" = none) (ha : PA X [a] ta) (hs : starEach [a] X.env = [(false, eval a X.env)] := by rfl) : PI X tg (.Call (.Name "range" p) [a] [] pos) (yj8 ta) := by
  intro pins s σ H R I h
  refine Call_ (zd1 I hg hm boot_range (PyProof.Rows.callWith_type1 (thn (ha pos pins s σ H _ I h) fun us s1 ⟨vs, H1, I1, r1, q1⟩ => ?_) hs rfl))
  obtain ⟨j, e, q1, q2, q⟩ := q1
  subst e
  cases r1 with
  | cons r rr =>
    cases rr
    obtain ⟨t, rfl⟩ := r
    exact call_range_1 (xq2 I1 (by omega) (by omega) q1 q2 (by simpa using q))
theorem xp3 {a b : Expr} {ta : TA} {p pos : Pos} (hg : Gl X "range") (hm : X.mg "range" = none) (ha : PA X [a, b] ta) (hs : starEach [a, b] X.env = [(false, eval a X.env), (false, eval b X.env)] := by rfl) (hs2 : starEach [b] X.env = [(false, eval b X.env)] := by rfl) :
    PI X tg (.Call (.Name "range" p) [a, b] [] pos) (xj8 ta) := by
  intro pins s σ H R I h
  refine Call_ (zd1 I hg hm boot_range (PyProof.Rows.callWith_type1 (thn (ha pos pins s σ H _ I h) fun us s1 ⟨vs, H1, I1, r1, q1⟩ => ?_) (by rw [hs, hs2]) (by rw [hs2]; rfl)))
  obtain ⟨i, j, e, ⟨q1, q2, q3, q4⟩, q⟩ := q1
  subst e
  cases r1 with
  | cons r rr =>
    cases rr with
    | cons r' rr =>
      cases rr
      obtain ⟨t, rfl⟩ := r
      obtain ⟨t', rfl⟩ := r'
      exact call_range_2 (xq2 I1 q1 q2 q3 q4 q)

noncomputable def tFor (wi : TI) (g : TG) (tb : TS) : TS := fun D σ H => wi σ H fun J H1 => ∃ W : Nat → Nat → St → Hp → Prop, (∃ m, W 0 m σ H1) ∧ ∀ i m σ H, W i m σ H →
  (J.stop i H ∧ D.nx σ H) ∨ (J.go i H ∧ ∃ N : St → Hp → Prop, (∀ σ' H', N σ' H' → ∃ m', m' < m ∧ W (i + 1) m' σ' H') ∧ ∀ x H', J.yld i H x H' → g x σ H' fun σ2 H2 => tb { D with nx := N, ct := N, bk := D.nx } σ2 H2)
noncomputable def yc1 (fp : List Addr) (h : Heap) : List (Addr × Obj) := fp.filterMap fun b => (h.get? b).map fun o => (b, o)
theorem zm0 {fp : List Addr} {h : Heap} {b : Addr} {o : Obj} (hb : b ∈ fp) (e : h.get? b = some o) : (b, o) ∈ yc1 fp h := List.mem_filterMap.mpr ⟨b, hb, by rw [e]; rfl⟩
theorem wq3 {fp : List Addr} {h : Heap} {p : Addr × Obj} (hp : p ∈ yc1 fp h) : p.1 ∈ fp ∧ h.get? p.1 = some p.2 := by
  obtain ⟨b, hb, e⟩ := List.mem_filterMap.mp hp
  cases q : h.get? b with
  | none => rw [q] at e; cases e
  | some o =>
    rw [q] at e
    have e' : (b, o) = p := Option.some.inj e
    subst e'
    exact ⟨hb, q⟩
theorem Inv.pinned {pins : List (Addr × Obj)} {σ : St} {H : Hp} {s : Shared} {fp : List Addr} (I : Inv X pins σ H s) (hf : ∀ b ∈ fp, FpOk X pins H b) (ho : ∀ b ∈ fp, ∃ o, s.heap.get? b = some o ∧ ∀ v, o.data ≠ .cell v) : Inv X (pins ++ yc1 fp s.heap) σ H s :=
  I.pins_of fun p hp => (List.mem_append.mp hp).elim (fun z => I.pin p (List.mem_append_right _ z)) fun z => by
    obtain ⟨hb, e⟩ := wq3 z
    obtain ⟨f0, f1, f2, _⟩ := hf p.1 hb
    obtain ⟨o, e', d⟩ := ho p.1 hb
    rw [e] at e'; cases e'
    exact ⟨e, f0, f1, f2, d⟩
theorem Inv.unpinned {pins pl : List (Addr × Obj)} {σ : St} {H : Hp} {s : Shared} (I : Inv X (pins ++ pl) σ H s) : Inv X pins σ H s := I.pins_of fun p hp => I.pin p (List.mem_append_right _ (List.mem_append_left _ hp))
theorem zd7 {iter : Expr} {body : List Stmt} {wi : TI} {g : TG} {tb : TS} {pos : Pos} (hp : PassesOwn (model X.prog X.w) X.A X.env X.xe) (hc : X.calm = true) (hi : PI X tg iter wi) (hg : PG X tg g) (hb : PSs X body tb)
    (hs : ∀ x, foldedSetIterable iter X.env x = pure x := by intro _; rfl) : PS X (.For tg iter body [] pos) (tFor wi g tb) := by
  intro pins s σ H D I h
  refine wpAny_For (thn (hi pins s σ H _ I h) fun v s1 h1 => thn h1 fun itv s2 h2 => ?_) hs
  obtain ⟨it, fp, tn, J, H2, e, I2, T, st2, f2, W, ⟨m0, w0⟩, turn⟩ := h2
  subst e
  -- what stays true of the iterator's objects through the loop
  have stat : ∀ {H' : Hp}, (∀ b ∈ fp, H' b = none) → ∀ b ∈ fp, FpOk X pins H' b := fun hn b hb => ⟨hn b hb, (f2 b hb).2⟩
  refine codeAny_forLoop_any (fun n s' => ∃ i σ' H', Inv X pins σ' H' s' ∧ tn i s'.heap ∧ (∀ b ∈ fp, H' b = none) ∧ W i n σ' H') ?_ m0 ⟨0, σ, H2, I2, st2, fun b hb => (f2 b hb).1, w0⟩
  rintro n s3 ⟨i, σ3, H3, I3, st3, fr3, w3⟩
  rcases turn i n σ3 H3 w3 with ⟨stop, qn⟩ | ⟨go, N, hN, step⟩
  · refine wpAny_passesOwn hp (thn (T.done X rfl rfl rfl hc i pins s3 σ3 H3 X.xe I3 (stat fr3) st3 stop) fun r s4 ⟨hr, I4⟩ => ?_)
    subst hr
    exact wpAny_execs_nil ⟨σ3, H3, I4, qn⟩
  · refine wpAny_passesOwn hp (thn (T.item X rfl rfl rfl hc i pins s3 σ3 H3 X.xe I3 (stat fr3) st3 go) fun r s4 ⟨u, hr, h4⟩ => ?_)
    subst hr
    refine wpAny_passesOwn hp (thn h4 fun _ s5 ⟨x, H5, I5, r5, y5, st5, fr5⟩ => ?_)
    have I5' := I5.pinned (stat fr5) (T.obj _ _ st5)
    refine wpAny_passesOwn hp (thn (hg _ s5 σ3 H5 x u _ I5' r5 (step x H5 y5)) fun _ s6 ⟨σ6, H6, I6, q6⟩ => ?_)
    refine wpAny_passesOwn hp (thn (hb _ s6 σ6 H6 _ I6 q6) fun f s7 q7 => ?_)
    have again : ∀ {σ7 : St} {H7 : Hp}, Inv X (pins ++ yc1 fp s5.heap) σ7 H7 s7 → N σ7 H7 → ∃ m, m < n ∧ ∃ i σ' H', Inv X pins σ' H' s7 ∧ tn i s7.heap ∧ (∀ b ∈ fp, H' b = none) ∧ W i m σ' H' := fun {σ7 H7} I7 n7 => by
      obtain ⟨m', hm, w7⟩ := hN σ7 H7 n7
      refine ⟨m', hm, i + 1, σ7, H7, I7.unpinned, T.keep _ _ _ st5 fun b hb o e => (I7.pin (b, o) (List.mem_append_right _ (List.mem_append_right _ (zm0 hb e)))).1, fun b hb => ?_, w7⟩
      obtain ⟨o, e, d⟩ := T.obj _ _ st5 b hb
      exact (I7.pin (b, o) (List.mem_append_right _ (List.mem_append_right _ (zm0 hb e)))).2.1
    cases f with
    | next => obtain ⟨σ7, H7, I7, n7⟩ := q7; exact again I7 n7
    | cont => obtain ⟨σ7, H7, I7, n7⟩ := q7; exact again I7 n7
    | brk => obtain ⟨σ7, H7, I7, q7⟩ := q7; exact ⟨σ7, H7, I7.unpinned, q7⟩
    | ret v => obtain ⟨x7, σ7, H7, I7, r7, q7⟩ := q7; exact ⟨x7, σ7, H7, I7.unpinned, r7, q7⟩
end

end L2

namespace L2
open PySem PySem.Spec PyProof.Rows

noncomputable abbrev R2 := V → V → Hp → VK → Prop
noncomputable def OpR (X : Cx) (f : Value → Value → Sem Value) (r : R2) : Prop :=
  ∀ (pins : List (Addr × Obj)) (s : Shared) (σ : St) (H : Hp) (x y : V) (v u : Value) (Q : VK), Inv X pins σ H s → RelV x v → RelV y u → r x y H Q →
    wpAny (model X.prog X.w) X.A (f v u) (EP X pins σ Q) X.xe s
noncomputable def UnR (X : Cx) (f : Value → Sem Value) (r : V → Hp → VK → Prop) : Prop :=
  ∀ (pins : List (Addr × Obj)) (s : Shared) (σ : St) (H : Hp) (x : V) (v : Value) (Q : VK), Inv X pins σ H s → RelV x v → r x H Q →
    wpAny (model X.prog X.w) X.A (f v) (EP X pins σ Q) X.xe s
noncomputable def CallR (X : Cx) (f : Value) (r : List V → Hp → VK → Prop) : Prop :=
  ∀ (pins : List (Addr × Obj)) (s : Shared) (σ : St) (H : Hp) (xs : List V) (us : List Value) (Q : VK), Inv X pins σ H s → Vals xs us → r xs H Q →
    wpAny (model X.prog X.w) X.A (call f us) (EP X pins σ Q) X.xe s
noncomputable def tOp (r : R2) (ta tb : TE) : TE := fun σ H Q => ta σ H fun x H1 => tb σ H1 fun y H2 => r x y H2 Q
noncomputable def tUn (r : V → Hp → VK → Prop) (ta : TE) : TE := fun σ H Q => ta σ H fun x H1 => r x H1 Q
noncomputable def rI (C : Int → Int → Prop) (g : Int → Int → V) : R2 := fun x y H Q => ∃ i j, x = .int i ∧ y = .int j ∧ C i j ∧ Q (g i j) H
noncomputable def rI0 (g : Int → Int → V) : R2 := fun x y H Q => ∃ i j, x = .int i ∧ y = .int j ∧ Q (g i j) H
noncomputable def rU (g : Int → V) : V → Hp → VK → Prop := fun x H Q => ∃ i, x = .int i ∧ Q (g i) H

section
variable {X : Cx} {a b c : Expr} {ta tb tc : TE} {pos : Pos}

theorem binT (ha : PE X a ta) (hb : PE X b tb) {pins : List (Addr × Obj)} {s : Shared} {σ : St} {H : Hp} {R : V → V → Hp → Prop} (I : Inv X pins σ H s)
    (h : ta σ H fun x H1 => tb σ H1 fun y H2 => R x y H2) {Q : Value → Shared → Prop} {f : Value → Value → Sem Value}
    (hf : ∀ v u s2 x y H2, Inv X pins σ H2 s2 → RelV x v → RelV y u → R x y H2 → wpAny (model X.prog X.w) X.A (f v u) Q X.xe s2) :
    wpAny (model X.prog X.w) X.A (eval a X.env) (fun v s₁ => wpAny (model X.prog X.w) X.A (eval b X.env) (fun u s₂ => wpAny (model X.prog X.w) X.A (f v u) Q X.xe s₂) X.xe s₁) X.xe s := by
  refine thn (ha pins s σ H _ I h) fun v s1 ⟨x, H1, I1, r1, q1⟩ => ?_
  refine thn (hb pins s1 σ H1 _ I1 q1) fun u s2 ⟨y, H2, I2, r2, q2⟩ => ?_
  exact hf v u s2 x y H2 I2 r1 r2 q2

theorem wf8 {op : Operator} {r : R2} (ho : OpR X (binaryOp op) r) (ha : PE X a ta) (hb : PE X b tb) : PE X (.BinOp a op b pos) (tOp r ta tb) := by
  intro pins s σ H Q I h
  exact wpAny_BinOp (binT ha hb I h fun v u s2 x y H2 I2 rx ry q => ho pins s2 σ H2 x y v u Q I2 rx ry q)
theorem zf8 {op : UnaryOp} {r : V → Hp → VK → Prop} (ho : UnR X (unaryOp op) r) (ha : PE X a ta) : PE X (.UnaryOp op a pos) (tUn r ta) := by
  intro pins s σ H Q I h
  exact UnaryOp_ (thn (ha pins s σ H _ I h) fun v s1 ⟨x, H1, I1, r1, q1⟩ => ho pins s1 σ H1 x v Q I1 r1 q1)
theorem opI {f : Value → Value → Sem Value} {C : Int → Int → Prop} {g : Int → Int → Int}
    (rule : ∀ (i j : Int) (t u : Tok) (s : Shared) (Q : Value → Shared → Prop) (E : Value → Shared → Prop), C i j → Q (.int (g i j) s.toks) { s with toks := s.toks + 1 } → wpAny (model X.prog X.w) X.A (f (.int i t) (.int j u)) Q E s) :
    OpR X f (rI C fun i j => .int (g i j)) := by
  intro pins s σ H x y v u Q I rx ry h
  obtain ⟨i, j, rfl, rfl, hc, q⟩ := h
  obtain ⟨t, rfl⟩ := rx
  obtain ⟨t', rfl⟩ := ry
  exact rule i j t t' s _ _ hc ⟨.int (g i j), H, I.tok _, ⟨_, rfl⟩, q⟩
theorem opI0 {f : Value → Value → Sem Value} {g : Int → Int → Int}
    (rule : ∀ (i j : Int) (t u : Tok) (s : Shared) (Q : Value → Shared → Prop) (E : Value → Shared → Prop), Q (.int (g i j) s.toks) { s with toks := s.toks + 1 } → wpAny (model X.prog X.w) X.A (f (.int i t) (.int j u)) Q E s) :
    OpR X f (rI0 fun i j => .int (g i j)) := by
  intro pins s σ H x y v u Q I rx ry h
  obtain ⟨i, j, rfl, rfl, q⟩ := h
  obtain ⟨t, rfl⟩ := rx
  obtain ⟨t', rfl⟩ := ry
  exact rule i j t t' s _ _ ⟨.int (g i j), H, I.tok _, ⟨_, rfl⟩, q⟩
theorem opB0 {f : Value → Value → Sem Value} {g : Int → Int → Bool}
    (rule : ∀ (i j : Int) (t u : Tok) (s : Shared) (Q : Value → Shared → Prop) (E : Value → Shared → Prop), Q (.bool (g i j)) s → wpAny (model X.prog X.w) X.A (f (.int i t) (.int j u)) Q E s) :
    OpR X f (rI0 fun i j => .bl (g i j)) := by
  intro pins s σ H x y v u Q I rx ry h
  obtain ⟨i, j, rfl, rfl, q⟩ := h
  obtain ⟨t, rfl⟩ := rx
  obtain ⟨t', rfl⟩ := ry
  exact rule i j t t' s _ _ ⟨.bl (g i j), H, I, rfl, q⟩

noncomputable def CPow (i j : Int) : Prop := 0 ≤ j ∧ j ≤ 1000000 ∧ i.natAbs < 2 ^ 64
noncomputable def CMul (i j : Int) : Prop := (-(2 ^ 64) < i ∧ i < 2 ^ 64) ∨ (-(2 ^ 64) < j ∧ j < 2 ^ 64)
theorem CMul.ok {i j : Int} (h : CMul i j) : IntMulOk i j := by
  rcases h with ⟨h1, h2⟩ | ⟨h1, h2⟩
  · exact .of_left (intBits_le_64 h1 h2)
  · exact .of_right (intBits_le_64 h1 h2)
theorem op_add : OpR X (binaryOp .Add) (rI0 fun i j => .int (i + j)) := opI0 fun _ _ _ _ _ _ _ q => add_int q
theorem yg7 : OpR X (binaryOp .Sub) (rI0 fun i j => .int (i - j)) := opI0 fun _ _ _ _ _ _ _ q => sub_int q
theorem yh7 : OpR X (binaryOp .Mod) (rI (fun _ j => 0 < j) fun i j => .int (i % j)) := opI fun i j _ _ _ _ _ hc q => by
  have h1 : (0 : Int) < j := hc
  exact mod_int' (by omega) (by rw [Int.fmod_eq_emod_of_nonneg i (by omega)]; exact q)
theorem wg7 : OpR X (binaryOp .Pow) (rI CPow fun i j => .int (i ^ j.toNat)) := opI fun _ _ _ _ _ _ _ hc q => pow_int_small hc.1 hc.2.1 hc.2.2 q
theorem unI {f : Value → Sem Value} {g : Int → Int}
    (rule : ∀ (i : Int) (t : Tok) (s : Shared) (Q : Value → Shared → Prop) (E : Value → Shared → Prop), Q (.int (g i) s.toks) { s with toks := s.toks + 1 } → wpAny (model X.prog X.w) X.A (f (.int i t)) Q E s) :
    UnR X f (rU fun i => .int (g i)) := by
  intro pins s σ H x v Q I rx h
  obtain ⟨i, rfl, q⟩ := h
  obtain ⟨t, rfl⟩ := rx
  exact rule i t s _ _ ⟨.int (g i), H, I.tok _, ⟨_, rfl⟩, q⟩
theorem yc6 : UnR X (unaryOp .USub) (rU fun i => .int (-i)) := unI fun _ _ _ _ _ q => neg_int q
end

noncomputable def scal : V → V → Bool
  | .non, .non => true | .non, .int _ => true | .int _, .non => true | .non, .bl _ => true | .bl _, .non => true | .non, .str _ => true | .str _, .non => true
  | .int _, .int _ => true | .bl _, .bl _ => true | .str _, .str _ => true | .byt _, .byt _ => true
  | .int _, .str _ => true | .str _, .int _ => true | .bl _, .str _ => true | .str _, .bl _ => true
  | _, _ => false
noncomputable def rEq : R2 := fun x y H Q => scal x y = true ∧ Q (.bl (decide (x = y))) H
noncomputable def rNe : R2 := fun x y H Q => scal x y = true ∧ Q (.bl (!decide (x = y))) H

theorem yx3 {i j : Int} : decide (V.int i = V.int j) = (i == j) := by
  rw [Bool.eq_iff_iff]
  simp
theorem yb5 {i j : Bool} : decide (V.bl i = V.bl j) = (i == j) := by
  rw [Bool.eq_iff_iff]
  simp
theorem xx3 {i j : Str} : decide (V.str i = V.str j) = (i == j) := by
  rw [Bool.eq_iff_iff]
  simp
theorem zx3 {i j : Array UInt8} : decide (V.byt i = V.byt j) = (i.toList == j.toList) := by
  rw [Bool.eq_iff_iff]
  cases i
  cases j
  simp

section
variable {X : Cx} {a b c : Expr} {ta tb tc : TE} {pos : Pos}
theorem ye0 {pins : List (Addr × Obj)} {σ : St} {H : Hp} {s : Shared} {Q : VK} {k k' : Bool} (I : Inv X pins σ H s) (q : Q (.bl k) H) (e : k = k') : EP X pins σ Q (.bool k') s := by
  subst e
  exact ⟨.bl k, H, I, rfl, q⟩
theorem op_eq : OpR X (compareOp .Eq) rEq := by
  intro pins s σ H x y v u Q I rx ry h
  obtain ⟨hs, q⟩ := h
  cases x with
  | non =>
    cases rx
    cases y with
    | non => cases ry; exact PySem.EqNone.eq_none_none (ye0 I q (by simp))
    | bl j => cases ry; exact PySem.EqNone.eq_none_bool (ye0 I q (by simp))
    | int j => obtain ⟨t', rfl⟩ := ry; exact PySem.EqNone.eq_none_int (ye0 I q (by simp))
    | str j => obtain ⟨t', rfl⟩ := ry; exact PySem.EqNone.eq_none_str (ye0 I q (by simp))
    | _ => exact absurd (show false = true from hs) Bool.false_ne_true
  | bl i =>
    cases rx
    cases y with
    | non => cases ry; exact PySem.EqNone.eq_bool_none (ye0 I q (by simp))
    | bl j => cases ry; exact eq_bool (ye0 I q yb5)
    | str j => obtain ⟨t', rfl⟩ := ry; exact PySem.EqMixed.eq_bool_str (ye0 I q (by simp))
    | _ => exact absurd (show false = true from hs) Bool.false_ne_true
  | int i =>
    obtain ⟨t, rfl⟩ := rx
    cases y with
    | non => cases ry; exact PySem.EqNone.eq_int_none (ye0 I q (by simp))
    | int j => obtain ⟨t', rfl⟩ := ry; exact eq_int (ye0 I q yx3)
    | str j => obtain ⟨t', rfl⟩ := ry; exact PySem.EqMixed.eq_int_str (ye0 I q (by simp))
    | _ => exact absurd (show false = true from hs) Bool.false_ne_true
  | str i =>
    obtain ⟨t, rfl⟩ := rx
    cases y with
    | non => cases ry; exact PySem.EqNone.eq_str_none (ye0 I q (by simp))
    | bl j => cases ry; exact PySem.EqMixed.eq_str_bool (ye0 I q (by simp))
    | int j => obtain ⟨t', rfl⟩ := ry; exact PySem.EqMixed.eq_str_int (ye0 I q (by simp))
    | str j => obtain ⟨t', rfl⟩ := ry; exact eq_str (ye0 I q xx3)
    | _ => exact absurd (show false = true from hs) Bool.false_ne_true
  | byt i =>
    obtain ⟨t, rfl⟩ := rx
    cases y with
    | byt j => obtain ⟨t', rfl⟩ := ry; exact PySem.W.eq_bytes (ye0 I q zx3)
    | _ => exact absurd (show false = true from hs) Bool.false_ne_true
  | _ => cases y <;> exact absurd (show false = true from hs) Bool.false_ne_true
theorem op_ne : OpR X (compareOp .NotEq) rNe := by
  intro pins s σ H x y v u Q I rx ry h
  obtain ⟨hs, q⟩ := h
  cases x with
  | non =>
    cases rx
    cases y with
    | non => cases ry; exact PySem.EqNone.ne_none_none (ye0 I q (by simp))
    | bl j => cases ry; exact PySem.EqNone.ne_none_bool (ye0 I q (by simp))
    | int j => obtain ⟨t', rfl⟩ := ry; exact PySem.EqNone.ne_none_int (ye0 I q (by simp))
    | str j => obtain ⟨t', rfl⟩ := ry; exact PySem.EqNone.ne_none_str (ye0 I q (by simp))
    | _ => exact absurd (show false = true from hs) Bool.false_ne_true
  | bl i =>
    cases rx
    cases y with
    | non => cases ry; exact PySem.EqNone.ne_bool_none (ye0 I q (by simp))
    | bl j => cases ry; exact ne_bool (ye0 I q (congrArg not yb5))
    | str j => obtain ⟨t', rfl⟩ := ry; exact PySem.EqMixed.ne_bool_str (ye0 I q (by simp))
    | _ => exact absurd (show false = true from hs) Bool.false_ne_true
  | int i =>
    obtain ⟨t, rfl⟩ := rx
    cases y with
    | non => cases ry; exact PySem.EqNone.ne_int_none (ye0 I q (by simp))
    | int j => obtain ⟨t', rfl⟩ := ry; exact ne_int (ye0 I q (congrArg not yx3))
    | str j => obtain ⟨t', rfl⟩ := ry; exact PySem.EqMixed.ne_int_str (ye0 I q (by simp))
    | _ => exact absurd (show false = true from hs) Bool.false_ne_true
  | str i =>
    obtain ⟨t, rfl⟩ := rx
    cases y with
    | non => cases ry; exact PySem.EqNone.ne_str_none (ye0 I q (by simp))
    | bl j => cases ry; exact PySem.EqMixed.ne_str_bool (ye0 I q (by simp))
    | int j => obtain ⟨t', rfl⟩ := ry; exact PySem.EqMixed.ne_str_int (ye0 I q (by simp))
    | str j => obtain ⟨t', rfl⟩ := ry; exact ne_str (ye0 I q (congrArg not xx3))
    | _ => exact absurd (show false = true from hs) Bool.false_ne_true
  | byt i =>
    obtain ⟨t, rfl⟩ := rx
    cases y with
    | byt j => obtain ⟨t', rfl⟩ := ry; exact PySem.W.ne_bytes (ye0 I q (congrArg not zx3))
    | _ => exact absurd (show false = true from hs) Bool.false_ne_true
  | _ => cases y <;> exact absurd (show false = true from hs) Bool.false_ne_true

theorem yh8 : OpR X (compareOp .Lt) (rI0 fun i j => .bl (decide (i < j))) := opB0 fun _ _ _ _ _ _ _ q => lt_int q
theorem zh8 : OpR X (compareOp .Gt) (rI0 fun i j => .bl (decide (j < i))) := opB0 fun _ _ _ _ _ _ _ q => gt_int q
theorem op_ge : OpR X (compareOp .GtE) (rI0 fun i j => .bl (decide (j ≤ i))) := opB0 fun _ _ _ _ _ _ _ q => ge_int q
theorem zo5 : OpR X (compareOp .IsNot) (fun x y H Q => y = .non ∧ Q (.bl (!decide (x = .non))) H) := by
  intro pins s σ H x y v u Q I rx ry h
  obtain ⟨rfl, q⟩ := h
  cases ry
  refine isnot_none_gen (ye0 I q ?_)
  cases x <;> first
    | (cases rx; rfl)
    | (obtain ⟨t, rfl⟩ := rx; rfl)

theorem OpR.or {f : Value → Value → Sem Value} {r r' : R2} (h : OpR X f r) (h' : OpR X f r') : OpR X f (fun x y H Q => r x y H Q ∨ r' x y H Q) := by
  intro pins s σ H x y v u Q I rx ry q
  rcases q with q | q
  · exact h pins s σ H x y v u Q I rx ry q
  · exact h' pins s σ H x y v u Q I rx ry q

theorem yw4 (b : Expr) {op : CmpOp} (h : op ≠ .In := by decide) (h2 : op ≠ .NotIn := by decide) : behindInMarks op b = false := by
  have e1 : (op == CmpOp.In) = false := by cases op <;> first | rfl | exact absurd rfl h
  have e2 : (op == CmpOp.NotIn) = false := by cases op <;> first | rfl | exact absurd rfl h2
  cases b <;> simp [behindInMarks, e1, e2]
theorem zn5 {op : CmpOp} {r : R2} (ho : OpR X (compareOp op) r) (ha : PE X a ta) (hb : PE X b tb) (hm : behindInMarks op b = false) : PE X (.Compare a [op] [b] pos) (tOp r ta tb) := by
  intro pins s σ H Q I h
  exact wpAny_Compare1 (binT ha hb I h fun v u s2 x y H2 I2 rx ry q => ho pins s2 σ H2 x y v u Q I2 rx ry q) hm
noncomputable def xi6 (t : TE) : TT := fun σ H Q => t σ H fun x H' => ∃ k, x = .bl k ∧ Q k H'
theorem yk5 {op : CmpOp} {r : R2} (ho : OpR X (compareOp op) r) (ha : PE X a ta) (hb : PE X b tb) (hm : behindInMarks op b = false) : PT X (.Compare a [op] [b] pos) (xi6 (tOp r ta tb)) := by
  intro pins s σ H Q I h
  refine wpAny_isTrue_Compare1 (thn (ha pins s σ H _ I h) fun v s1 ⟨x, H1, I1, r1, q1⟩ => thn (hb pins s1 σ H1 _ I1 q1) fun u s2 ⟨y, H2, I2, r2, q2⟩ =>
    thn (ho pins s2 σ H2 x y v u _ I2 r1 r2 q2) fun c s3 ⟨z, H3, I3, r3, k, e, q3⟩ => ?_) hm
  subst e
  cases r3
  exact wpAny_truthy_bool ⟨H3, I3, q3⟩
theorem zy1 : (sizeLine : Nat) < 2 ^ 63 := by rw [sizeLine_eq]; decide
theorem yc3 : OpR X (binaryOp .Add) (fun x y H Q => ∃ i j, x = .str i ∧ y = .str j ∧ i.length + j.length ≤ sizeLine ∧ Q (.str (i ++ j)) H) := by
  intro pins s σ H x y v u Q I rx ry h
  obtain ⟨i, j, rfl, rfl, hz, q⟩ := h
  obtain ⟨t, rfl⟩ := rx
  obtain ⟨t', rfl⟩ := ry
  exact add_str (fun t' tk => ⟨.str (i ++ j), H, I.tok _, ⟨_, rfl⟩, q⟩) hz
theorem zf3 {x : V} {us : List Value} (r : Vals [x] us) : ∃ u, us = [u] ∧ RelV x u := by
  cases r with
  | cons r1 r2 => cases r2; exact ⟨_, rfl, r1⟩
theorem wc4 {x y : V} {us : List Value} (r : Vals [x, y] us) : ∃ u w', us = [u, w'] ∧ RelV x u ∧ RelV y w' := by
  cases r with
  | cons r1 r2 =>
    cases r2 with
    | cons r3 r4 => cases r4; exact ⟨_, _, rfl, r1, r3⟩
end
end L2

namespace L2
open PySem PySem.Spec PyProof.Rows

structure ObjM (h : Heap) (x dx C : Addr) (mA : Str → Option Value) : Prop where
  obj : h.get? x = some (PySem.W.instObj C dx)
  ns : h.Ns1 dx mA
  ne : dx ≠ x

section
variable {prog : Program} {w : World} {A : Around} {E : Value → Shared → Prop} {s : Shared} {K : PySem.W.Frag} {x dx C f : Addr} {mA : Str → Option Value} {name : Str} {v : Value}

end

section
variable {P : Program} {w : World} {H H' : Hp} {h h' : Heap} {a C dx : Addr} {fs fs' : List (Str × V)}
end

structure Cls (K : PySem.W.Frag) (C : Addr) : Prop where
  pg : PySem.W.plainGet K C Str.empty = true
  hd : PySem.W.hasDictIn K C = true
  po : PySem.W.plainOver K C = true
  sa : PySem.W.findIn K (.ref C) "__setattr__" = some (some (.builtin "object.__setattr__"))
structure Con (K : PySem.W.Frag) (C : Addr) (f : Str) (v : V) (u : Value) : Prop where
  at_ : PySem.W.findIn K (.ref C) f = some (some u)
  rel : RelV v u
  get : PySem.W.specialIn K u "__get__" = some none
  cp : PySem.W.copiedNames.contains f = false
structure Meth (K : PySem.W.Frag) (C : Addr) (m : Str) (f : Addr) : Prop where
  at_ : PySem.W.findIn K (.ref C) m = some (some (.ref f))
  fn : PySem.W.isFn K (.ref f) = true
  kp : PySem.W.keepIn K (.ref f) = true

section
variable {X : Cx} {pins : List (Addr × Obj)} {σ : St} {H : Hp} {s : Shared} {a C dx : Addr} {fs : List (Str × V)} {f : Str} {v : V} {A : Around} {E : Value → Shared → Prop}

end

section
variable {X : Cx} {o e value : Expr} {f : Str} {pos pos' tpos : Pos} {ta tv : TE}
end

section
variable {X : Cx} {pins : List (Addr × Obj)} {σ : St} {H : Hp} {s : Shared} {A : Around} {E : Value → Shared → Prop} {Q : Value → Shared → Prop} {c : Value} {b : Bool}
inductive TyOf (K : PySem.W.Frag) (H : Hp) : V → Value → Prop where
  | non : TyOf K H .non (.type "NoneType")
  | bl (x : Bool) : TyOf K H (.bl x) (.type "bool")
  | int (i : Int) : TyOf K H (.int i) (.type "int")
  | str (x : Str) : TyOf K H (.str x) (.type "str")
  | flt (x : UInt64) : TyOf K H (.flt x) (.type "float")
  | lst {a : Addr} {xs : List V} (e : H a = some (.lst xs)) : TyOf K H (.ref a) (.type "list")
  | frz {a : Addr} {o : Obj} {xs : List V} (e : H a = some (.frz o (.lst xs))) : TyOf K H (.ref a) (.type "list")
  | tup {a : Addr} {xs : List V} (e : H a = some (.tup xs)) : TyOf K H (.ref a) (.type "tuple")
  | dK {a : Addr} {kvs : List (Key × V)} (e : H a = some (.dK kvs)) : TyOf K H (.ref a) (.type "dict")
  | dT {a : Addr} {kvs : List (List Key × V)} (e : H a = some (.dT kvs)) : TyOf K H (.ref a) (.type "dict")
  | ins {a C dx : Addr} {fs : List (Str × V)} (e : H a = some (.ins C dx fs)) (cl : Cls K C) (ha : PySem.W.findIn K (.ref C) "__class__" = some (some (.builtin "object.__class__")))
      (hn : PySem.W.specialIn K (.builtin "object.__class__") "__get__" = some (some (.builtin "getset_descriptor.__get__"))) (htk : PySem.W.takesIn K (.builtin "object.__class__") = some true)
      (hm : PySem.W.mroIn K C (.type "object") = some true) : TyOf K H (.ref a) (.ref C)
end
end L2

namespace L2
open PySem PySem.Spec PyProof.Rows

structure Room (k : Nat) (A : Around) : Prop where
  hd : A.handled = none
  dp : A.depth + 3 * k + 5 < recursionLimit
  un : A.units + 16 * k + 200 < cLine
theorem Room.mono {j k : Nat} {A : Around} (r : Room k A) (h : j ≤ k) : Room j A := ⟨r.hd, by have := r.dp; omega, by have := r.un; omega⟩
theorem Room.deeper {k : Nat} {A : Around} (r : Room (k + 1) A) (env : Env) : Room k (A.deeper env) :=
  ⟨r.hd, by have := r.dp; show A.depth + 1 + 3 * k + 5 < _; omega, by have := r.un; show A.units + 3 + 16 * k + 200 < _; omega⟩
theorem Room.depth {k : Nat} {A : Around} (r : Room k A) : A.depth < recursionLimit := by have := r.dp; omega
noncomputable def tNil : TA := fun _ H Q => Q [] H
noncomputable def wu7 (ta : TE) (tr : TA) : TA := fun σ H Q => ta σ H fun x H1 => tr σ H1 fun xs H2 => Q (x :: xs) H2
section
variable {X : Cx} {e : Expr} {es : List Expr} {te : TE} {t : TA} {pos : Pos}
theorem xw4 : PA X [] tNil := fun _ _ _ _ H Q I h => Calls.spliced_nil ⟨[], H, I, .nil, h⟩
theorem zh2 (ha : PE X e te) (hr : PA X es t) (hs : starEach (e :: es) X.env = (false, eval e X.env) :: starEach es X.env := by rfl) : PA X (e :: es) (wu7 te t) := by
  intro pos pins s σ H Q I h
  rw [hs]
  show wpAny _ _ (spliced ((false, eval e X.env) :: backTo pos (starEach es X.env))) _ _ s
  refine Calls.spliced_cons (thn (ha pins s σ H _ I h) fun u s1 ⟨x, H1, I1, r1, q1⟩ => ?_)
  exact thn (hr pos pins s1 σ H1 _ I1 q1) fun us s2 ⟨xs, H2, I2, r2, q2⟩ => ⟨x :: xs, H2, I2, .cons r1 r2, q2⟩

noncomputable def tTup (t : TA) : TE := fun σ H Q => t σ H fun xs H1 => xs.length ≤ sizeLine ∧ ∀ p, H1 p = none → Q (.ref p) (upd H1 p (.tup xs))
noncomputable def tLst (t : TA) : TE := fun σ H Q => t σ H fun xs H1 => xs.length ≤ sizeLine ∧ ∀ p, H1 p = none → Q (.ref p) (upd H1 p (.lst xs))
theorem wv4 {x1} (h : PA X es t) : PE X (.Tuple es x1 pos) (tTup t) := by
  intro pins s σ H Q I hq
  refine wpAny_Tuple_spliced (thn (h pos pins s σ H _ I hq) fun us s1 ⟨xs, H1, I1, r, z, q⟩ => ⟨by rw [← r.length]; exact z, ?_⟩)
  have hf : H1 s1.heap.objs.size = none := I1.hok.fresh (Nat.le_refl _)
  refine ⟨.ref s1.heap.objs.size, upd H1 s1.heap.objs.size (.tup xs), I1.laid (t' := s1.toks) (fun b u e => Heap.get?_push_of_some _ e) (Nat.le_refl _) ?_, rfl, q _ hf⟩
  exact ⟨z, us, r, ⟨_, Heap.get?_push_size _ rfl, rfl, _, rfl⟩⟩
theorem yf7 (h : PA X es t) : PE X (.List es pos) (tLst t) := by
  intro pins s σ H Q I hq
  refine wpAny_List_spliced (thn (h pos pins s σ H _ I hq) fun us s1 ⟨xs, H1, I1, r, z, q⟩ => ⟨by rw [← r.length]; exact z, ?_⟩)
  have hf : H1 s1.heap.objs.size = none := I1.hok.fresh (Nat.le_refl _)
  refine ⟨.ref s1.heap.objs.size, upd H1 s1.heap.objs.size (.lst xs), I1.laid (t' := s1.toks) (fun b u e => Heap.get?_push_of_some _ e) (Nat.le_refl _) ?_, rfl, q _ hf⟩
  exact ⟨z, us, 0, r, Heap.get?_push_size _ rfl⟩
end

noncomputable abbrev Sp := List V → Hp → VK → XK → Prop
noncomputable abbrev CXT := List Env → Hp → Shared → XK → Value → Shared → Prop

structure Env0 (P : Program) (w : World) (K : PySem.W.Frag) (mg : Str → Option Value) (base : Heap) (A : Around) (outer : List Env) (s : Shared) (H : Hp) : Prop where
  frames : A.frames = some outer
  mod : Mod K mg base
  bs : ∀ b o, base.get? b = some o → s.heap.get? b = some o ∧ H b = none
  bsz : base.objs.size ≤ s.heap.objs.size
  funs : s.heap.FunFrames base outer
  frf : ∀ b ∈ frs outer, H b = none
  hok : HOk P w H s.heap
  bare : AllBare s.gens
noncomputable def CE (outer : List Env) (P : Program) (w : World) (H : Hp) (s : Shared) (Q : VK) (u : Value) (s' : Shared) : Prop :=
  ∃ v H', s'.os = s.os ∧ AllBare s'.gens ∧ Un (frs outer) [] H H' s.heap s'.heap ∧ HOk P w H' s'.heap ∧ RelV v u ∧ Q v H'
noncomputable def CR (CX : CXT) (outer : List Env) (P : Program) (w : World) (H : Hp) (s : Shared) (Q : VK) (E : XK) (r : Result) (s' : Shared) : Prop :=
  match r with
  | .ok (.ret u) => CE outer P w H s Q u s'
  | .ok _ => False
  | .error e => CX outer H s E e s'
structure FnOk (P : Program) (w : World) (K : PySem.W.Frag) (mg : Str → Option Value) (base : Heap) (CX : CXT) (k : Nat) (f : Addr) (fd : FuncData) (ps : List Str) (sp : Sp) : Prop where
  len : ∀ vs H Q E, sp vs H Q E → vs.length = ps.length
  run : ∀ (A : Around) (outer : List Env) (s : Shared) (H : Hp) (args : Args) (us : List Value) (vs : List V) (Q : VK) (E : XK), Room k A → Env0 P w K mg base A outer s H → BindsTo s fd args (ps.zip us) → Vals vs us → sp vs H Q E →
    codeAny (model P w) A (.call (.ref f) args) (CR CX outer P w H s Q E) s
theorem FnOk.mono {P : Program} {w : World} {K : PySem.W.Frag} {mg : Str → Option Value} {base : Heap} {CX : CXT} {j k : Nat} {f : Addr} {fd : FuncData} {ps : List Str} {sp : Sp} (F : FnOk P w K mg base CX j f fd ps sp) (h : j ≤ k) :
    FnOk P w K mg base CX k f fd ps sp := ⟨F.len, fun A outer s H args us vs Q E hr => F.run A outer s H args us vs Q E (hr.mono h)⟩
section
variable {X : Cx} {pins : List (Addr × Obj)} {σ : St} {H : Hp} {s s' : Shared}
theorem Inv.env0 (I : Inv X pins σ H s) : Env0 X.prog X.w X.K X.mg X.base X.A X.stack s H :=
  ⟨I.ok.frames, I.ok.mod, I.bs, Nat.le_trans I.ok.bsz I.sz, I.stack, I.stkFree, I.hok, I.bare⟩
theorem Inv.after {Q : VK} {u : Value} (I : Inv X pins σ H s) (h : CE X.stack X.prog X.w H s Q u s') : EP X pins σ Q u s' := by
  obtain ⟨v, H', os, bare, un, hok, r, q⟩ := h
  obtain ⟨hh, g, d, t, os'⟩ := s'
  obtain rfl : os' = s.os := os
  exact ⟨v, H', I.call (h' := hh) (g' := g) (d' := d) (t' := t) (ch := []) un hok bare (fun b z => absurd z (by simp)), r, q⟩
end

noncomputable def xj6 (sp : Sp) (dvs : List V) (E : XK) (t : TA) : TE := fun σ H Q => t σ H fun vs H1 => sp (vs ++ dvs) H1 Q E
noncomputable def Binds (K : PySem.W.Frag) (fd : FuncData) (ps : List Str) (ds : List Value) : Prop :=
  ∀ (s : Shared) (us : List Value), K.In s.heap → (us ++ ds).length = ps.length → BindsTo s fd ⟨us, []⟩ (ps.zip (us ++ ds))
theorem Binds.all {K : PySem.W.Frag} {fd : FuncData} {ps : List Str} (h : ∀ us : List Value, us.length = ps.length → bindArgs fd ⟨us, []⟩ = pure (ps.zip us)) : Binds K fd ps [] := fun s us _ hl => by
  rw [List.append_nil] at hl ⊢
  exact .of_eq (h us hl)

noncomputable def wd2 (CX : CXT) (X : Cx) (E : XK) : Prop := ∀ (pins : List (Addr × Obj)) (σ : St) (H : Hp) (s : Shared) (e : Value) (s' : Shared), Inv X pins σ H s → CX X.stack H s E e s' → X.xe e s'

section
variable {X : Cx} {CX : CXT} {k : Nat} {f C : Addr} {fd : FuncData} {ps : List Str} {sp : Sp} {dvs : List V} {ds : List Value} {E : XK} {x m : Str} {p pos apos : Pos} {e o : Expr} {es : List Expr} {ta : TE} {t : TA}

theorem xp6 {pins : List (Addr × Obj)} {σ : St} {H : Hp} {s : Shared} {Q : VK} {us : List Value} {vs : List V} (F : FnOk X.prog X.w X.K X.mg X.base CX k f fd ps sp) (hr : Room k X.A) (hb : Binds X.K fd ps ds) (hd : Vals dvs ds) (hx : wd2 CX X E)
    (I : Inv X pins σ H s) (r : Vals vs us) (h : sp (vs ++ dvs) H Q E) : wpAny (model X.prog X.w) X.A (call (.ref f) us) (EP X pins σ Q) X.xe s := by
  have r2 : Vals (vs ++ dvs) (us ++ ds) := r.append hd
  have hl : (us ++ ds).length = ps.length := by rw [← r2.length]; exact F.len _ _ _ _ h
  refine wpAny_call (codeAny_mono (F.run X.A X.stack s H ⟨us, []⟩ (us ++ ds) (vs ++ dvs) Q E hr I.env0 (hb s us I.kIn hl) r2 h) fun r s' hq => ?_)
  cases r with
  | error e => exact hx pins σ H s e s' I hq
  | ok fl =>
    cases fl with
    | ret u => exact I.after hq
    | next => exact False.elim hq
    | brk => exact False.elim hq
    | cont => exact False.elim hq

theorem yh2 (F : FnOk X.prog X.w X.K X.mg X.base CX k f fd ps sp) (hr : Room k X.A) (hg : Gl X x) (hm : X.mg x = some (.ref f)) (hk : PySem.W.keepIn X.K (.ref f) = true) (hb : Binds X.K fd ps ds) (hd : Vals dvs ds) (hx : wd2 CX X E)
    (ha : PA X (e :: es) t) (hdb : (x == ("__debug__" : Str)) = false := by decide) (he : starEach (e :: es) X.env = (false, eval e X.env) :: starEach es X.env := by rfl) (hpl : (backTo pos (starEach es X.env)).any (·.1) = false := by rfl) :
    PE X (.Call (.Name x p) (e :: es) [] pos) (xj6 sp dvs E t) := by
  intro pins s σ H Q I h
  refine wpAny_Call_Name_kw (wr0 I hg hm ?_ hdb)
  refine PySem.W.callWith_K (h₀ := X.base) I.ok.mod.kin hk (thn (ha pos pins s σ H _ I h) fun us s1 ⟨vs, H1, I1, r, q⟩ => ⟨I1.kIn, ?_⟩) he hpl
  exact xp6 F hr hb hd hx I1 r q
structure Mk (K : PySem.W.Frag) (C f : Addr) : Prop where
  makes : PySem.W.makesIn K C = true
  init : PySem.W.findIn K (.ref C) "__init__" = some (some (.ref f))
  fn : PySem.W.isFn K (.ref f) = true
  kp : PySem.W.keepIn K (.ref C) = true

end

section
variable {X : Cx} {CX : CXT} {k : Nat} {f C : Addr} {fd : FuncData} {ps ks : List Str} {sp : Sp} {E : XK} {x m : Str} {p pos apos kpos : Pos} {e o : Expr} {es : List Expr} {kws : List Keyword} {te ta : TE} {t tk : TA} {nm : Option Str}
structure KBinds (K : PySem.W.Frag) (fd : FuncData) (ps ks : List Str) (g : List Value → List Value → List Value) (gV : List V → List V → List V) : Prop where
  to : ∀ (s : Shared) (us ws : List Value), K.In s.heap → (g us ws).length = ps.length → BindsTo s fd ⟨us, ks.zip ws⟩ (ps.zip (g us ws))
  rel : ∀ {vs : List V} {us : List Value} {zs : List V} {ws : List Value}, Vals vs us → Vals zs ws → Vals (gV vs zs) (g us ws)
variable {g : List Value → List Value → List Value} {gV : List V → List V → List V}
end

structure FnScope (N P : List Str) (sc : Scope) : Prop where
  kind : sc.kind = .function
  co : sc.isCoroutine = false
  gen : sc.isGenerator = false
  nd : N.Nodup
  pre : N.take P.length = P
  par : ∀ x ∈ P, sc.names.lookup x = some .local ∨ sc.names.lookup x = some .cell
  nofree : ∀ y ∈ sc.names, y.2 ≠ .free

theorem zc2 {kindOf : Str → Option NameKind} {x : Str} : ∀ {binds : List (Str × Value)} {m : Str → Option Value}, (∀ v, (x, v) ∉ binds) → bindL kindOf binds m x = m x
  | [], _, _ => rfl
  | (n, v) :: r, m, h => by
    unfold bindL
    rw [zc2 fun w hw => h w (List.mem_cons_of_mem _ hw)]
    split
    · have : x ≠ n := by rintro rfl; exact h v List.mem_cons_self
      simp [this]
    · rfl
theorem xd2 {kindOf : Str → Option NameKind} {x : Str} : ∀ {binds : List (Str × Value)} {m : Str → Option Value}, (∀ v, (x, v) ∉ binds) → bindC kindOf binds m x = m x
  | [], _, _ => rfl
  | (n, v) :: r, m, h => by
    unfold bindC
    rw [xd2 fun w hw => h w (List.mem_cons_of_mem _ hw)]
    split
    · rfl
    · have : x ≠ n := by rintro rfl; exact h v List.mem_cons_self
      simp [this]
theorem wc2 {kindOf : Str → Option NameKind} {x : Str} {v : Value} : ∀ {P : List Str} {vs : List Value} {i : Nat} {m : Str → Option Value}, P.Nodup → P[i]? = some x → vs[i]? = some v → kindOf x = some .local →
    bindL kindOf (P.zip vs) m x = some v
  | [], _, _, _, _, h, _, _ => by simp at h
  | _ :: _, [], _, _, _, _, h, _ => by simp at h
  | p :: P, w :: vs, 0, m, nd, h1, h2, hk => by
    simp at h1 h2; subst h1; subst h2
    show bindL kindOf ((p, w) :: P.zip vs) m p = _
    unfold bindL
    rw [zc2 fun v hv => (List.nodup_cons.mp nd).1 (List.of_mem_zip hv).1, if_pos hk]
    simp
  | p :: P, w :: vs, i + 1, m, nd, h1, h2, hk => by
    show bindL kindOf ((p, w) :: P.zip vs) m x = _
    unfold bindL
    exact wc2 (i := i) (List.nodup_cons.mp nd).2 (by simpa using h1) (by simpa using h2) hk
theorem yd2 {kindOf : Str → Option NameKind} {x : Str} {v : Value} : ∀ {P : List Str} {vs : List Value} {i : Nat} {m : Str → Option Value}, P.Nodup → P[i]? = some x → vs[i]? = some v → kindOf x ≠ some .local →
    bindC kindOf (P.zip vs) m x = some v
  | [], _, _, _, _, h, _, _ => by simp at h
  | _ :: _, [], _, _, _, _, h, _ => by simp at h
  | p :: P, w :: vs, 0, m, nd, h1, h2, hk => by
    simp at h1 h2; subst h1; subst h2
    show bindC kindOf ((p, w) :: P.zip vs) m p = _
    unfold bindC
    rw [xd2 fun v hv => (List.nodup_cons.mp nd).1 (List.of_mem_zip hv).1, if_neg hk]
    simp
  | p :: P, w :: vs, i + 1, m, nd, h1, h2, hk => by
    show bindC kindOf ((p, w) :: P.zip vs) m x = _
    unfold bindC
    exact yd2 (i := i) (List.nodup_cons.mp nd).2 (by simpa using h1) (by simpa using h2) hk

noncomputable def start (N : List Str) (vs : List V) : St := vs.map some ++ List.replicate (N.length - vs.length) none

noncomputable def cxOf (CX : CXT) (P : Program) (w : World) (K : PySem.W.Frag) (mg : Str → Option Value) (base : Heap) (N : List Str) (qual : Str) (scope : Scope) (f : Addr) (cd : Value) (A : Around) (outer : List Env) (s : Shared) (H : Hp) (E : XK) : Cx where
  prog := P
  w := w
  K := K
  mg := mg
  base := base
  A := A.deeper (envOfC qual scope s.heap.objs.size f cd)
  N := N
  s₀ := s
  H₀ := H
  env := envOfC qual scope s.heap.objs.size f cd
  outer := outer
  stack := envOfC qual scope s.heap.objs.size f cd :: outer
  ex := []
  calm := true
  fn := fun _ => true
  pn := []
  xe := fun e s' => wpAny (model P w) (A.deeper (envOfC qual scope s.heap.objs.size f cd)) (leaving (envOfC qual scope s.heap.objs.size f cd) e) (fun _ s'' => CX outer H s E e s'') (fun e' s'' => CX outer H s E e' s'') s'

theorem yz0 {sc : Scope} {n : Nat} {x : Str} (h : sc.names.lookup x = some .cell) : ∃ c, (cellsFrom n sc.names []).lookup x = some c := by
  have q := PySem.W.cellsFrom_some sc.names n [] (.inl h)
  exact Option.isSome_iff_exists.mp q

theorem wz1 {CX : CXT} {P : Program} {w : World} {K : PySem.W.Frag} {mg : Str → Option Value} {base : Heap} {N ps : List Str} {qual : Str} {scope : Scope} {f : Addr} {cd : Value} {A : Around} {outer : List Env} {s s1 : Shared} {H : Hp} {E : XK} {us : List Value} {vs : List V}
    (S : FnScope N ps scope) (hd : A.handled = none) (e0 : Env0 P w K mg base A outer s H) (hl : vs.length = ps.length) (r : Vals vs us)
    (x : InCallC s s.heap.objs.size (bindL (envOfC qual scope s.heap.objs.size f cd).kindOf (ps.zip us) fun _ => none) (cellsFrom (s.heap.objs.size + 1) scope.names []) (bindC (envOfC qual scope s.heap.objs.size f cd).kindOf (ps.zip us) fun _ => none) s1) :
    Inv (cxOf CX P w K mg base N qual scope f cd A outer s H E) [] (start N vs) H s1 := by
  have hpl : ps.length ≤ N.length := by have := congrArg List.length S.pre; rw [List.length_take] at this; omega
  obtain ⟨h1, tk, rfl, hk⟩ := x.done
  have noA : ∀ b : Addr, b ∉ (cxOf CX P w K mg base N qual scope f cd A outer s H E).ex := fun b z => absurd (show b ∈ ([] : List Addr) from z) (by simp)
  refine ⟨⟨e0.mod, S.kind, rfl, rfl, Nat.le_refl _, fun y z c h1 h2 => ?_, fun y hy => ?_, fun y c _ h => ?_, fun _ => hd, Around.frames_deeper e0.frames, .inr ⟨rfl, rfl⟩, fun b z => absurd z (noA b), e0.bs, e0.bsz, fun b _ _ => noA b, fun b z => absurd z (noA b), e0.funs, e0.frf⟩,
    rfl, e0.bare, Un.kept hk, ⟨_, x.toInCall.ns, fun i y v h1 h2 h3 => ?_⟩, fun y c h => ⟨_, x.cell y c h⟩, e0.hok.fresh (Nat.le_refl _), fun y c h => ?_, fun p hp => absurd (show p ∈ ([] : List (Addr × Obj)) from hp) (by simp), e0.hok.kept hk, ?_⟩
  · exact name_of_addr x.apart (PySem.mem_of_lookup h1) (PySem.mem_of_lookup h2)
  · have hy : scope.names.lookup y = some .cell ∨ scope.names.lookup y = some .free := hy
    rcases hy with hy | hy
    · exact yz0 hy
    · exact absurd rfl (S.nofree _ (PySem.mem_of_lookup hy))
  · exact Nat.le_of_lt (x.above y c (PySem.mem_of_lookup h))
  · have hi : i < vs.length := by
      unfold start at h2
      by_cases hi : i < vs.length
      · exact hi
      · rw [List.getElem?_append_right (by simpa using hi)] at h2
        rw [List.getElem?_replicate] at h2
        split at h2 <;> cases h2
    have ha : vs[i]? = some v := by
      unfold start at h2
      rw [List.getElem?_append_left (by simpa using hi), List.getElem?_map] at h2
      cases e : vs[i]? with
      | none => rw [e] at h2; cases h2
      | some a => rw [e] at h2; cases h2; rfl
    obtain ⟨u, hu, rv⟩ := r.get ha
    have hp : ps[i]? = some y := by
      rw [← S.pre, List.getElem?_take_of_lt (by omega)]; exact h1
    have ndP : ps.Nodup := by rw [← S.pre]; exact S.nd.sublist (List.take_sublist _ _)
    refine ⟨u, rv, ?_⟩
    rcases S.par y (List.mem_of_getElem? hp) with k | k
    · exact .inl ⟨k, wc2 ndP hp hu k⟩
    · obtain ⟨c, e⟩ := yz0 (n := s.heap.objs.size + 1) k
      refine .inr ⟨.inl k, c, e, ?_⟩
      have q := x.cell y c e
      rw [yd2 ndP hp hu (by show scope.names.lookup y ≠ _; rw [k]; decide)] at q
      exact q
  · exact e0.hok.fresh (Nat.le_of_lt (x.above y c (PySem.mem_of_lookup h)))
  · unfold start
    show _ = N.length
    rw [List.length_append, List.length_map, List.length_replicate]
    omega

theorem zn7 {CX : CXT} {P : Program} {w : World} {K : PySem.W.Frag} {mg : Str → Option Value} {base : Heap} {k : Nat} {f : Addr} {name qual : Str} {params : Arguments} {body : List Stmt} {scope : Scope} {dV kV doc pm cdv ct oc : Value} {an od : Option Addr}
    {osl : Array (Option Value)} {N ps : List Str} {sp : Sp} (lk : K.lookup f = some ⟨oc, od, .func (PySem.W.fnOf name qual params body scope dV kV doc pm an cdv ct), osl⟩) (hcd : PySem.W.codeIn K cdv qual = true) (S : FnScope N ps scope)
    (len : ∀ vs H Q E, sp vs H Q E → vs.length = ps.length)
    (hbody : ∀ (A : Around) (outer : List Env) (s : Shared) (H : Hp) (vs : List V) (Q : VK) (E : XK), Room k (A.deeper (envOfC qual scope s.heap.objs.size f cdv)) → sp vs H Q E →
      ∃ t, PSs (cxOf CX P w K mg base N qual scope f cdv A outer s H E) body t ∧ t { nx := fun _ H' => Q .non H', rt := Q } (start N vs) H) :
    FnOk P w K mg base CX (k + 1) f (PySem.W.fnOf name qual params body scope dV kV doc pm an cdv ct) ps sp := by
  refine ⟨len, fun A outer s H args us vs Q E hr e0 hb r hsp => ?_⟩
  have hl := len _ _ _ _ hsp
  have KX : K.In s.heap := e0.mod.kin.keeps fun b o e => (e0.bs b o e).1
  have lim : s.heap.NoLimit := e0.mod.nolimit.keeps fun b o e => (e0.bs b o e).1
  have hkind : ∀ y ∈ ps.zip us, scope.names.lookup y.1 = some .local ∨ (scope.names.lookup y.1 = some .cell ∧ ((cellsFrom (s.heap.objs.size + 1) scope.names []).lookup y.1).isSome = true) := fun ⟨n, v⟩ hy => by
    rcases S.par n (List.of_mem_zip hy).1 with q | q
    · exact .inl q
    · exact .inr ⟨q, PySem.W.cellsFrom_some _ _ _ (.inl q)⟩
  refine codeAny_call_function hr.depth (KX _ _ lk) rfl S.co S.gen rfl (PySem.W.codeRec_of KX hcd) (hb _ _ _ _ ?_)
  refine wpAny_newFunctionEnv_cells S.kind hkind fun env he s1 x => ?_
  subst he
  refine ⟨lim.keeps x.toInCall.keep, codeAny_func ?_⟩
  obtain ⟨t, ht, hq⟩ := hbody A outer s H vs Q E (hr.deeper _) hsp
  have I : Inv (cxOf CX P w K mg base N qual scope f cdv A outer s H E) [] (start N vs) H s1 := wz1 S hr.hd e0 hl r x
  refine wpAny_mono (ht [] s1 (start N vs) H _ I hq) (fun fl s' hs => ?_) fun e s' hs => hs
  have fin : ∀ {σ' : St} {H' : Hp} {v : V} {u : Value}, Inv (cxOf CX P w K mg base N qual scope f cdv A outer s H E) [] σ' H' s' → RelV v u → Q v H' → CE outer P w H s Q u s' :=
    fun {σ' H' v u} J rv q => ⟨v, H', J.os, J.bare, J.base, J.hok, rv, q⟩
  cases fl with
  | ret u =>
    obtain ⟨v, σ', H', J, rv, q⟩ := hs
    exact fin J rv q
  | next =>
    obtain ⟨σ', H', J, q⟩ := hs
    exact fin (v := V.non) (u := Value.none) J rfl q
  | brk =>
    obtain ⟨_, _, _, q⟩ := hs
    exact False.elim q
  | cont =>
    obtain ⟨_, _, _, q⟩ := hs
    exact False.elim q
end L2

namespace L2
open PySem PySem.Spec PyProof.Rows
section
variable {X : Cx} {x : Str} {p pos : Pos} {e : Expr} {es : List Expr} {t : TA} {id T : String} {r : List V → Hp → VK → Prop}

noncomputable def tCB (r : List V → Hp → VK → Prop) (t : TA) : TE := fun σ H Q => t σ H fun vs H1 => r vs H1 Q
theorem xr2 (hc : CallR X (.builtin id) r) (hg : Gl X x) (hm : X.mg x = none) (hv : bootBuiltins x = some (.builtin id)) (ha : PA X (e :: es) t) (hn : x ≠ "__name__" := by decide) (hdb : (x == ("__debug__" : Str)) = false := by decide)
    (he : starEach (e :: es) X.env = (false, eval e X.env) :: starEach es X.env := by rfl) (hpl : (backTo pos (starEach es X.env)).any (·.1) = false := by rfl) : PE X (.Call (.Name x p) (e :: es) [] pos) (tCB r t) := by
  intro pins s σ H Q I h
  refine wpAny_Call_Name_kw (zd1 I hg hm hv ?_ hn hdb)
  exact PyProof.Rows.callWith_builtin1 (thn (ha pos pins s σ H _ I h) fun us s1 ⟨vs, H1, I1, r1, q1⟩ => hc pins s1 σ H1 vs us Q I1 r1 q1) he hpl
theorem wp3 (hc : CallR X (.type T) r) (hg : Gl X x) (hm : X.mg x = none) (hv : bootBuiltins x = some (.type T)) (ha : PA X (e :: es) t) (hn : x ≠ "__name__" := by decide) (hdb : (x == ("__debug__" : Str)) = false := by decide)
    (he : starEach (e :: es) X.env = (false, eval e X.env) :: starEach es X.env := by rfl) (hpl : (backTo pos (starEach es X.env)).any (·.1) = false := by rfl) : PE X (.Call (.Name x p) (e :: es) [] pos) (tCB r t) := by
  intro pins s σ H Q I h
  refine wpAny_Call_Name_kw (zd1 I hg hm hv ?_ hn hdb)
  exact PyProof.Rows.callWith_type1 (thn (ha pos pins s σ H _ I h) fun us s1 ⟨vs, H1, I1, r1, q1⟩ => hc pins s1 σ H1 vs us Q I1 r1 q1) he hpl
end
end L2

namespace HT
open PySem PyProof.Rows

section
open PySem.SeqAt
open PySem.AutoSeq1 (wpAny_loadPart')
open PySem.MeetsSeq PySem.MeetsSeq2 PySem.MeetsSeq3

end

section
variable {prog : Program} {w : World} {A : Around} {E : Value → Shared → Prop} {s : Shared}

theorem cat_tup {t b : Addr} {vs ws : List Value} {Q : Value → Shared → Prop} (ht : IsTup s.heap t vs.toArray) (hb : IsTup s.heap b ws.toArray) (hv : vs ≠ [])
    (h1 : ws = [] → Q (.ref t) s) (h2 : ws ≠ [] → Q (.ref s.heap.objs.size) { s with heap := s.heap.push { cls := .type "tuple", data := .seq (vs ++ ws).toArray } })
    (hsz : vs.length + ws.length ≤ sizeLine) : wpAny (model prog w) A (binaryOp .Add (.ref t) (.ref b)) Q E s := by
  obtain ⟨⟨cls, dd, data, sl⟩, ho, hc, n, hd⟩ := id ht
  obtain ⟨⟨cls2, dd2, data2, sl2⟩, ho2, hc2, n2, hd2⟩ := id hb
  simp only at hc hd hc2 hd2
  subst hc hd hc2 hd2
  have e : vs.toArray ++ ws.toArray = (vs ++ ws).toArray := by simp
  by_cases hw : ws = []
  · exact concat_meets ⟨_, ho, rfl⟩ ⟨_, ho2, rfl⟩ noFill_tuple_add seq_tuple_add PySem.F.slot_tuple_add PySem.F.entry_tuple_add (PySem.F.args_tuple_add_2 _ _)
      (tuple_addW1 t b vs.toArray ws.toArray n n2 dd dd2 sl sl2 (by simpa using hv) (by simp [hw])) ⟨ho, ho2, h1 hw⟩
  · refine concat_meets ⟨_, ho, rfl⟩ ⟨_, ho2, rfl⟩ noFill_tuple_add seq_tuple_add PySem.F.slot_tuple_add PySem.F.entry_tuple_add (PySem.F.args_tuple_add_2 _ _)
      (tuple_addW2 t b vs.toArray ws.toArray n n2 dd dd2 sl sl2 (by simpa using hv) (by simpa using hw) (by rw [List.size_toArray, List.size_toArray]; exact hsz)) ⟨ho, ho2, ?_⟩
    rw [e]
    exact h2 hw

noncomputable def sIx (n d : Nat) : Option Int → Nat
  | none => d
  | some v => if v < 0 then (v + (n : Int)).toNat else min v.toNat n
theorem xo6 (n d : Nat) (hd : d ≤ n) (o : Option Int) : sIx n d o ≤ n := by
  cases o with
  | none => exact hd
  | some v =>
    show (if v < 0 then (v + (n : Int)).toNat else min v.toNat n) ≤ n
    by_cases hv : v < 0
    · rw [if_pos hv]; omega
    · rw [if_neg hv]; exact Nat.min_le_right _ _
theorem wy3 (v : Int) (n d : Nat) : (if v < 0 then max (v + (n : Int)) 0 else min v (n : Int)) = ((sIx n d (some v) : Nat) : Int) := by
  show (if v < 0 then max (v + (n : Int)) 0 else min v (n : Int)) = (((if v < 0 then (v + (n : Int)).toNat else min v.toNat n) : Nat) : Int)
  by_cases hv : v < 0
  · simp only [if_pos hv]; omega
  · simp only [if_neg hv]; omega
theorem we3 (lo hi : Option Int) (n : Nat) : Builtin.Slice.sliceAdjust lo hi 1 (n : Int) = (((sIx n 0 lo : Nat) : Int), ((sIx n n hi : Nat) : Int)) := by
  have h1 : ¬ ((1 : Int) < 0) := by omega
  unfold Builtin.Slice.sliceAdjust
  simp only [h1, if_false]
  refine Prod.ext ?_ ?_
  · cases lo with
    | none => rfl
    | some v => exact wy3 v n 0
  · cases hi with
    | none => rfl
    | some v => exact wy3 v n n
theorem wb3 (i j : Nat) : Builtin.Slice.slicePlaces (i : Int) (j : Int) 1 = j - i := by
  unfold Builtin.Slice.slicePlaces
  have h1 : (1 : Int) > 0 := by omega
  simp only [h1, if_true, Int.ediv_one]
  split <;> omega
theorem wi1 {v : Value} {o : Option Int} {Q : Option Int → Shared → Prop} (p : IsPart v o) (h : Q o s) : wpAny (model prog w) A (Builtin.Slice.slicePartIndex v) Q E s := by
  cases p with
  | none => exact slicePart_none h
  | int i t => exact slicePart_int h
theorem sliceApplied_gen {sl : Addr} {vl vu : Value} {lo hi : Option Int} {n : Nat} {Q : Int × Int × Nat → Shared → Prop} (hs : s.heap.IsSliceOf sl vl vu .none) (pl : IsPart vl lo) (pu : IsPart vu hi)
    (h : Q (((sIx n 0 lo : Nat) : Int), 1, sIx n n hi - sIx n 0 lo) s) : wpAny (model prog w) A (Builtin.Slice.sliceApplied (.ref sl) (pure (n : Int))) Q E s := by
  obtain ⟨os, hos, hcs, hds⟩ := id hs
  unfold Builtin.Slice.sliceApplied Builtin.Slice.sliceFields
  refine wpAny_bind (wpAny_bind (wpAny_field hos hds (x := vl) rfl (wpAny_bind (wpAny_field hos hds (x := vu) rfl (wpAny_bind (wpAny_field hos hds (x := .none) rfl (wpAny_pure ?_)))))))
  refine wpAny_bind (slicePart_none ?_)
  show wpAny _ _ (if ((1 : Int) == 0) = true then _ else _) _ _ s
  rw [if_neg (by decide)]
  refine wpAny_bind (wi1 pl (wpAny_bind (wi1 pu (wpAny_bind (wpAny_pure ?_)))))
  show wpAny _ _ (match Builtin.Slice.sliceAdjust lo hi 1 (n : Int) with | (lo, hi) => pure (lo, (1 : Int), Builtin.Slice.slicePlaces lo hi 1)) _ _ s
  rw [we3 lo hi n]
  show wpAny _ _ (pure (((sIx n 0 lo : Nat) : Int), (1 : Int), Builtin.Slice.slicePlaces ((sIx n 0 lo : Nat) : Int) ((sIx n n hi : Nat) : Int) 1)) _ _ s
  rw [wb3]
  exact wpAny_pure h
theorem zh4 (xs : Array Value) (i k : Nat) : ((List.range k).filterMap fun (m : Nat) => xs[((i : Int) + (m : Int) * 1).toNat]?).toArray = ((xs.toList.drop i).take k).toArray := by
  have e : (fun (m : Nat) => xs[((i : Int) + (m : Int) * 1).toNat]?) = fun m => xs[i + m]? := by
    funext m
    have : ((i : Int) + (m : Int) * 1).toNat = i + m := by omega
    rw [this]
  rw [e]
  have := pick_run xs i k
  rw [List.filterMap_map] at this
  have e2 : ((fun x => xs[x]?) ∘ fun x => i + x) = fun m => xs[i + m]? := rfl
  rw [e2] at this
  rw [this]

theorem getItem_tuple_cut {t sl : Addr} {items : Array Value} {vl vu : Value} {lo hi : Option Int} {Q : Value → Shared → Prop} (ht : IsTup s.heap t items) (hs : s.heap.IsSliceOf sl vl vu .none) (pl : IsPart vl lo) (pu : IsPart vu hi)
    (hw : ¬ (sIx items.size 0 lo = 0 ∧ sIx items.size items.size hi = items.size))
    (h : Q (.ref s.heap.objs.size) { s with heap := s.heap.push { cls := .type "tuple", data := .seq ((items.toList.drop (sIx items.size 0 lo)).take (sIx items.size items.size hi - sIx items.size 0 lo)).toArray } })
    (hsz : items.size ≤ sizeLine) : wpAny (model prog w) A (getItem (.ref t) (.ref sl)) Q E s := by
  have htake : sizeOk (.seq ((items.toList.drop (sIx items.size 0 lo)).take (sIx items.size items.size hi - sIx items.size 0 lo)).toArray) := by
    show ((items.toList.drop (sIx items.size 0 lo)).take (sIx items.size items.size hi - sIx items.size 0 lo)).toArray.size ≤ sizeLine
    rw [List.size_toArray, List.length_take, List.length_drop, Array.length_toList]
    omega
  have hj : sIx items.size items.size hi ≤ items.size := xo6 _ _ (Nat.le_refl _) hi
  obtain ⟨os, hos, hcs, hds⟩ := id hs
  have hTs : s.TypeIs (.ref sl) "slice" := ⟨os, hos, hcs⟩
  unfold getItem
  try with_reducible refine wpAny_holding ?_
  first | refine wpAny_bind (wpAny_pure ?_) | skip
  refine wpAny_bind (wpAny_sequenceKey ht.typeIs (by decide) ?_)
  refine wpAny_bind (wpAny_callSpecial?_slot (name := Str.ofString "__getitem__") ht.typeIs PyProof.Rows.slot_tuple_getitem
    (wpAny_call_entry PyProof.Rows.slot_tuple_getitem ht.typeIs entry_tuple_getitem ?_ (args_tuple_getitem _ _)))
  show wpAny _ _ (Builtin.Tuple.tupleItemsOf (.ref t) >>= _) _ _ s
  refine wpAny_bind (tupleItemsOf_ ht ?_)
  refine wpAny_bind (wpAny_typeOf hTs ?_)
  rw [if_pos (by decide)]
  refine wpAny_bind (sliceApplied_gen hs pl pu ?_)
  have hno : ¬ ((((sIx items.size 0 lo : Nat) : Int) == 0 && (1 : Int) == 1 && (sIx items.size items.size hi - sIx items.size 0 lo) == items.size) = true) := by
    intro q
    rw [Bool.and_eq_true, Bool.and_eq_true] at q
    have q1 : ((sIx items.size 0 lo : Nat) : Int) = 0 := eq_of_beq q.1.1
    have q2 : sIx items.size items.size hi - sIx items.size 0 lo = items.size := eq_of_beq q.2
    exact hw ⟨by omega, by omega⟩
  show wpAny _ _ (if (((sIx items.size 0 lo : Nat) : Int) == 0 && (1 : Int) == 1 && (sIx items.size items.size hi - sIx items.size 0 lo) == items.size) = true then _ else _) _ _ s
  rw [if_neg hno, zh4]
  first
    | exact wpAny_bind (m := Builtin.Tuple.tupleExact _) (wpAny_newObj_type (wpAny_pure ⟨_, rfl, wpAny_pure h⟩) htake)
    | exact wpAny_bind (m := Builtin.Tuple.tupleExact _) (wpAny_newObj_type (wpAny_bind (wpAny_pure (wpAny_pure ⟨_, rfl, wpAny_pure h⟩))) htake)
    | exact wpAny_bind (wpAny_bind (m := Builtin.Tuple.tupleExact _) (wpAny_newObj_type (wpAny_pure (wpAny_pure ⟨_, rfl, wpAny_pure h⟩)) htake))
    | exact wpAny_bind (wpAny_bind (m := Builtin.Tuple.tupleExact _) (wpAny_newObj_type (wpAny_pure ⟨_, rfl, wpAny_pure h⟩) htake))
end
end HT

namespace L2
open PySem PySem.Spec PyProof.Rows

noncomputable abbrev TO := St → Hp → (Option Int → Hp → Prop) → Prop
noncomputable def PO (X : Cx) (e : Option Expr) (t : TO) : Prop :=
  ∀ (pins : List (Addr × Obj)) (s : Shared) (σ : St) (H : Hp) (Q : Option Int → Hp → Prop), Inv X pins σ H s → t σ H Q →
    wpAny (model X.prog X.w) X.A (evalPart e X.env) (fun u s' => ∃ o H', Inv X pins σ H' s' ∧ IsPart u o ∧ Q o H') X.xe s
noncomputable def xf5 : TO := fun _ H Q => Q none H
noncomputable def xu7 (t : TE) : TO := fun σ H Q => t σ H fun x H1 => ∃ i, x = .int i ∧ Q (some i) H1

section
variable {X : Cx} {e : Expr} {te : TE} {lo hi : Option Expr} {tl th : TO} {pos p2 : Pos}

theorem xm5 : PO X none xf5 := by
  intro pins s σ H Q I h
  rw [evalPart_none]
  exact wpAny_pure ⟨none, H, I, .none, h⟩
theorem wl5 (h : PE X e te) : PO X (some e) (xu7 te) := by
  intro pins s σ H Q I hw
  rw [evalPart_some]
  refine thn (h pins s σ H _ I hw) fun u s1 ⟨x, H1, I1, r1, q1⟩ => ?_
  obtain ⟨i, rfl, q⟩ := q1
  obtain ⟨t, rfl⟩ := r1
  exact ⟨some i, H1, I1, .int i t, q⟩

noncomputable def SlR (X : Cx) (r : V → Option Int → Option Int → Hp → VK → Prop) : Prop :=
  ∀ (pins : List (Addr × Obj)) (s : Shared) (σ : St) (H : Hp) (x : V) (v vl vu : Value) (lo hi : Option Int) (sl : Addr) (Q : VK), Inv X pins σ H s → RelV x v → s.heap.IsSliceOf sl vl vu .none → IsPart vl lo → IsPart vu hi → r x lo hi H Q →
    ∃ T id, typeLookup (.type T) "__getitem__" = pure (some (.builtin id)) ∧ s.TypeIs v T ∧ wpAny (model X.prog X.w) X.A (getItem v (.ref sl)) (EP X pins σ Q) X.xe s
theorem SlR.or {r r' : V → Option Int → Option Int → Hp → VK → Prop} (h : SlR X r) (h' : SlR X r') : SlR X (fun x lo hi H Q => r x lo hi H Q ∨ r' x lo hi H Q) := by
  intro pins s σ H x v vl vu lo hi sl Q I rx hs pl pu q
  rcases q with q | q
  · exact h pins s σ H x v vl vu lo hi sl Q I rx hs pl pu q
  · exact h' pins s σ H x v vl vu lo hi sl Q I rx hs pl pu q
noncomputable def tSl (r : V → Option Int → Option Int → Hp → VK → Prop) (te : TE) (tl th : TO) : TE := fun σ H Q => te σ H fun x H1 => tl σ H1 fun l H2 => th σ H2 fun u H3 => r x l u H3 Q
theorem xi4 {r : V → Option Int → Option Int → Hp → VK → Prop} (hr : SlR X r) (he : PE X e te) (hl : PO X lo tl) (hu : PO X hi th) : PE X (.Subscript e (.Slice lo hi none p2) pos) (tSl r te tl th) := by
  intro pins s σ H Q I h
  refine Subscript_ (thn (he pins s σ H _ I h) fun v s1 ⟨x, H1, I1, r1, q1⟩ => ?_)
  refine wpAny_Slice (thn (hl pins s1 σ H1 _ I1 q1) fun vl s2 ⟨l, H2, I2, pl, q2⟩ => thn (hu pins s2 σ H2 _ I2 q2) fun vu s3 ⟨u, H3, I3, pu, q3⟩ => ?_)
  rw [evalPart_none]
  refine wpAny_pure ?_
  have I4 : Inv X pins σ H3 { s3 with heap := s3.heap.push { cls := .type "slice", data := .fields #[vl, vu, .none] } } := I3.kept (t' := s3.toks) fun b ob q => Heap.get?_push_of_some _ q
  obtain ⟨T, id, hT, ht, hg⟩ := hr pins { s3 with heap := s3.heap.push { cls := .type "slice", data := .fields #[vl, vu, .none] } } σ H3 x v vl vu l u s3.heap.objs.size Q I4 r1 (Heap.IsSliceOf.new ..) pl pu q3
  show wpAny (model X.prog X.w) X.A (subscriptTail e (.Slice lo hi none p2) v (.ref s3.heap.objs.size)) (EP X pins σ Q) X.xe { s3 with heap := s3.heap.push { cls := .type "slice", data := .fields #[vl, vu, .none] } }
  exact tail_any (ops := [.ref s3.heap.objs.size, v]) ht hT hg (by with_unfolding_all rfl)

noncomputable def cutV (xs : List V) (lo hi : Option Int) : List V := (xs.drop (HT.sIx xs.length 0 lo)).take (HT.sIx xs.length xs.length hi - HT.sIx xs.length 0 lo)
theorem yf1 (xs : List V) (lo hi : Option Int) : (cutV xs lo hi).length ≤ xs.length := by
  unfold cutV
  rw [List.length_take, List.length_drop]
  omega
noncomputable def rSlT (K : PySem.W.Frag) : V → Option Int → Option Int → Hp → VK → Prop := fun x lo hi H Q => ∃ a xs, x = .ref a ∧ SqT K H a xs ∧
  ¬ (HT.sIx xs.length 0 lo = 0 ∧ HT.sIx xs.length xs.length hi = xs.length) ∧ ∀ p, H p = none → Q (.ref p) (upd H p (.tup (cutV xs lo hi)))
theorem wj6 : SlR X (rSlT X.K) := by
  intro pins s σ H x v vl vu lo hi sl Q I rx hs pl pu h
  obtain ⟨a, xs, rfl, hx, hw, q⟩ := h
  cases rx
  obtain ⟨its, r, ht, hz⟩ := I.tuple hx
  have hlen : its.toArray.size = xs.length := by rw [List.size_toArray]; exact r.length.symm
  refine ⟨"tuple", _, PyProof.Rows.slot_tuple_getitem.lookup, ht.typeIs, ?_⟩
  refine HT.getItem_tuple_cut ht hs pl pu (by rw [hlen]; exact hw) ?_ (by rw [hlen]; exact hz)
  rw [hlen]
  refine ⟨.ref s.heap.objs.size, _, I.laid (t' := s.toks) (o := .tup (cutV xs lo hi)) (fun b ob q => Heap.get?_push_of_some _ q) (Nat.le_refl _) ?_, rfl, q _ (I.hok.fresh (Nat.le_refl _))⟩
  exact ⟨Nat.le_trans (yf1 xs lo hi) hz, _, (r.drop (HT.sIx xs.length 0 lo)).take (HT.sIx xs.length xs.length hi - HT.sIx xs.length 0 lo), IsTup.new _ _⟩

noncomputable def wd8 (K : PySem.W.Frag) : R2 := fun x y H Q => ∃ a b xs ys, x = .ref a ∧ y = .ref b ∧ SqT K H a xs ∧ SqT K H b ys ∧ xs ≠ [] ∧ xs.length + ys.length ≤ sizeLine ∧
  (ys = [] → Q (.ref a) H) ∧ (ys ≠ [] → ∀ p, H p = none → Q (.ref p) (upd H p (.tup (xs ++ ys))))
theorem Vals.nil_iff {xs : List V} {us : List Value} (r : Vals xs us) : us = [] ↔ xs = [] := by
  cases r with
  | nil => simp
  | cons _ _ => simp
theorem wo5 : OpR X (binaryOp .Add) (wd8 X.K) := by
  intro pins s σ H x y v u Q I rx ry h
  obtain ⟨a, b, xs, ys, rfl, rfl, ha, hb, hx, hz, q1, q2⟩ := h
  cases rx
  cases ry
  obtain ⟨its, r1, p1, _⟩ := I.tuple ha
  obtain ⟨its2, r2, p2, _⟩ := I.tuple hb
  refine HT.cat_tup p1 p2 (fun z => hx (r1.nil_iff.mp z)) (fun z => ⟨.ref a, H, I, rfl, q1 (r2.nil_iff.mp z)⟩) (fun z => ?_) (by rw [← r1.length, ← r2.length]; exact hz)
  refine ⟨.ref s.heap.objs.size, _, I.laid (t' := s.toks) (o := .tup (xs ++ ys)) (fun b ob q => Heap.get?_push_of_some _ q) (Nat.le_refl _) ?_, rfl, q2 (fun w => z (r2.nil_iff.mpr w)) _ (I.hok.fresh (Nat.le_refl _))⟩
  exact ⟨by rw [List.length_append]; exact hz, _, r1.append r2, IsTup.new _ _⟩
end
end L2

namespace L2
open PySem PySem.Spec PyProof.Rows

noncomputable def ixN (n : Nat) (i : Int) : Option Nat := if 0 ≤ i then (if i < n then some i.toNat else none) else if -(n : Int) ≤ i then some (i + n).toNat else none
noncomputable def atI {α : Type} (xs : List α) (i : Int) : Option α := (ixN xs.length i).bind fun j => xs[j]?
theorem yt3 {n : Nat} {i : Int} {j : Nat} (h : ixN n i = some j) : seqIndex? i n = some j ∧ j < n ∧ -(n : Int) ≤ i ∧ i < n := by
  unfold ixN at h
  by_cases h0 : 0 ≤ i
  · rw [if_pos h0] at h
    by_cases h1 : i < n
    · rw [if_pos h1] at h
      have e : i.toNat = j := Option.some.inj h
      exact ⟨by rw [seqIndex_of h0 h1, e], by omega, by omega, h1⟩
    · rw [if_neg h1] at h; cases h
  · rw [if_neg h0] at h
    by_cases h1 : -(n : Int) ≤ i
    · rw [if_pos h1] at h
      have e : (i + n).toNat = j := Option.some.inj h
      exact ⟨by rw [seqIndex_neg (by omega) h1, e], by omega, h1, by omega⟩
    · rw [if_neg h1] at h; cases h
theorem yb4 {α : Type} {xs : List α} {i : Int} {v : α} (h : atI xs i = some v) : ∃ j, seqIndex? i xs.length = some j ∧ xs[j]? = some v ∧ j < xs.length ∧ -(xs.length : Int) ≤ i ∧ i < xs.length := by
  unfold atI at h
  cases e : ixN xs.length i with
  | none => rw [e] at h; cases h
  | some j =>
    rw [e] at h
    obtain ⟨h1, h2, h3, h4⟩ := yt3 e
    exact ⟨j, h1, h, h2, h3, h4⟩
noncomputable def yc4 (b : Expr) : Prop := ∀ o i, subscripted b false o i = operate [o, i] (getItem o i)
noncomputable def IxR (X : Cx) (r : R2) : Prop :=
  ∀ (value slice : Expr) (pins : List (Addr × Obj)) (s : Shared) (σ : St) (H : Hp) (x y : V) (v u : Value) (Q : VK), Inv X pins σ H s → RelV x v → RelV y u → r x y H Q →
    subscripted slice false v u = operate [v, u] (getItem v u) → wpAny (model X.prog X.w) X.A (subscriptTail value slice v u) (EP X pins σ Q) X.xe s
noncomputable def MtR (X : Cx) (id : String) (r : V → List V → Hp → VK → Prop) : Prop :=
  ∀ (pins : List (Addr × Obj)) (s : Shared) (σ : St) (H : Hp) (x : V) (xs : List V) (v : Value) (us : List Value) (Q : VK), Inv X pins σ H s → RelV x v → Vals xs us → r x xs H Q →
    wpAny (model X.prog X.w) X.A (call (.builtin id) (v :: us)) (EP X pins σ Q) X.xe s
section
variable {X : Cx} {a b : Expr} {ta tb : TE} {pos : Pos}
theorem IxR.or {r r' : R2} (h : IxR X r) (h' : IxR X r') : IxR X (fun x y H Q => r x y H Q ∨ r' x y H Q) := by
  intro value slice pins s σ H x y v u Q I rx ry q hs
  rcases q with q | q
  · exact h value slice pins s σ H x y v u Q I rx ry q hs
  · exact h' value slice pins s σ H x y v u Q I rx ry q hs
theorem xg8 {r : R2} (hr : IxR X r) (ha : PE X a ta) (hb : PE X b tb) (hs : yc4 b) : PE X (.Subscript a b pos) (tOp r ta tb) := by
  intro pins s σ H Q I h
  exact Subscript_ (binT ha hb I h fun v u s2 x y H2 I2 rx ry q => hr a b pins s2 σ H2 x y v u Q I2 rx ry q (hs _ _))

noncomputable def rIxL (K : PySem.W.Frag) : R2 := fun x y H Q => ∃ p xs i v, x = .ref p ∧ y = .int i ∧ SqL K H p xs ∧ atI xs i = some v ∧ Q v H
noncomputable def rIxT (K : PySem.W.Frag) : R2 := fun x y H Q => ∃ p xs i v, x = .ref p ∧ y = .int i ∧ SqT K H p xs ∧ atI xs i = some v ∧ Q v H
theorem ix_list : IxR X (rIxL X.K) := by
  intro value slice pins s σ H x y v u Q I rx ry h hs
  obtain ⟨p, xs, i, z, rfl, rfl, hq, he, q⟩ := h
  cases rx
  obtain ⟨t, rfl⟩ := ry
  obtain ⟨its, r, pl, hz⟩ := I.list hq
  obtain ⟨j, h1, h2, h3, h4, h5⟩ := yb4 he
  obtain ⟨w, ew, rw'⟩ := r.get h2
  have hl := r.length
  have hn := zy1
  have fin : EP X pins σ Q w s := ⟨z, H, I, rw', q⟩
  by_cases h0 : 0 ≤ i
  · have hj : i.toNat = j := by
      rw [seqIndex_of h0 h5] at h1
      exact Option.some.inj h1
    exact item_listR pl.isList h0 (by omega) (by rw [hj]; simpa using ew) fin hs
  · have hj : (i + (its.toArray.size : Int)).toNat = j := by
      rw [seqIndex_neg (by omega) h4] at h1
      rw [List.size_toArray, ← hl]
      exact Option.some.inj h1
    exact subscriptTail_builtinR (x := w) pl.isList.typeIs slot_list_getitem.lookup
      (wpAny_getItem_list_neg (Q := fun r s' => r = w ∧ EP X pins σ Q r s') pl.isList (by omega) (by rw [List.size_toArray] <;> omega) (by omega) (by rw [hj]; simpa using ew) ⟨rfl, fin⟩) hs
theorem zl7 : IxR X (rIxT X.K) := by
  intro value slice pins s σ H x y v u Q I rx ry h hs
  obtain ⟨p, xs, i, z, rfl, rfl, hq, he, q⟩ := h
  cases rx
  obtain ⟨t, rfl⟩ := ry
  obtain ⟨its, r, pl, hz⟩ := I.tuple hq
  obtain ⟨j, h1, h2, h3, h4, h5⟩ := yb4 he
  obtain ⟨w, ew, rw'⟩ := r.get h2
  have hl := r.length
  have hn := zy1
  have fin : EP X pins σ Q w s := ⟨z, H, I, rw', q⟩
  exact subscriptTail_builtinR (x := w) pl.typeIs slot_tuple_getitem.lookup
    (getItem_tuple (j := j) (Q := fun r s' => r = w ∧ EP X pins σ Q r s') pl (by omega) (by omega) (by rw [List.size_toArray, ← hl]; exact h1) (by simpa using ew) ⟨rfl, fin⟩) hs
theorem wc3 (its : List Value) (n j : Nat) (u : Value) : Obj.mapSeq (·.setIfInBounds j u) { cls := .type "list", data := .seq its.toArray n } = { cls := .type "list", data := .seq (its.set j u).toArray n } := by
  simp [Obj.mapSeq]
theorem Inv.lst {pins : List (Addr × Obj)} {σ : St} {H : Hp} {s : Shared} {p : Addr} {xs : List V} (I : Inv X pins σ H s) (h : H p = some (.lst xs)) :
    ∃ (its : List Value) (n : Nat), Vals xs its ∧ s.heap.get? p = some { cls := .type "list", data := .seq its.toArray n } ∧ xs.length ≤ sizeLine := by
  obtain ⟨z, its, n, r, e⟩ := I.hok p _ h
  exact ⟨its, n, r, e, z⟩
theorem Inv.lstUpd {pins : List (Addr × Obj)} {σ : St} {H : Hp} {s : Shared} {p : Addr} {xs ys : List V} {its its' : List Value} {n n' : Nat} {f : Obj → Obj} (I : Inv X pins σ H s) (h : H p = some (.lst xs))
    (ho : s.heap.get? p = some { cls := .type "list", data := .seq its.toArray n }) (hf : f { cls := .type "list", data := .seq its.toArray n } = { cls := .type "list", data := .seq its'.toArray n' }) (r : Vals ys its') (hz : ys.length ≤ sizeLine) (t : Nat) :
    Inv X pins σ (upd H p (.lst ys)) { s with heap := s.heap.update p f, toks := t } := by
  have e : (s.heap.update p f).get? p = some { cls := .type "list", data := .seq its'.toArray n' } := by
    rw [Heap.get?_update_self f ho (by rw [hf] <;> rfl), hf]
  refine I.write (x := p) (e := p) (by rw [h]; trivial) (.inl rfl) (fun b u hb q => (Heap.get?_update_other _ _ (Ne.symm hb)).trans q) ⟨_, e⟩ ?_
  exact ⟨hz, its', n', r, e⟩
noncomputable def yd8 : V → V → V → Hp → (Hp → Prop) → Prop := fun o i v H Q => ∃ p xs k j, o = .ref p ∧ i = .int k ∧ H p = some (.lst xs) ∧ ixN xs.length k = some j ∧ Q (upd H p (.lst (xs.set j v)))
theorem zm1 : PSet X yd8 := by
  intro pins s σ H o i v ov iv u Q I ro ri rv h
  obtain ⟨p, xs, k, j, rfl, rfl, hp, hj, q⟩ := h
  cases ro
  obtain ⟨t, rfl⟩ := ri
  obtain ⟨its, n, r, ho, hz⟩ := I.lst hp
  obtain ⟨h1, h2, h3, h4⟩ := yt3 hj
  have hl := r.length
  have hn := zy1
  have I' : Inv X pins σ (upd H p (.lst (xs.set j v))) { s with heap := s.heap.update p (Obj.mapSeq (·.setIfInBounds j u)) } :=
    I.lstUpd hp ho (wc3 its n j u) (r.set rv j) (by rw [List.length_set]; exact hz) s.toks
  by_cases h0 : 0 ≤ k
  · have hk : k.toNat = j := by
      rw [seqIndex_of h0 h4] at h1
      exact Option.some.inj h1
    exact PySem.W.ki_setAt ho h0 (by omega) (by rw [List.size_toArray, ← hl]; exact h4) (by rw [hk]; exact ⟨_, I', q⟩)
  · have hk : (k + (its.toArray.size : Int)).toNat = j := by
      rw [seqIndex_neg (by omega) h3] at h1
      rw [List.size_toArray, ← hl]
      exact Option.some.inj h1
    exact PySem.W.ki_setBack ho (by omega) (by rw [List.size_toArray, ← hl]; exact h3) (by omega) (by rw [hk]; exact ⟨_, I', q⟩)

theorem xw1 (lo hi : Option Int) (n : Nat) : (sliceBounds lo hi none n).1 = ((HT.sIx n 0 lo : Nat) : Int) ∧ (sliceBounds lo hi none n).2.1 = ((HT.sIx n n hi : Nat) : Int) ∧ (sliceBounds lo hi none n).2.2 = 1 := by
  refine ⟨?_, ?_, rfl⟩
  · cases lo with
    | none => simp [sliceBounds, HT.sIx]
    | some i =>
      simp only [sliceBounds, HT.sIx, Option.getD_none, show (1 : Int) > 0 by decide, if_true]
      by_cases h : i < 0
      · simp only [h, if_true] <;> omega
      · simp only [h, if_false] <;> omega
  · cases hi with
    | none => simp [sliceBounds, HT.sIx]
    | some i =>
      simp only [sliceBounds, HT.sIx, Option.getD_none, show (1 : Int) > 0 by decide, if_true]
      by_cases h : i < 0
      · simp only [h, if_true] <;> omega
      · simp only [h, if_false] <;> omega
theorem ym1 (its : List Value) (lo hi : Option Int) : slicePick its.toArray lo hi none = ((its.drop (HT.sIx its.length 0 lo)).take (HT.sIx its.length its.length hi - HT.sIx its.length 0 lo)).toArray := by
  obtain ⟨h1, h2, h3⟩ := xw1 lo hi its.toArray.size
  unfold slicePick
  rw [h1, h2, h3]
  simp only [sliceRange_one, pick_run, List.size_toArray] <;> rfl
noncomputable def rSlL (K : PySem.W.Frag) : V → Option Int → Option Int → Hp → VK → Prop := fun x lo hi H Q => ∃ a xs, x = .ref a ∧ SqL K H a xs ∧ ∀ p, H p = none → Q (.ref p) (upd H p (.lst (cutV xs lo hi)))
theorem zg5 : SlR X (rSlL X.K) := by
  intro pins s σ H x v vl vu lo hi sl Q I rx hs pl pu h
  obtain ⟨a, xs, rfl, hx, q⟩ := h
  cases rx
  obtain ⟨its, r, ht, hz⟩ := I.list hx
  have hlen := r.length
  refine ⟨"list", _, slot_list_getitem.lookup, ht.isList.typeIs, ?_⟩
  refine wpAny_getItem_list_slice ht.isList hs pl pu .none (by simp) ?_ (by rw [List.size_toArray] <;> omega)
  rw [ym1, ← hlen]
  refine ⟨.ref s.heap.objs.size, _, I.laid (t' := s.toks) (o := .lst (cutV xs lo hi)) (fun b ob q => Heap.get?_push_of_some _ q) (Nat.le_refl _) ?_, rfl, q _ (I.hok.fresh (Nat.le_refl _))⟩
  exact ⟨Nat.le_trans (yf1 xs lo hi) hz, _, 0, (r.drop (HT.sIx xs.length 0 lo)).take (HT.sIx xs.length xs.length hi - HT.sIx xs.length 0 lo), Heap.get?_push_size _ rfl⟩

noncomputable def yr1 : V → Bool
  | .non => true
  | .bl _ => true
  | .int _ => true
  | .str _ => true
  | _ => false
noncomputable def eqV : V → V → Bool
  | .non, .non => true
  | .bl a, .bl b => a == b
  | .bl a, .int b => (if a then 1 else 0) == b
  | .int a, .bl b => a == (if b then 1 else 0)
  | .int a, .int b => a == b
  | .str a, .str b => a == b
  | _, _ => false
theorem yo7 {A : Around} {s : Shared} {y x : V} {u v : Value} (ry : RelV y u) (rx : RelV x v) (fy : yr1 y = true) (fx : yr1 x = true) : SeqAt.EqAt A s u v (eqV y x) := by
  cases y with
  | non =>
    cases ry
    cases x with
    | non => cases rx; exact SeqAt.EqAt.same _
    | bl b => cases rx; exact SeqAt.EqAt.none_bool b
    | int b => obtain ⟨t, rfl⟩ := rx; exact SeqAt.EqAt.none_int b t
    | str b => obtain ⟨t, rfl⟩ := rx; exact SeqAt.EqAt.none_str b t
    | _ => exact absurd (show false = true from fx) Bool.false_ne_true
  | bl a =>
    cases ry
    cases x with
    | non => cases rx; exact SeqAt.EqAt.bool_none a
    | bl b => cases rx; exact SeqAt.EqAt.bool_bool a b
    | int b => obtain ⟨t, rfl⟩ := rx; exact SeqAt.EqAt.bool_int a b t
    | str b => obtain ⟨t, rfl⟩ := rx; exact SeqAt.EqAt.bool_str a b t
    | _ => exact absurd (show false = true from fx) Bool.false_ne_true
  | int a =>
    obtain ⟨t', rfl⟩ := ry
    cases x with
    | non => cases rx; exact SeqAt.EqAt.int_none a t'
    | bl b => cases rx; exact SeqAt.EqAt.int_bool a t' b
    | int b => obtain ⟨t, rfl⟩ := rx; exact SeqAt.EqAt.int_int a t' b t
    | str b => obtain ⟨t, rfl⟩ := rx; exact SeqAt.EqAt.int_str a t' b t
    | _ => exact absurd (show false = true from fx) Bool.false_ne_true
  | str a =>
    obtain ⟨t', rfl⟩ := ry
    cases x with
    | non => cases rx; exact SeqAt.EqAt.str_none a t'
    | bl b => cases rx; exact SeqAt.EqAt.str_bool a t' b
    | int b => obtain ⟨t, rfl⟩ := rx; exact SeqAt.EqAt.str_int a t' b t
    | str b => obtain ⟨t, rfl⟩ := rx; exact SeqAt.EqAt.str_str a t' b t
    | _ => exact absurd (show false = true from fx) Bool.false_ne_true
  | _ => exact absurd (show false = true from fy) Bool.false_ne_true
noncomputable def eqU (x : V) (u : Value) : Bool := match u with
  | .none => eqV .non x
  | .bool b => eqV (.bl b) x
  | .int i _ => eqV (.int i) x
  | .str z _ => eqV (.str z) x
  | _ => false
theorem xb5 {x y : V} {u : Value} (r : RelV y u) (f : yr1 y = true) : eqU x u = eqV y x := by
  cases y with
  | non => cases r; rfl
  | bl b => cases r; rfl
  | int i => obtain ⟨t, rfl⟩ := r; rfl
  | str z => obtain ⟨t, rfl⟩ := r; rfl
  | _ => exact absurd (show false = true from f) Bool.false_ne_true
theorem zk2 {x : V} : ∀ {xs : List V} {us : List Value}, Vals xs us → xs.all yr1 = true → us.any (eqU x) = xs.any fun y => eqV y x
  | _, _, .nil, _ => rfl
  | y :: xs, u :: us, .cons r t, f => by
    rw [List.all_cons, Bool.and_eq_true] at f
    rw [List.any_cons, List.any_cons, xb5 r f.1, zk2 t f.2]
theorem zp1 {A : Around} {s : Shared} {x : V} {v : Value} (rx : RelV x v) (fx : yr1 x = true) : ∀ {xs : List V} {us : List Value}, Vals xs us → xs.all yr1 = true → ∀ u ∈ us, SeqAt.EqAt A s u v (eqU x u)
  | _, _, .nil, _ => fun u hu => by cases hu
  | y :: xs, u :: us, .cons r t, f => fun u' hu => by
    rw [List.all_cons, Bool.and_eq_true] at f
    rcases List.mem_cons.mp hu with rfl | hu
    · rw [xb5 r f.1]; exact yo7 r rx f.1 fx
    · exact zp1 rx fx t f.2 u' hu
noncomputable def inV (x : V) (xs : List V) : Bool := xs.any fun y => eqV y x
noncomputable def rIn (K : PySem.W.Frag) (neg : Bool) : R2 := fun x y H Q => ∃ p xs, y = .ref p ∧ (SqL K H p xs ∨ SqT K H p xs) ∧ yr1 x = true ∧ xs.all yr1 = true ∧ Q (.bl (if neg then !inV x xs else inV x xs)) H
theorem op_notIn_seq : OpR X (compareOp .NotIn) (rIn X.K true) := by
  intro pins s σ H x y v u Q I rx ry h
  obtain ⟨p, xs, rfl, hq, fx, fs, q⟩ := h
  cases ry
  rcases hq with hq | hq
  · obtain ⟨its, r, pl, hz⟩ := I.list hq
    refine SeqAt.notIn_listAt (eqU x) pl.isList (fun w hw => zp1 rx fx r fs w (by simpa using hw)) ⟨.bl _, H, I, rfl, ?_⟩
    rw [show its.toArray.any (eqU x) = its.any (eqU x) by simp, zk2 r fs]
    exact q
  · obtain ⟨its, r, pl, hz⟩ := I.tuple hq
    refine SeqAt.notIn_tupleAt (eqU x) pl (fun w hw => zp1 rx fx r fs w (by simpa using hw)) ⟨.bl _, H, I, rfl, ?_⟩
    rw [show its.toArray.any (eqU x) = its.any (eqU x) by simp, zk2 r fs]
    exact q
theorem wx1 : OpR X (compareOp .NotIn) (fun x y H Q => ∃ i j, x = .str i ∧ y = .str j ∧ Q (.bl (!(!(Builtin.Str.occurrences j i 0 j.length 1).isEmpty))) H) := by
  intro pins s σ H x y v u Q I rx ry h
  obtain ⟨i, j, rfl, rfl, q⟩ := h
  obtain ⟨t, rfl⟩ := rx
  obtain ⟨t', rfl⟩ := ry
  exact notIn_str ⟨.bl _, H, I, rfl, q⟩

theorem call_len_seq : CallR X (.builtin "len") (fun xs H Q => ∃ p ys, xs = [.ref p] ∧ (SqL X.K H p ys ∨ SqT X.K H p ys) ∧ Q (.int ys.length) H) := by
  intro pins s σ H xs us Q I r h
  obtain ⟨p, ys, rfl, hq, q⟩ := h
  obtain ⟨u, rfl, rx⟩ := zf3 r
  cases rx
  have hn := zy1
  rcases hq with hq | hq
  · obtain ⟨its, r', pl, hz⟩ := I.list hq
    have hlen := r'.length
    exact Calls.call_len_list pl.isList (by simp only [List.size_toArray] <;> omega) ⟨.int ys.length, H, I.tok _, ⟨s.toks + 1, by rw [List.size_toArray, hlen]⟩, q⟩
  · obtain ⟨its, r', pl, hz⟩ := I.tuple hq
    have hlen := r'.length
    exact len_tuple pl (by simp only [List.size_toArray] <;> omega) ⟨.int ys.length, H, I.tok _, ⟨s.toks + 1, by rw [List.size_toArray, hlen]⟩, q⟩
theorem yc2 : CallR X (.builtin "len") (fun xs H Q => ∃ z, xs = [.str z] ∧ z.length ≤ sizeLine ∧ Q (.int z.length) H) := by
  intro pins s σ H xs us Q I r h
  obtain ⟨z, rfl, hz, q⟩ := h
  obtain ⟨u, rfl, t, rfl⟩ := zf3 r
  have hn := zy1
  exact len_str (by omega) ⟨.int z.length, H, I.tok _, ⟨_, rfl⟩, q⟩
theorem CallR.or {f : Value} {r r' : List V → Hp → VK → Prop} (h : CallR X f r) (h' : CallR X f r') : CallR X f (fun xs H Q => r xs H Q ∨ r' xs H Q) := by
  intro pins s σ H xs us Q I rs q
  rcases q with q | q
  · exact h pins s σ H xs us Q I rs q
  · exact h' pins s σ H xs us Q I rs q
theorem xc2 : CallR X (.type "list") (fun xs H Q => ∃ p ys, xs = [.ref p] ∧ (SqL X.K H p ys ∨ SqT X.K H p ys) ∧ ∀ l, H l = none → Q (.ref l) (upd H l (.lst ys))) := by
  intro pins s σ H xs us Q I r h
  obtain ⟨p, ys, rfl, hq, q⟩ := h
  obtain ⟨u, rfl, rx⟩ := zf3 r
  cases rx
  have fin : ∀ (its : List Value), Vals ys its → ys.length ≤ sizeLine → ∀ (h' : Heap) (c' : Nat), (∀ b o', s.heap.get? b = some o' → h'.get? b = some o') →
      h'.get? s.heap.objs.size = some { cls := .type "list", dict := none, data := .seq its.toArray c', slots := #[] } → EP X pins σ Q (.ref s.heap.objs.size) { s with heap := h' } := fun its r' hz h' c' kp e =>
    ⟨.ref s.heap.objs.size, _, I.laid (t' := s.toks) kp (Nat.le_refl _) (show ObjOk X.prog X.w _ h' _ (.lst ys) from ⟨hz, its, c', r', e⟩), rfl, q _ (I.hok.fresh (Nat.le_refl _))⟩
  rcases hq with hq | hq
  · obtain ⟨its, r', pl, hz⟩ := I.list hq
    have hlen := r'.length
    obtain ⟨o, ho, hc, n, hd⟩ := pl.isList
    exact call_list_seq p (.inl rfl) ho hc hd (fun h' c' kp e => fin its r' hz h' c' kp e) (by simp only [List.size_toArray] <;> omega)
  · obtain ⟨its, r', pl, hz⟩ := I.tuple hq
    have hlen := r'.length
    obtain ⟨o, ho, hc, n, hd⟩ := pl
    exact call_list_seq p (.inr rfl) ho hc hd (fun h' c' kp e => fin its r' hz h' c' kp e) (by simp only [List.size_toArray] <;> omega)
theorem yt1 : CallR X (.type "tuple") (fun xs H Q => ∃ p ys, xs = [.ref p] ∧ ((SqL X.K H p ys ∧ ∀ l, H l = none → Q (.ref l) (upd H l (.tup ys))) ∨ (SqT X.K H p ys ∧ Q (.ref p) H))) := by
  intro pins s σ H xs us Q I r h
  obtain ⟨p, ys, rfl, h⟩ := h
  obtain ⟨u, rfl, rx⟩ := zf3 r
  cases rx
  rcases h with ⟨hq, q⟩ | ⟨hq, q⟩
  · obtain ⟨its, r', pl, hz⟩ := I.list hq
    have hlen := r'.length
    refine call_tuple_list pl.isList (fun h' kp => ?_) (by simp only [List.size_toArray] <;> omega)
    have I1 : Inv X pins σ H { s with heap := h' } := I.kept (t' := s.toks) kp
    have I2 : Inv X pins σ (upd H h'.objs.size (.tup ys)) { s with heap := h'.push { cls := .type "tuple", data := .seq its.toArray } } :=
      I1.laid (t' := s.toks) (fun b o e => Heap.get?_push_of_some _ e) (Nat.le_refl _) (show ObjOk X.prog X.w _ _ _ (.tup ys) from ⟨hz, its, r', IsTup.new _ _⟩)
    exact ⟨.ref h'.objs.size, _, I2, rfl, q _ (I1.hok.fresh (Nat.le_refl _))⟩
  · obtain ⟨its, r', pl, hz⟩ := I.tuple hq
    exact call_tuple_same pl ⟨.ref p, H, I, rfl, q⟩

noncomputable def tyV (K : PySem.W.Frag) (T : String) (x : V) (H : Hp) : Prop := match x with
  | .str _ => T = "str"
  | .int _ => T = "int"
  | .ref p => (T = "list" ∧ ∃ xs, SqL K H p xs) ∨ (T = "tuple" ∧ ∃ o, K.lookup p = some o ∧ o.cls = .type "tuple" ∧ o.dict = none) ∨
      (T = "dict" ∧ ((∃ kvs, H p = some (.dK kvs)) ∨ ∃ kvs, H p = some (.dT kvs))) ∨ (T = "set" ∧ ∃ S n, H p = some (.set S n))
  | _ => False
theorem zc6 {pins : List (Addr × Obj)} {σ : St} {H : Hp} {s : Shared} {T : String} {x : V} {v : Value} (I : Inv X pins σ H s) (r : RelV x v) (ty : tyV X.K T x H) :
    s.TypeIs v T ∧ ∀ a, v = .ref a → ∃ ob, s.heap.get? a = some ob ∧ ob.dict = none := by
  cases x with
  | str z =>
    obtain ⟨t, rfl⟩ := r
    cases (show T = "str" from ty)
    exact ⟨typeIs_str s z t, fun _ e => nomatch e⟩
  | int i =>
    obtain ⟨t, rfl⟩ := r
    cases (show T = "int" from ty)
    exact ⟨typeIs_int s i t, fun _ e => nomatch e⟩
  | ref p =>
    cases r
    rcases ty with ⟨rfl, xs, hq⟩ | ⟨rfl, o, hk, hc, hd⟩ | ⟨rfl, hk⟩ | ⟨rfl, S, n, hk⟩
    · obtain ⟨its, _, pl, _⟩ := I.list hq
      refine ⟨pl.isList.typeIs, fun a e => ?_⟩
      cases e
      obtain ⟨o, n, e, c, hd, _⟩ := pl
      exact ⟨o, e, hd⟩
    · refine ⟨⟨o, I.kIn p o hk, hc⟩, fun a e => ?_⟩
      cases e
      exact ⟨o, I.kIn _ o hk, hd⟩
    · have z : ∃ o, s.heap.get? p = some o ∧ o.ExactDict := by
        rcases hk with ⟨kvs, hk⟩ | ⟨kvs, hk⟩
        · obtain ⟨_, _, _, _, o, _, _, e, ex, _⟩ := I.hok p _ hk
          exact ⟨o, e, ex⟩
        · obtain ⟨_, _, _, _, o, _, _, e, ex, _⟩ := I.hok p _ hk
          exact ⟨o, e, ex⟩
      obtain ⟨o, e, ex⟩ := z
      refine ⟨⟨o, e, ex.1⟩, fun a e2 => ?_⟩
      cases e2
      exact ⟨o, e, ex.2.1⟩
    · obtain ⟨o, _, _, _, e, ex, _⟩ := I.hok p _ hk
      refine ⟨⟨o, e, ex.1⟩, fun a e2 => ?_⟩
      cases e2
      exact ⟨o, e, ex.2.1⟩
  | _ => exact False.elim ty
noncomputable def tBM (K : PySem.W.Frag) (T : String) (r : V → List V → Hp → VK → Prop) (to : TE) (t : TA) : TE := fun σ H Q => to σ H fun x H1 => tyV K T x H1 ∧ t σ H1 fun xs H2 => r x xs H2 Q
variable {o e : Expr} {es : List Expr} {to : TE} {t : TA} {name : Str} {apos cpos : Pos} {T id : String} {r : V → List V → Hp → VK → Prop}
theorem yg8 (pa : PlainAttrs T) (slot : Slot T name id) (hty : typeOf (.builtin id) = pure (.type "method_descriptor")) (hm : MtR X id r) (ho : PE X o to) (ha : PA X (e :: es) t)
    (hbase : attributeBase o name X.env (eval o X.env) = eval o X.env := by rfl)
    (hfew : ((backTo cpos (starEach (e :: es) X.env)).all (fun x => !x.1) && (backToKw cpos (keywordEach [] X.env)).all (fun x => x.1.isSome)
      && decide ((e :: es).length + ([] : List Keyword).length + (if ([] : List Keyword).isEmpty then 0 else 1) < 30)) = true := by rfl)
    (hline : (apos.endLine == cpos.line) = true := by rfl) (hs : starEach (e :: es) X.env = (false, eval e X.env) :: starEach es X.env := by rfl) (hplain : (backTo cpos (starEach es X.env)).any (·.1) = false := by rfl) :
    PE X (.Call (.Attribute o name apos) (e :: es) [] cpos) (tBM X.K T r to t) := by
  intro pins s σ H Q I h
  refine wpAny_Call_method_late hbase hfew hline rfl (thn (ho pins s σ H _ I h) fun v s1 ⟨x, H1, I1, r1, ty, q1⟩ => ?_)
  obtain ⟨h1, h2⟩ := zc6 I1 r1 ty
  refine ⟨T, id, pa, slot, hty, h1, h2, ?_⟩
  have hA := ha cpos pins s1 σ H1 _ I1 q1
  rw [hs] at hA ⊢
  refine Calls.callWith_builtin (by show (false || (backTo cpos (starEach es X.env)).any (·.1)) = false; rw [hplain] <;> rfl) (Calls.evalArgs_plain ?_)
  exact thn hA fun us s2 ⟨vs, H2, I2, r2, q2⟩ => hm pins s2 σ H2 x vs v us Q I2 r1 r2 q2
/- xs.append(e), list.index on a module's tuple .. are MtR facts of 06m -/
end
end L2

namespace L2
open PySem PySem.Spec PyProof.Rows

noncomputable def MtM (X : Cx) (id : String) (r : V → List V → Hp → VK → Prop) : Prop :=
  ∀ (pins : List (Addr × Obj)) (s : Shared) (σ : St) (H : Hp) (x : V) (xs : List V) (v : Value) (us : List Value) (Q : VK), Inv X pins σ H s → RelV x v → Vals xs us → r x xs H Q →
    wpAny (model X.prog X.w) X.A (call (.builtin id) (v :: us)) (EP X pins σ Q) X.xe s

theorem Vals.one : ∀ {x : V} {us : List Value}, Vals [x] us → ∃ u, us = [u] ∧ RelV x u
  | _, _, .cons r .nil => ⟨_, rfl, r⟩
theorem Vals.rep {xs : List V} {us : List Value} (h : Vals xs us) : ∀ k : Nat, Vals (List.replicate k xs).flatten (List.replicate k us).flatten
  | 0 => .nil
  | k + 1 => by
    rw [List.replicate_succ, List.replicate_succ, List.flatten_cons, List.flatten_cons]
    exact Vals.append h (Vals.rep h k)
theorem ze1 (its : List Value) : ∀ (k : Nat) (acc : List Value),
    List.foldl (fun x1 x2 => x1 ++ x2) acc.toArray (List.replicate k its.toArray) = (acc ++ (List.replicate k its).flatten).toArray
  | 0, acc => by simp
  | k + 1, acc => by
    have e : acc.toArray ++ its.toArray = (acc ++ its).toArray := by simp
    have e2 : (acc ++ its) ++ (List.replicate k its).flatten = acc ++ (List.replicate (k + 1) its).flatten := by
      rw [List.replicate_succ, List.flatten_cons, List.append_assoc]
    rw [← e2, ← ze1 its k (acc ++ its), ← e, List.replicate_succ, List.foldl_cons]

section
variable {X : Cx} {pins : List (Addr × Obj)} {σ : St} {H : Hp} {s : Shared} {l b : Addr} {xs ys zs : List V}

theorem Inv.lset {its its' : List Value} {n : Nat} {f : Array Value → Array Value} {t' : Nat} (I : Inv X pins σ H s) (hH : H l = some (.lst xs))
    (e : s.heap.get? l = some { cls := .type "list", data := .seq its.toArray n }) (hf : f its.toArray = its'.toArray) (hv : Vals ys its') (hz : ys.length ≤ sizeLine) :
    Inv X pins σ (upd H l (.lst ys)) { s with heap := s.heap.update l (Obj.mapSeq f), toks := t' } := by
  have q := PySem.IsL.update e f
  rw [hf] at q
  refine I.write (x := l) (e := l) (by rw [hH]; exact trivial) (.inl rfl) (fun b' u hb hu => (Heap.get?_update_other s.heap (Obj.mapSeq f) (Ne.symm hb)).trans hu) ⟨_, q⟩ ?_
  exact ⟨hz, its', _, hv, q⟩
theorem Inv.lnew {its : List Value} {t' : Nat} (I : Inv X pins σ H s) (hv : Vals ys its) (hz : ys.length ≤ sizeLine) :
    Inv X pins σ (upd H s.heap.objs.size (.lst ys)) { s with heap := s.heap.push { cls := .type "list", data := .seq its.toArray }, toks := t' } :=
  I.laid (fun _ _ q => Heap.get?_push_of_some _ q) (Nat.le_refl _) ⟨hz, its, 0, hv, Heap.get?_push_size _ rfl⟩
theorem Inv.fresh (I : Inv X pins σ H s) : H s.heap.objs.size = none := I.hok.fresh (Nat.le_refl _)
theorem Inv.lstM (I : Inv X pins σ H s) (hH : H l = some (.lst xs)) : xs.length ≤ sizeLine ∧ ∃ (its : List Value) (n : Nat), Vals xs its ∧ xs.length = its.length ∧ s.heap.get? l = some { cls := .type "list", data := .seq its.toArray n } := by
  obtain ⟨z, its, n, r, e⟩ := I.hok l _ hH
  exact ⟨z, its, n, r, r.length, e⟩

theorem yj4 {n : Nat} (h : n ≤ sizeLine) : Builtin.List.listTooLong n = false := by
  unfold Builtin.List.listTooLong
  exact decide_eq_false (by omega)
end

section
variable {X : Cx}

noncomputable def yj5 : V → List V → Hp → VK → Prop := fun x vs H Q => ∃ l xs y, x = .ref l ∧ vs = [y] ∧ H l = some (.lst xs) ∧ xs.length < sizeLine ∧ Q .non (upd H l (.lst (xs ++ [y])))
theorem xy1 : MtM X "list.append" yj5 := by
  intro pins s σ H x vs v us Q I rx rv h
  obtain ⟨l, xs, y, rfl, rfl, hH, hz, q⟩ := h
  cases rx
  obtain ⟨u, rfl, ru⟩ := rv.one
  obtain ⟨z, its, n, r, hl, e⟩ := I.lstM hH
  refine call_meets F.slot_list_append ⟨_, e, rfl⟩ F.entry_list_append (F.args_list_append_2 _ _) (PySem.list_append l its.toArray n u (by rw [List.size_toArray]; omega)) ⟨e, ?_⟩
  refine ⟨.non, _, I.lset (its' := its ++ [u]) hH e (by simp) (r.append (.cons ru .nil)) ?_, rfl, q⟩
  rw [List.length_append, List.length_singleton]
  omega

noncomputable def rCat : R2 := fun x y H Q => ∃ l b xs zs, x = .ref l ∧ y = .ref b ∧ H l = some (.lst xs) ∧ H b = some (.lst zs) ∧ xs.length + zs.length ≤ sizeLine ∧ ∀ p, H p = none → Q (.ref p) (upd H p (.lst (xs ++ zs)))
theorem op_cat : OpR X (binaryOp .Add) rCat := by
  intro pins s σ H x y v u Q I rx ry h
  obtain ⟨l, b, xs, zs, rfl, rfl, hH, hB, hz, q⟩ := h
  cases rx
  cases ry
  obtain ⟨z, its, n, r, hl, e⟩ := I.lstM hH
  obtain ⟨z2, its2, n2, r2, hl2, e2⟩ := I.lstM hB
  refine PySem.P.add_list e e2 ?_ (by rw [List.size_toArray, List.size_toArray]; omega)
  have ea : its.toArray ++ its2.toArray = (its ++ its2).toArray := by simp
  rw [ea]
  exact ⟨.ref _, _, I.lnew (t' := s.toks) (r.append r2) (by rw [List.length_append]; omega), rfl, q _ I.fresh⟩
noncomputable def rRep : R2 := fun x y H Q => ∃ l k xs, x = .ref l ∧ y = .int k ∧ H l = some (.lst xs) ∧ -(2 ^ 63) ≤ k ∧ k < 2 ^ 63 ∧ xs.length * k.toNat ≤ sizeLine ∧
  ∀ p, H p = none → Q (.ref p) (upd H p (.lst (List.replicate k.toNat xs).flatten))
theorem zi2 {α : Type} (xs : List α) (k : Nat) : (List.replicate k xs).flatten.length = k * xs.length := by
  induction k with
  | zero => simp
  | succ k ih => rw [List.replicate_succ, List.flatten_cons, List.length_append, ih, Nat.succ_mul, Nat.add_comm]
theorem zg7 : OpR X (binaryOp .Mult) rRep := by
  intro pins s σ H x y v u Q I rx ry h
  obtain ⟨l, k, xs, rfl, rfl, hH, h1, h2, hz, q⟩ := h
  cases rx
  obtain ⟨t, rfl⟩ := ry
  obtain ⟨z, its, n, r, hl, e⟩ := I.lstM hH
  have hlen : its.toArray.size * k.toNat ≤ sizeLine := by rw [List.size_toArray, ← hl]; exact hz
  have hcap : ¬ its.toArray.size * k.toNat > (2 ^ 63 - 1) / 8 := by
    have : (sizeLine : Nat) ≤ (2 ^ 63 - 1) / 8 := by decide
    omega
  have hfit : ¬ (!Builtin.List.listFitsIndex k) = true := by
    rw [fitsIndex_both h1 h2]
    exact Bool.false_ne_true
  have hlong : ¬ Builtin.List.listTooLong (its.toArray.size * k.toNat) = true := by
    rw [yj4 hlen]
    exact Bool.false_ne_true
  have hnew : List.foldl (fun x1 x2 => x1 ++ x2) #[] (List.replicate (if its.toArray.isEmpty = true then 0 else k.toNat) its.toArray) = (List.replicate k.toNat its).flatten.toArray := by
    have f0 : ∀ m : Nat, List.foldl (fun x1 x2 => x1 ++ x2) #[] (List.replicate m its.toArray) = (List.replicate m its).flatten.toArray := fun m => by
      have := ze1 its m []
      rw [List.nil_append] at this
      exact this
    rw [f0]
    cases its with
    | nil => simp
    | cons a r' => rw [if_neg (by simp)]
  refine wpAny_binaryOp_repeat_ref (T := "list") (U := "int") (by decide) ⟨_, e, rfl⟩ (fun s' => typeIs_int s' k t) noFill_list_mul F.fills_int_mul F.slot_int_rmul repeat_list F.slot_int_index.lookup
    (call_meets F.slot_int_rmul (typeIs_int s k t) F.entry_int_rmul (F.args_int_rmul_2 _ _) (int___rmul___int_list k t l its.toArray n)
      ⟨e, rfl, ⟨_, e, rfl⟩, call_meets F.slot_list_mul ⟨_, e, rfl⟩ F.entry_list_mul (F.args_list_mul_2 _ _) (AutoListH.list___mul___list_int_3 l its.toArray n k t hfit hcap hlong) ⟨e, ?_⟩⟩)
  rw [hnew]
  exact ⟨.ref _, _, I.lnew (t' := s.toks) (r.rep k.toNat) (by rw [zi2, Nat.mul_comm]; exact hz), rfl, q _ I.fresh⟩

end

section
variable {prog : Program} {w : World} {A : Around} {E : Value → Shared → Prop} {s : Shared}
end

section
variable {X : Cx}
end
end L2

namespace Att
open PySem PySem.W PySem.Calls PyProof.Rows

theorem xe1 {P : Params} {h : Heap} : ∀ (ns : List Int) (vs : List Value), WellAll P h vs (ns.map WData.int) → IntsAre vs ns := by
  intro ns
  induction ns with
  | nil =>
    intro vs w
    rw [List.map_nil] at w
    cases w
    exact .nil
  | cons n ns ih =>
    intro vs w
    rw [List.map_cons] at w
    cases w with
    | cons a b =>
      cases a
      exact .cons _ _ (ih _ b)

theorem wj3 {l : OpenLaw} {n : Nat} (hn : l.most = some n) {P : Params} {h : Heap} {args : List WData} {vals : List Value}
    (hpre : l.row.toRowW.claim.pre args = true) (hwl : WellAll P h vals args) :
    ∃ a vs ns, vals = [Value.ref a] ∧ args = [WData.list (ns.map WData.int)] ∧ h.get? a = some { cls := .type "list", data := .seq vs.toArray } ∧ IntsAre vs ns ∧ ns.length ≤ n := by
  have hsh : WShape.hasAll [] args [.list .int] = true := (pre_splitW hpre).1
  have hc : l.pre.holds [] { args := args } = true := (pre_splitW hpre).2
  obtain ⟨d, r, rfl, h1, h2⟩ := hasAllW_cons hsh
  obtain rfl := hasAllW_nil h2
  obtain ⟨xs, rfl, h3⟩ := hasW_list h1
  obtain ⟨ns, rfl⟩ := items_int h3
  have hlen : ns.length ≤ n := by
    unfold OpenLaw.pre at hc
    have h4 : (WTm.not (.lt (.lit (.int (n : Int))) (.len (.arg 0)))).holds [] { args := [.list (ns.map .int)] } = true := by
      have h4 := (holds_andW hc).1
      rw [hn] at h4
      exact h4
    have h5 := condW_of h4 (w_not (w_lt w_lit (w_len_list (w_arg rfl))))
    rw [List.length_map] at h5
    refine Nat.le_of_not_lt fun q => ?_
    have q' : (n : Int) < ((ns.length : Nat) : Int) := by omega
    first
      | (rw [decide_eq_true q'] at h5; exact absurd h5 (by decide))
      | (simp at h5; omega)
  cases hwl with
  | cons w1 w2 =>
    cases w2
    cases w1 with
    | list ho hall => exact ⟨_, _, ns, rfl, rfl, ho, xe1 ns _ hall, hlen⟩

theorem yo3 (l : OpenLaw) (args : List WData) : l.row.toRowW.claim.post args (.bool true) args = true :=
  postW_of (r := l.row.toRowW) (X := (true == true))
    (show WShape.has [] (.bool true) .bool = true by first | rfl | decide | simp [WShape.has, WShape.arms, WShape.armsAll])
    (show (WTm.eq .res (.lit (.bool true))).value [] { args := args, res := some (.bool true), after := args } = some (.bool (true == true)) from w_eq_bool (w_res rfl) w_lit) rfl

theorem attach_call {l : OpenLaw} {n : Nat} {q : Program} {loose : List Str} {XP : (Str → Option Value) → Heap → Prop} {YP : World → Heap → Prop} {d : DefRec}
    (hn : l.most = some n) (hdf : d.params.defaults = [])
    (call : ∀ (w : World) (s₀ s₁ : Shared) (mg mb : Str → Option Value) (fa : Addr) (o : Obj) (pm cd doc : Value) (a : Addr) (vs : List Value) (ns : List Int),
      Ground q loose [] XP w s₀ mg mb s₁.heap → YP w s₁.heap →
      s₁.heap.get? fa = some o → o.data = .func (docDef d.name d.params d.body d.scope pm cd doc) → s₁.heap.CodeRec cd d.name → mg d.name = some (.ref fa) →
      s₁.heap.get? a = some { cls := .type "list", data := .seq vs.toArray } → IntsAre vs ns → ns.length ≤ n → s₁.gens = #[] →
      codeAny (model l.prog w) callerA (.call (.ref fa) ⟨[.ref a], []⟩) (fun r s' => r = .ok (.ret (.bool true)) ∧ OldK s₁.heap s'.heap ∧ s'.os = s₁.os ∧ AllBare s'.gens) s₁) :
    WalkO q loose XP YP l.row.toRowW d [] (fun f vs => PySem.call f vs) := by
  intro w s₀ s₁ mg mb G Y fa o pm cd doc dV kV ho hd hcd hD hmg hg args vals as hpre hlay hrd hwl hlo
  obtain rfl : dV = .none := Dflts.none hD hdf
  obtain rfl : kV = .none := Dflts.noKw hD
  obtain ⟨a, vs, ns, rfl, rfl, hobj, hints, hlen⟩ := wj3 hn hpre hwl
  refine enter_call (codeAny_mono (call w s₀ s₁ mg mb fa o pm cd doc a vs ns G Y ho (fd_plain hd) hcd hmg hobj hints hlen hg) fun r s' hq => ?_)
  obtain ⟨rfl, h2, h3, h4⟩ := hq
  exact ⟨.inl ⟨.bool true, .bool true, [], rfl, fun _ => rfl, .bool true, yo3 l _, fun _ => ⟨List.Pairwise.nil, fun _ hm => (nomatch hm)⟩⟩, h2, h3, h4⟩

section
variable {prog : Program} {w : World} {A : Around} {E : Value → Shared → Prop} {s : Shared} {K : Frag}

noncomputable def ledger (h : Heap) (L d : Addr) : List (Addr × Obj) := (List.range h.objs.size).filterMap fun a => if a = L ∨ a = d then none else (h.get? a).map fun o => (a, o)
end
end Att

namespace L2
open PySem PySem.Spec PyProof.Rows

theorem xv1 : ∀ {vs : List Value} {ns : List Int}, IntsAre vs ns → Vals (ns.map V.int) vs
  | _, _, .nil => .nil
  | _, _, .cons n t h => .cons ⟨t, rfl⟩ (xv1 h)

noncomputable def Only (H : Hp) : Prop := ∀ b, H b = none ∨ ∃ o xs, H b = some (.frz o (.lst xs))

theorem zk4 {P : Program} {w : World} {K : PySem.W.Frag} {mg mb : Str → Option Value} {CX : CXT} {k : Nat} {fa a : Addr} {fd : FuncData} {x : Str} {sp : Sp} {s₁ : Shared} {vs : List Value} {ns : List Int}
    (KX : K.In s₁.heap) (hns : s₁.heap.Ns mainGlobals mg) (hb : s₁.heap.Ns builtinsNs mb) (hbb : ∀ x : Str, x ≠ "__name__" → mb x = bootBuiltins x) (hlim : s₁.heap.NoLimit) (hg : s₁.gens = #[])
    (ha : s₁.heap.get? a = some { cls := .type "list", data := .seq vs.toArray }) (hi : IntsAre vs ns) (hl : ns.length ≤ sizeLine) (hr : Room k callerA)
    (F : ∀ base : Heap, K.In base → base.Ns mainGlobals mg → FnOk P w K mg base CX k fa fd [x] sp) (hbind : ∀ (s : Shared) (u : Value), BindsTo s fd ⟨[u], []⟩ [(x, u)])
    (hsp : ∀ H : Hp, Only H → SqL K H a (ns.map V.int) → sp [.ref a] H (fun v _ => v = .bl true) fun _ _ _ => False)
    (hCX : ∀ H e s', CX [] H s₁ (fun _ _ _ => False) e s' → False) :
    codeAny (model P w) callerA (.call (.ref fa) ⟨[.ref a], []⟩) (fun r s' => r = .ok (.ret (.bool true)) ∧ OldK s₁.heap s'.heap ∧ s'.os = s₁.os ∧ AllBare s'.gens) s₁ := by
  have rv := xv1 hi
  have lenV := hi.length
  -- from an abstract heap in which nothing but the script may be tracked
  have core : ∀ H : Hp, Only H → SqL K H a (ns.map V.int) → HOk P w H s₁.heap → (∀ b, H b ≠ none → b = a) → (H a ≠ none → K.lookup a = none) →
      codeAny (model P w) callerA (.call (.ref fa) ⟨[.ref a], []⟩) (fun r s' => r = .ok (.ret (.bool true)) ∧ OldK s₁.heap s'.heap ∧ s'.os = s₁.os ∧ AllBare s'.gens) s₁ := by
    intro H hO hS hok hA hK
    have base_of : ∀ {b : Addr} {o : Obj}, s₁.heap.get? b = some o → H b = none → (hidT s₁.heap H).get? b = some o := fun e n => yn4 e n
    have noA : ∀ {b : Addr} {o : Obj} {es : Array DictEntry} {ep : Nat}, s₁.heap.get? b = some o → o.data = .dict es ep → H b = none := fun {b o es ep} e d => by
      cases q : H b with
      | none => rfl
      | some u =>
        have e' : b = a := hA b (by rw [q]; simp)
        subst e'
        rw [ha] at e; cases e
        have d' : Data.seq vs.toArray _ = Data.dict es ep := d
        cases d'
    have nsK : ∀ {b : Addr} {m : Str → Option Value}, s₁.heap.Ns b m → (hidT s₁.heap H).Ns b m := fun {b m} ⟨o, es, ep, e, d, r⟩ => ⟨o, es, ep, base_of e (noA e d), d, r⟩
    have hKb : K.In (hidT s₁.heap H) := fun b o e => base_of (KX b o e) (by
      cases q : H b with
      | none => rfl
      | some u =>
        have e' : b = a := hA b (by rw [q]; simp)
        subst e'
        rw [hK (by rw [q]; simp)] at e; cases e)
    have hM : Mod K mg (hidT s₁.heap H) := ⟨hKb, nsK hns, ⟨mb, nsK hb, hbb⟩, let ⟨mc, h1, h2⟩ := hlim; ⟨mc, nsK h1, h2⟩⟩
    have e0 : Env0 P w K mg (hidT s₁.heap H) callerA [] s₁ H := ⟨rfl, hM, fun b o e => yp5 e, Nat.le_of_eq (xu3 _ _), trivial, fun b hb => absurd (show b ∈ ([] : List Addr) from hb) (by simp), hok, .of_eq hg⟩
    refine codeAny_mono ((F _ hKb (nsK hns)).run callerA [] s₁ H ⟨[.ref a], []⟩ [.ref a] [.ref a] _ _ hr e0 (hbind s₁ (.ref a)) (.cons rfl .nil) (hsp H hO hS)) fun r s' h => ?_
    cases r with
    | error e => exact (hCX H e s' h).elim
    | ok fl =>
      cases fl with
      | next => exact False.elim h
      | brk => exact False.elim h
      | cont => exact False.elim h
      | ret u =>
        obtain ⟨v, H', os, bare, un, hok', r', q⟩ := h
        have q' : v = .bl true := q
        subst q'
        obtain rfl : u = Value.bool true := r'
        refine ⟨rfl, OldK.of_keep fun b o e => ?_, os, bare⟩
        cases q : H b with
        | none => exact un.keep b o e q (by intro z; exact absurd (show b ∈ ([] : List Addr) from z) (by simp)) (by simp)
        | some u =>
          rcases hO b with z | ⟨ob, xs, z⟩
          · rw [q] at z; cases z
          · have z2 := un.frzs b ob _ z
            obtain ⟨e1, _⟩ := hok b _ z
            obtain ⟨e2, _⟩ := hok' b _ z2
            rw [e] at e1; cases e1
            exact e2
  cases hk : K.lookup a with
  | some o =>
    -- the script is one of the module's own objects
    have e := KX a o hk
    rw [ha] at e
    cases e
    refine core (fun _ => none) (fun _ => .inl rfl) (.inr ⟨_, vs.toArray, _, hk, rfl, rfl, rfl, by rw [List.size_toArray, lenV]; exact hl, by simpa using rv⟩) (fun b u z => by have z' : (none : Option HO) = some u := z; cases z') (fun b z => absurd rfl z) fun z => absurd rfl z
  | none =>
    refine core (fun b => if b = a then some (.frz { cls := .type "list", data := .seq vs.toArray } (.lst (ns.map V.int))) else none) (fun b => ?_) (.inl (.inr ⟨{ cls := .type "list", data := .seq vs.toArray }, if_pos rfl⟩)) (fun b u z => ?_) (fun b z => ?_) fun _ => hk
    · by_cases hb : b = a
      · exact .inr ⟨_, _, if_pos hb⟩
      · exact .inl (if_neg hb)
    · by_cases hb : b = a
      · have z' := (if_pos hb).symm.trans z
        cases z'
        subst hb
        exact ⟨ha, by rw [List.length_map]; exact hl, vs, _, rv, ha⟩
      · have z' := (if_neg hb).symm.trans z
        cases z'
    · by_cases hb : b = a
      · exact hb
      · exact absurd (if_neg hb) z
end L2

namespace L2
open PySem PySem.Spec PyProof.Rows

noncomputable abbrev KOf {K : PySem.W.Frag} {h : Heap} (_ : K.In h) : PySem.W.Frag := K

theorem walk_of {l : PySem.W.OpenLaw} {n k : Nat} {q : Program} {loose : List Str} {XP : (Str → Option Value) → Heap → Prop} {YP : World → Heap → Prop} {d : DefRec} {K : Params → PySem.W.Frag} {CX : World → CXT} {sp : World → Sp} {x : Str}
    (hn : l.most = some n) (hn2 : n ≤ sizeLine) (hdf : d.params.defaults = []) (hr : Room k callerA)
    (hY : ∀ (w : World) (h : Heap), YP w h → (K w.params).In h)
    (F : ∀ (w : World) (mg : Str → Option Value) (fa : Addr) (h : Heap), (K w.params).In h → h.Ns mainGlobals mg → mg d.name = some (.ref fa) →
      ∃ fd : FuncData, (∀ (s : Shared) (u : Value), BindsTo s fd ⟨[u], []⟩ [(x, u)]) ∧
        ∀ base : Heap, (K w.params).In base → base.Ns mainGlobals mg → FnOk l.prog w (K w.params) mg base (CX w) k fa fd [x] (sp w))
    (hsp : ∀ (w : World) (H : Hp) (a : Addr) (ns : List Int), ns.length ≤ n → Only H → SqL (K w.params) H a (ns.map V.int) → sp w [.ref a] H (fun v _ => v = .bl true) fun _ _ _ => False)
    (hCX : ∀ (w : World) (H : Hp) (s : Shared) (e : Value) (s' : Shared), CX w [] H s (fun _ _ _ => False) e s' → False) :
    PySem.W.WalkO q loose XP YP l.row.toRowW d [] (fun f vs => PySem.call f vs) := by
  refine Att.attach_call hn hdf fun w s₀ s₁ mg mb fa o pm cd doc a vs ns G Y ho hd hcd hmg hobj hints hlen hg => ?_
  have KX := hY w _ Y
  obtain ⟨fd, hb, hF⟩ := F w mg fa _ KX G.T.g hmg
  exact zk4 KX G.T.g G.T.b G.T.builtins G.T.nolimit hg hobj hints (Nat.le_trans hlen hn2) hr hF hb (fun H hO hS => hsp w H a ns hlen hO hS) fun H e s' => hCX w H s₁ e s'
end L2

/- THE LAST THEOREM (shape; LID, My.* are yours):
   My.Adr: a structure of the addresses that your layer names (classes, functions); My.Txt K t: a structure (Prop) of the equations over K;
   My.txt_mk : {K} {implicit addresses ..} (e1 : nsIn K mainGlobals "law" = some (some (.ref f))) (e2 : K.lookup f = some ⟨oc, od, .func (fnOf "law" "law" params body scope dV kV doc pm an cdv ct), sl⟩) (e3 : codeIn K cdv "law" = true) .. : ∃ t, My.Txt K t

theorem PySem.Challenge.cw_LID_holds : PySem.Challenge.rw_LID.Holds := by
  w_on; o_law; k_head; (case hw => w_witness2)
  k_fill
  refine L2.walk_of (l := PySem.Challenge.rw_LID) (n := 63) (k := 40) (x := "script") (CX := fun w => ..) (sp := fun _ => My.sp_law) rfl (by decide) rfl ⟨rfl, by decide, by decide⟩ (fun w h Y => PySem.W.kIn_of Y) ?F ?S ?C
  case F =>
    intro w mg fa h KX G hmg
    have T : ∃ t, My.Txt (L2.KOf KX) t := by
      dsimp only [L2.KOf]                          -- K must stand as «<heap const> w.params» for k_is
      refine' My.txt_mk ?e1 ?e2 ?e3 ..
      (case e1 => PySem.W.k_is)                    -- in the order: a name -> its address -> its object -> its parts
      (case e2 => PySem.W.k_is)
      ..
    obtain ⟨t, T⟩ := T
    have e0 := hmg.symm.trans (PySem.W.mg_of KX G T.law)
    cases e0                                       -- fa is the law's own address
    exact ⟨_, fun s u => .of_eq rfl, fun base kb nb => My.law_fn T kb nb⟩     -- if «.of_eq rfl» comes too early: refine' ⟨_, ?b, fun base kb nb => My.law_fn T kb nb⟩; exact fun s u => .of_eq rfl
  case S => exact fun w H a ns hl hO hS => ..
  case C => exact ..
(the tactic k_is has no namespace: write k_is) -/

namespace L2
open PySem PySem.Spec PyProof.Rows

noncomputable def xp0 (s : Stmt) : Arguments := match s with
  | .FunctionDef _ a _ _ _ _ _ _ _ _ => a
  | _ => { posonlyargs := [], args := [], vararg := none, kwonlyargs := [], kw_defaults := [], kwarg := none, defaults := [] }
noncomputable def yc0 (s : Stmt) : List Stmt := match s with
  | .FunctionDef _ _ b _ _ _ _ _ _ _ => b
  | _ => []
noncomputable def za0 (s : Stmt) : Scope := match s with
  | .FunctionDef _ _ _ _ _ _ sc _ _ _ => sc
  | _ => { kind := .function, names := [], isGenerator := false, isCoroutine := false }

noncomputable abbrev CX0 : CXT := fun _ _ _ _ _ _ => False
noncomputable abbrev E0 : XK := fun _ _ _ => False
theorem xh8 {X : Cx} : wd2 CX0 X E0 := fun _ _ _ _ _ _ _ h => h.elim

structure Fun (K : PySem.W.Frag) (x qual : Str) (st : Stmt) (f : Addr) (fd : FuncData) : Prop where
  ex : ∃ (oc : Value) (od : Option Addr) (kV doc pm : Value) (an : Option Addr) (cdv ct : Value) (osl : Array (Option Value)),
    fd = PySem.W.fnOf x qual (xp0 st) (yc0 st) (za0 st) .none kV doc pm an cdv ct ∧ K.lookup f = some ⟨oc, od, .func fd, osl⟩ ∧ PySem.W.codeIn K cdv qual = true
  kp : PySem.W.keepIn K (.ref f) = true
section
variable {P : Program} {w : World} {K : PySem.W.Frag} {mg : Str → Option Value} {base : Heap}
theorem Fun.ok {x qual : Str} {st : Stmt} {f : Addr} {fd : FuncData} {N ps : List Str} {k : Nat} {sp : Sp} (F : Fun K x qual st f fd) (S : FnScope N ps (za0 st)) (len : ∀ vs H Q E, sp vs H Q E → vs.length = ps.length)
    (hbody : ∀ (cdv : Value) (A : Around) (outer : List Env) (s : Shared) (H : Hp) (vs : List V) (Q : VK) (E : XK), Room k (A.deeper (envOfC qual (za0 st) s.heap.objs.size f cdv)) → sp vs H Q E →
      ∃ t, PSs (cxOf CX0 P w K mg base N qual (za0 st) f cdv A outer s H E).nox (yc0 st) t ∧ t { nx := fun _ H' => Q .non H', rt := Q } (start N vs) H) : FnOk P w K mg base CX0 (k + 1) f fd ps sp := by
  obtain ⟨oc, od, kV, doc, pm, an, cdv, ct, osl, rfl, lk, hcd⟩ := F.ex
  refine zn7 lk hcd S len fun A outer s H vs Q E hr hsp => ?_
  obtain ⟨t, h, q⟩ := hbody cdv A outer s H vs Q E hr hsp
  exact ⟨t, h.nox, q⟩
theorem Fun.binds {x qual : Str} {st : Stmt} {f : Addr} {fd : FuncData} {ps : List Str} (F : Fun K x qual st f fd)
    (h : ∀ (kV doc pm : Value) (an : Option Addr) (cdv ct : Value) (us : List Value), us.length = ps.length → bindArgs (PySem.W.fnOf x qual (xp0 st) (yc0 st) (za0 st) .none kV doc pm an cdv ct) ⟨us, []⟩ = pure (ps.zip us)) : Binds K fd ps [] := by
  obtain ⟨oc, od, kV, doc, pm, an, cdv, ct, osl, rfl, lk, hcd⟩ := F.ex
  exact .all (h kV doc pm an cdv ct)
theorem xa5 {x qual : Str} {st : Stmt} {f : Addr} {oc : Value} {od an : Option Addr} {osl : Array (Option Value)} {kV doc pm cdv ct : Value} (l : K.lookup f = some ⟨oc, od, .func (PySem.W.fnOf x qual (xp0 st) (yc0 st) (za0 st) .none kV doc pm an cdv ct), osl⟩)
    (c : PySem.W.codeIn K cdv qual = true) (k : PySem.W.keepIn K (.ref f) = true) : Fun K x qual st f (PySem.W.fnOf x qual (xp0 st) (yc0 st) (za0 st) .none kV doc pm an cdv ct) := ⟨⟨oc, od, kV, doc, pm, an, cdv, ct, osl, rfl, l, c⟩, k⟩
end
section
variable {X : Cx}
theorem pv (i : Nat) {x : Str} {pos : Pos} (hN : X.N[i]? = some x := by rfl) (hv : Vis X.env.scope x := by first | exact Or.inl rfl | exact Or.inr (Or.inl rfl) | exact Or.inr (Or.inr rfl)) (hd : (x == ("__debug__" : Str)) = false := by decide)
    (hcd : (x == ("__classdict__" : Str)) = false := by decide) : PE X (.Name x pos) (tVar i) := zv4 hN hv hd hcd
end

end L2

namespace L2
open PySem PySem.Spec PyProof.Rows

section
variable {κ : Type} [DecidableEq κ]
noncomputable def valV (kvs : List (κ × V)) (k : κ) : Option V := (kvs.find? fun kv => decide (kv.1 = k)).map (·.2)
noncomputable def putK (kvs : List (κ × V)) (k : κ) (v : V) : List (κ × V) :=
  if (kvs.any fun kv => decide (kv.1 = k)) = true then kvs.map (fun kv => if kv.1 = k then (kv.1, v) else kv) else kvs ++ [(k, v)]
theorem xl2 {p : κ × V} {r : List (κ × V)} {k : κ} (e : p.1 = k) : valV (p :: r) k = some p.2 := by simp [valV, List.find?_cons, e]
theorem yl2 {p : κ × V} {r : List (κ × V)} {k : κ} (e : ¬ p.1 = k) : valV (p :: r) k = valV r k := by simp [valV, List.find?_cons, e]
theorem zl2 (k : κ) : ∀ kvs : List (κ × V), (kvs.any fun kv => decide (kv.1 = k)) = (valV kvs k).isSome
  | [] => rfl
  | p :: r => by
    rw [List.any_cons]
    by_cases e : p.1 = k
    · simp only [xl2 e, decide_eq_true e, Bool.true_or, Option.isSome_some]
    · rw [yl2 e, decide_eq_false e, Bool.false_or]; exact zl2 k r
theorem yd1 (kvs : List (κ × V)) (k : κ) (v : V) : (putK kvs k v).length ≤ kvs.length + 1 := by
  unfold putK
  split
  · rw [List.length_map]; omega
  · rw [List.length_append, List.length_cons, List.length_nil]; omega
theorem RelO.isSome_eq {o : Option V} {u : Option Value} (r : RelO o u) : o.isSome = u.isSome := by
  cases o with
  | none => cases u with
    | none => rfl
    | some _ => exact (show False from r).elim
  | some _ => cases u with
    | none => exact (show False from r).elim
    | some _ => rfl
theorem KV.any {kvs : List (κ × V)} {vs : List (κ × Value)} (r : KV kvs vs) (k : κ) : (kvs.any fun kv => decide (kv.1 = k)) = vs.any fun kv => decide (kv.1 = k) := by
  unfold KV at r
  induction r with
  | nil => rfl
  | cons h t ih => rw [List.any_cons, List.any_cons, ih, h.1]
theorem KV.repl {kvs : List (κ × V)} {vs : List (κ × Value)} (r : KV kvs vs) (k : κ) {y : V} {u : Value} (ry : RelV y u) :
    KV (kvs.map fun kv => if kv.1 = k then (kv.1, y) else kv) (vs.map fun kv => if kv.1 = k then (kv.1, u) else kv) := by
  unfold KV at r ⊢
  induction r with
  | nil => exact .nil
  | @cons p q ps qs h t ih =>
    rw [List.map_cons, List.map_cons]
    refine .cons ?_ ih
    obtain ⟨h1, h2⟩ := h
    by_cases e : p.1 = k
    · rw [if_pos e, if_pos (h1.symm.trans e)]; exact ⟨h1, ry⟩
    · rw [if_neg e, if_neg (fun z => e (h1.trans z))]; exact ⟨h1, h2⟩
theorem KV.put {kvs : List (κ × V)} {vs : List (κ × Value)} (r : KV kvs vs) (k : κ) {y : V} {u : Value} (ry : RelV y u) : KV (putK kvs k y) (stored vs k u) := by
  unfold putK stored
  rw [r.any k]
  by_cases e : (vs.any fun kv => decide (kv.1 = k)) = true
  · rw [if_pos e, if_pos e]; exact r.repl k ry
  · rw [if_neg e, if_neg e]; exact Paired.snoc r ⟨rfl, ry⟩
theorem KV.length {kvs : List (κ × V)} {vs : List (κ × Value)} (r : KV kvs vs) : kvs.length = vs.length := Paired.length r
end


theorem yl7 {P : Program} {w : World} {k : Key} {u : Value} (r : RelV (kV k) u) : (zi0 P w).is k u = true := by
  cases k with
  | inl i => obtain ⟨t, e⟩ := (show ∃ t, u = Value.int i t from r); subst e; exact xi2 P w i t
  | inr x => obtain ⟨t, e⟩ := (show ∃ t, u = Value.str x t from r); subst e; exact wh2 P w x t
theorem zz1 {P : Program} {w : World} : ∀ {ks : List Key} {us : List Value}, Vals (ks.map kV) us → ItemsAre (zi0 P w) ks us
  | [], _, r => by rw [List.map_nil] at r; cases r; exact .nil
  | k :: ks, _, r => by
    rw [List.map_cons] at r
    cases r with
    | cons h t => exact .cons (yl7 h) (zz1 t)

noncomputable abbrev KT (H : Hp) : List (List Key × V) → List (List Key × Addr × Value) → Prop := Paired fun p q => p.1 = q.1 ∧ H q.2.1 = some (.tup (p.1.map kV)) ∧ RelV p.2 q.2.2
theorem KT.val {H : Hp} {kvs : List (List Key × V)} {xs : List (List Key × Addr × Value)} (r : KT H kvs xs) (k : List Key) : RelO (valV kvs k) ((atKey xs k).map (·.2)) := by
  induction r with
  | nil => exact True.intro
  | @cons p q ps qs h t ih =>
    obtain ⟨h1, _, h2⟩ := h
    by_cases e : p.1 = k
    · have e' : q.1 = k := h1.symm.trans e
      have b : atKey (q :: qs) k = some q.2 := by simp [atKey, List.find?_cons, e']
      rw [xl2 e, b]; exact h2
    · have e' : ¬ q.1 = k := fun z => e (h1.trans z)
      have b : atKey (q :: qs) k = atKey qs k := by simp [atKey, List.find?_cons, e']
      rw [yl2 e, b]; exact ih
theorem KT.repl {H : Hp} {kvs : List (List Key × V)} {xs : List (List Key × Addr × Value)} (r : KT H kvs xs) (k : List Key) {y : V} {u : Value} (ry : RelV y u) :
    KT H (kvs.map fun kv => if kv.1 = k then (kv.1, y) else kv) (xs.map (putAt k u)) := by
  induction r with
  | nil => exact .nil
  | @cons p q ps qs h t ih =>
    rw [List.map_cons, List.map_cons]
    refine .cons ?_ ih
    obtain ⟨h1, h2, h3⟩ := h
    unfold putAt
    by_cases e : p.1 = k
    · rw [if_pos e, if_pos (h1.symm.trans e)]; exact ⟨h1, h2, ry⟩
    · rw [if_neg e, if_neg (fun z => e (h1.trans z))]; exact ⟨h1, h2, h3⟩
theorem KT.put {H : Hp} {kvs : List (List Key × V)} {xs : List (List Key × Addr × Value)} (r : KT H kvs xs) (k : List Key) {b : Addr} {y : V} {u : Value} (hb : H b = some (.tup (k.map kV))) (ry : RelV y u) :
    KT H (putK kvs k y) (storedH xs k b u) := by
  have e : (kvs.any fun kv => decide (kv.1 = k)) = (atKey xs k).isSome := by
    rw [zl2, (r.val k).isSome_eq, Option.isSome_map]
  unfold putK storedH
  rw [e]
  by_cases q : (atKey xs k).isSome = true
  · rw [if_pos q, if_pos q]; exact r.repl k ry
  · rw [if_neg q, if_neg q]; exact Paired.snoc r ⟨rfl, hb, ry⟩
theorem KT.keeps {H H' : Hp} {kvs : List (List Key × V)} {xs : List (List Key × Addr × Value)} (r : KT H kvs xs) (ht : ∀ b ys, H b = some (.tup ys) → H' b = some (.tup ys)) : KT H' kvs xs :=
  Paired.mapP r fun _ _ z => ⟨z.1, ht _ _ z.2.1, z.2.2⟩

section
variable {P : Program} {w : World} {H : Hp} {h : Heap} {a : Addr}
theorem za7 {u : HO} (ok : HOk P w H h) (e : Rd H a u) : ObjOk P w H h a u := e.ok ok
theorem wk8 {kvs : List (Key × V)} (ok : HOk P w H h) (e : Rd H a (.dK kvs)) : kvs.length ≤ sizeLine ∧ (a == sysModules) = false ∧ ∃ vs, KV kvs vs ∧ h.DictOf (zi0 P w) a vs :=
  show ObjOk P w H h a (.dK kvs) from za7 ok e
theorem xl8 {kvs : List (Key × V)} (ok : HOk P w H h) (e : H a = some (.dK kvs)) : kvs.length ≤ sizeLine ∧ (a == sysModules) = false ∧ ∃ vs, KV kvs vs ∧ h.DictOf (zi0 P w) a vs := wk8 ok (.inl e)
theorem zy4 {ks : List Key} (ok : HOk P w H h) (e : H a = some (.tup (ks.map kV))) : (tupleKind (zi0 P w)).is h ks a := by
  obtain ⟨_, its, r, o, h1, h2, n, h3⟩ := (show ObjOk P w H h a (.tup (ks.map kV)) from ok a _ e)
  exact ⟨o, its.toArray, n, h1, h2, h3, by simpa using zz1 r⟩
theorem yk8 {kvs : List (List Key × V)} (ok : HOk P w H h) (e : Rd H a (.dT kvs)) : kvs.length ≤ sizeLine ∧ (a == sysModules) = false ∧
    ∃ xs, KT H kvs xs ∧ h.DictOfH (tupleKind (zi0 P w)) a xs := by
  obtain ⟨z, y, xs, r, o, es, ep, h1, h2, h3, h4, h5⟩ := (show ObjOk P w H h a (.dT kvs) from za7 ok e)
  refine ⟨z, y, xs, r, o, es, ep, h1, h2, h3, h4, fun x hx => ?_, h5⟩
  have all : ∀ {l : List (List Key × V)} {m : List (List Key × Addr × Value)}, KT H l m → ∀ x ∈ m, (tupleKind (zi0 P w)).is h x.1 x.2.1 := by
    intro l m q
    induction q with
    | nil => intro x hx; exact nomatch hx
    | @cons p q ps qs hq t ih =>
      intro x hx
      rcases List.mem_cons.mp hx with e | hx
      · subst e
        exact zy4 ok (by rw [← hq.1]; exact hq.2.1)
      · exact ih x hx
  exact all r x hx
theorem zk8 {kvs : List (List Key × V)} (ok : HOk P w H h) (e : H a = some (.dT kvs)) : kvs.length ≤ sizeLine ∧ (a == sysModules) = false ∧
    ∃ xs, KT H kvs xs ∧ h.DictOfH (tupleKind (zi0 P w)) a xs := yk8 ok (.inl e)
end

noncomputable def DPut (H : Hp) (a : Addr) (y v : V) (H' : Hp) : Prop :=
  (∃ kvs k, H a = some (.dK kvs) ∧ y = kV k ∧ kvs.length < sizeLine ∧ H' = upd H a (.dK (putK kvs k v))) ∨
  ∃ kvs k b, H a = some (.dT kvs) ∧ y = .ref b ∧ H b = some (.tup (k.map kV)) ∧ kvs.length < sizeLine ∧ H' = upd H a (.dT (putK kvs k v))
theorem DPut.t {H : Hp} {a b : Addr} {kvs : List (List Key × V)} {k : List Key} {v : V} (e : H a = some (.dT kvs)) (eb : H b = some (.tup (k.map kV))) (hl : kvs.length < sizeLine) :
    DPut H a (.ref b) v (upd H a (.dT (putK kvs k v))) := .inr ⟨kvs, k, b, e, rfl, eb, hl, rfl⟩


section
variable {X : Cx} {pins : List (Addr × Obj)} {σ : St} {H : Hp} {s : Shared} {a : Addr} {y v : V} {u r : Value} {o : Option V} {A : Around} {E : Value → Shared → Prop}

theorem Inv.big (I : Inv X pins σ H s) : sysModules < s.heap.objs.size := by
  have h : mainGlobals < s.heap.objs.size := (I.mod.glob.keeps I.bk).lt
  exact Nat.lt_trans (by decide) h

theorem wx3 {h' : Heap} {t' : Nat} {ob : HO} (I : Inv X pins σ H s) (mu : Mut (H a)) (hs : Heap.SameBut a s.heap h') (he : ∃ q, h'.get? a = some q) (new : ObjOk X.prog X.w (upd H a ob) h' a ob) :
    Inv X pins σ (upd H a ob) { s with heap := h', toks := t' } :=
  I.write (x := a) (e := a) mu (.inl rfl) (fun b q hb z => (hs.2 b hb).trans z) he new
theorem xp7 {P : Program} {w : World} {H' : Hp} {h' : Heap} {kvs : List (Key × V)} {vs : List (Key × Value)} (z : kvs.length ≤ sizeLine) (hd : (a == sysModules) = false) (rel : KV kvs vs) (dd : h'.DictOf (zi0 P w) a vs) :
    ObjOk P w H' h' a (.dK kvs) := ⟨z, hd, vs, rel, dd⟩
theorem xy3 {H' : Hp} {Q : Unit → Shared → Prop} (hu : A.units + 1 < cLine) (I : Inv X pins σ H s) (g : DPut H a y v H') (ry : RelV y u) (rv : RelV v r) (h : ∀ s', Inv X pins σ H' s' → Q () s') :
    wpAny (model X.prog X.w) A (setItem (.ref a) u r) Q E s := by
  rcases g with ⟨kvs, k, e, ey, l, eH⟩ | ⟨kvs, k, b, e, ey, eb, l, eH⟩
  · subst ey eH
    obtain ⟨z, hd, vs, rel, dd⟩ := xl8 I.hok e
    have hz : vs.length ≤ sizeLine := by rw [← rel.length]; exact z
    have hl : (putK kvs k v).length ≤ sizeLine := by have := yd1 kvs k v; omega
    refine wpAny_setItem_pairs (hsz := hz) (yl7 ry) dd fun h' dd' hs => h _ ?_
    have he : ∃ q, h'.get? a = some q := let ⟨q, _, _, hq, _⟩ := dd'; ⟨q, hq⟩
    exact wx3 I (by rw [e]; exact True.intro) hs he (xp7 hl hd (rel.put k rv) dd')
  · subst ey eH
    cases (show u = Value.ref b from ry)
    obtain ⟨z, hd, xs, rel, dd⟩ := zk8 I.hok e
    have hz : xs.length ≤ sizeLine := by rw [← Paired.length rel]; exact z
    have hl : (putK kvs k v).length ≤ sizeLine := by have := yd1 kvs k v; omega
    refine wpAny_setItem_heap (hsz := hz) (tupleKind_room_in1 hu) (zy4 I.hok eb) dd fun h' dd' hs => h _ ?_
    obtain ⟨q, es, ep, hq, h2, h3, h4, _, h5⟩ := dd'
    refine wx3 I (by rw [e]; exact True.intro) hs ⟨q, hq⟩ ⟨hl, hd, _, (rel.put k eb rv).keeps fun c ys ec => ?_, q, es, ep, hq, h2, h3, h4, h5⟩
    rw [yd0 (xr3 ec e (fun z => nomatch z))]
    exact ec
end

section
variable {X : Cx} {pins : List (Addr × Obj)} {σ : St} {H : Hp} {s : Shared} {a : Addr} {kvs : List (Key × V)} {k : Key} {u : Value} {A : Around} {E : Value → Shared → Prop}
end


noncomputable def yx7 (td ty tv : TE) : TS := fun D σ H => tv σ H fun v H1 => td σ H1 fun x H2 => ty σ H2 fun y H3 => ∃ a H4, x = .ref a ∧ DPut H3 a y v H4 ∧ D.nx σ H4
section
variable {X : Cx} {o i e value : Expr} {pos pos' tpos : Pos} {td ty tv : TE}
theorem zl5 (hu : X.A.units + 1 < cLine) (ho : PE X o td) (hi : PE X i ty) (hv : PE X value tv) (hs : swapsWith value (some (.Subscript o i pos')) pos.line X.env = pure false) :
    PS X (.Assign [.Subscript o i pos'] value pos) (yx7 td ty tv) := by
  intro pins s σ H D I h
  refine wpAny_Assign_Subscript (thn (hv pins s σ H _ I h) fun r s1 ⟨v, H1, I1, rv, q1⟩ => thn (ho pins s1 σ H1 _ I1 q1) fun u s2 ⟨x, H2, I2, rx, q2⟩ => thn (hi pins s2 σ H2 _ I2 q2) fun iv s3 ⟨y, H3, I3, ry, a, H4, ex, g, q3⟩ => ?_) hs
  subst ex
  obtain rfl : u = Value.ref a := rx
  exact xy3 hu I3 g ry rv fun s4 I4 => ⟨σ, H4, I4, q3⟩
end


theorem zo4 {P : Program} {w : World} {H : Hp} (h : Heap) (hb : sysModules < h.objs.size) : ObjOk P w H (h.push { cls := .type "dict", data := .dict #[] }) h.objs.size (.dT []) :=
  ⟨Nat.zero_le _, beq_eq_false_iff_ne.mpr (Ne.symm (Nat.ne_of_lt hb)), [], .nil, _, #[], 0, Heap.get?_push_size _ rfl, ⟨rfl, rfl, rfl⟩, rfl, rfl, List.nodup_nil⟩
noncomputable def zi6 : TE := fun _ H Q => ∀ p, H p = none → Q (.ref p) (upd H p (.dT []))
section
variable {X : Cx} {pos : Pos}
theorem zi4 : PE X (.Dict [] [] pos) zi6 := fun pins s σ H Q I h =>
  wpAny_Dict_empty ⟨.ref s.heap.objs.size, _, I.laid (a := s.heap.objs.size) (o := .dT []) (t' := s.toks) (fun _ _ q => Heap.get?_push_of_some _ q) (Nat.le_refl _) (zo4 s.heap I.big), rfl, h _ (I.hok.fresh (Nat.le_refl _))⟩
end

structure M1 (X : Cx) (o : Expr) (m : Str) (apos : Pos) (e : Expr) (cpos : Pos) : Prop where
  base : attributeBase o m X.env (eval o X.env) = eval o X.env
  few : ((backTo cpos (starEach [e] X.env)).all (fun x => !x.1) && (backToKw cpos (keywordEach [] X.env)).all (fun x => x.1.isSome)
    && decide (([e] : List Expr).length + ([] : List Keyword).length + (if ([] : List Keyword).isEmpty then 0 else 1) < 30)) = true
  line : (apos.endLine == cpos.line) = true
  trees : backTo cpos (starEach [e] X.env) = [(false, eval e X.env)]
structure M2 (X : Cx) (o : Expr) (m : Str) (apos : Pos) (e f : Expr) (cpos : Pos) : Prop where
  base : attributeBase o m X.env (eval o X.env) = eval o X.env
  few : ((backTo cpos (starEach [e, f] X.env)).all (fun x => !x.1) && (backToKw cpos (keywordEach [] X.env)).all (fun x => x.1.isSome)
    && decide (([e, f] : List Expr).length + ([] : List Keyword).length + (if ([] : List Keyword).isEmpty then 0 else 1) < 30)) = true
  line : (apos.endLine == cpos.line) = true
  trees : backTo cpos (starEach [e, f] X.env) = [(false, eval e X.env), (false, eval f X.env)]

section
variable {X : Cx} {pins : List (Addr × Obj)} {σ : St} {H : Hp} {s : Shared} {a : Addr} {y d : V} {u r : Value} {o : Option V} {A : Around} {E : Value → Shared → Prop}
end

section
variable {X : Cx} {o e f : Expr} {apos cpos : Pos} {td ty tx : TE}
end

section
variable {X : Cx} {pins : List (Addr × Obj)} {σ : St} {H : Hp} {s : Shared} {a : Addr} {kvs : List (Key × V)} {A : Around} {E : Value → Shared → Prop}
end


section
variable {X : Cx} {pins : List (Addr × Obj)} {σ : St} {H : Hp} {s : Shared} {a : Addr} {y : V} {u : Value} {A : Around} {E : Value → Shared → Prop}
end
end L2

namespace Pv
open PySem

inductive D where
  | non | bl (b : Bool) | int (i : Int) | str (x : Str) | tup (l : List D) | fls (l : List D) | ref (a : Addr) | ty (n : String) | exc (c : Str)
inductive MO where
  | lst (xs : List D)
  | ins (c : Str) (fs : List (Str × D))
  | dct (kvs : List ((Int × Int × Int) × D))
noncomputable abbrev Mu := Addr → Option MO
noncomputable def updM (μ : Mu) (a : Addr) (o : MO) : Mu := fun b => if b = a then some o else μ b
theorem yb0 {μ : Mu} {a : Addr} {o : MO} : updM μ a o a = some o := by unfold updM; rw [if_pos rfl]
theorem xc0 {μ : Mu} {a b : Addr} {o : MO} (h : b ≠ a) : updM μ a o b = μ b := by unfold updM; rw [if_neg h]
noncomputable def Ext (μ μ' : Mu) : Prop := ∀ a o, μ a = some o → μ' a = some o
theorem Ext.refl (μ : Mu) : Ext μ μ := fun _ _ h => h
theorem Ext.trans {a b c : Mu} (h : Ext a b) (k : Ext b c) : Ext a c := fun x o q => k x o (h x o q)
theorem Ext.new {μ : Mu} {p : Addr} {o : MO} (h : μ p = none) : Ext μ (updM μ p o) := fun a u q => by
  rw [xc0]; exact q
  intro e; subst e; rw [h] at q; cases q
theorem xh0 {μ : Mu} {p q : Addr} {o : MO} (h : μ p = some o) (k : μ q = none) : p ≠ q := by
  intro e; subst e; rw [h] at k; cases k

noncomputable abbrev St3 := List (Option D)
noncomputable def getI : St3 → Nat → Option D
  | [], _ => none
  | o :: _, 0 => o
  | _ :: r, i + 1 => getI r i
theorem zj2 : ∀ (ρ : St3) (i : Nat), getI ρ i = (ρ[i]?).getD none
  | [], i => by simp [getI]
  | o :: _, 0 => by simp [getI]
  | _ :: r, i + 1 => by simp [getI, zj2 r i]
noncomputable abbrev VK3 := D → Mu → Prop
noncomputable abbrev TE3 := St3 → Mu → VK3 → Prop
noncomputable abbrev TT3 := St3 → Mu → (Bool → Mu → Prop) → Prop
noncomputable abbrev TA3 := St3 → Mu → (List D → Mu → Prop) → Prop
structure Ends3 where
  nx : St3 → Mu → Prop
  rt : VK3
  bk : St3 → Mu → Prop := fun _ _ => False
  ct : St3 → Mu → Prop := fun _ _ => False
noncomputable abbrev TS3 := Ends3 → St3 → Mu → Prop
noncomputable abbrev R3 := D → D → Mu → VK3 → Prop
noncomputable abbrev Sp3 := List D → Mu → VK3 → Prop
noncomputable abbrev C3 := List D → Mu → VK3 → Prop
noncomputable abbrev TG3 := D → St3 → Mu → (St3 → Mu → Prop) → Prop
noncomputable abbrev TGs3 := List D → St3 → Mu → (St3 → Mu → Prop) → Prop
noncomputable abbrev TI3 := St3 → Mu → (List D → (Mu → Prop) → Mu → Prop) → Prop

noncomputable def v3 (i : Nat) : TE3 := fun ρ μ Q => match getI ρ i with
  | some d => Q d μ
  | none => False
noncomputable def c3 (d : D) : TE3 := fun _ μ Q => Q d μ
noncomputable def o3 (r : R3) (ta tb : TE3) : TE3 := fun ρ μ Q => ta ρ μ fun x μ1 => tb ρ μ1 fun y μ2 => r x y μ2 Q
noncomputable def un3 (r : D → Mu → VK3 → Prop) (ta : TE3) : TE3 := fun ρ μ Q => ta ρ μ fun x μ1 => r x μ1 Q
noncomputable def b3 (t : TE3) : TT3 := fun ρ μ Q => t ρ μ fun d μ1 => match d with
  | .bl c => Q c μ1
  | _ => False
noncomputable def and3 (t u : TT3) : TT3 := fun ρ μ Q => t ρ μ fun c μ1 => if c = true then u ρ μ1 Q else Q false μ1
noncomputable def or3 (t u : TT3) : TT3 := fun ρ μ Q => t ρ μ fun c μ1 => if c = true then Q true μ1 else u ρ μ1 Q
noncomputable def not3 (t : TT3) : TT3 := fun ρ μ Q => t ρ μ fun c μ1 => Q (!c) μ1
noncomputable def andV3 (t u : TE3) : TE3 := fun ρ μ Q => t ρ μ fun d μ1 => match d with
  | .bl c => if c = true then u ρ μ1 Q else Q (.bl false) μ1
  | _ => False
noncomputable def orV3 (t u : TE3) : TE3 := fun ρ μ Q => t ρ μ fun d μ1 => match d with
  | .bl c => if c = true then Q (.bl true) μ1 else u ρ μ1 Q
  | _ => False
noncomputable def notV3 (t : TE3) : TE3 := fun ρ μ Q => t ρ μ fun d μ1 => match d with
  | .bl c => Q (.bl (!c)) μ1
  | _ => False
noncomputable def if3 (c : TT3) (t u : TE3) : TE3 := fun ρ μ Q => c ρ μ fun b μ1 => if b = true then t ρ μ1 Q else u ρ μ1 Q
noncomputable def nil3 : TA3 := fun _ μ Q => Q [] μ
noncomputable def cons3 (t : TE3) (u : TA3) : TA3 := fun ρ μ Q => t ρ μ fun d μ1 => u ρ μ1 fun ds μ2 => Q (d :: ds) μ2
noncomputable def tup3 (t : TA3) : TE3 := fun ρ μ Q => t ρ μ fun ds μ1 => ds.length ≤ sizeLine ∧ Q (.tup ds) μ1
noncomputable def lst3 (t : TA3) : TE3 := fun ρ μ Q => t ρ μ fun ds μ1 => ds.length ≤ sizeLine ∧ ∀ p, μ1 p = none → Q (.ref p) (updM μ1 p (.lst ds))
noncomputable def call3 (sp : Sp3) (t : TA3) : TE3 := fun ρ μ Q => t ρ μ fun ds μ1 => sp ds μ1 Q
noncomputable def mt3 (r : D → List D → Mu → VK3 → Prop) (to : TE3) (t : TA3) : TE3 := fun ρ μ Q => to ρ μ fun x μ1 => match x with
  | .ref p => match μ1 p with
    | some (.lst _) => t ρ μ1 fun ds μ2 => r (.ref p) ds μ2 Q
    | _ => False
  | _ => False

noncomputable abbrev TO3 := St3 → Mu → (Option Int → Mu → Prop) → Prop
noncomputable def np3 : TO3 := fun _ μ Q => Q none μ
noncomputable def pt3 (t : TE3) : TO3 := fun ρ μ Q => t ρ μ fun d μ1 => match d with
  | .int i => Q (some i) μ1
  | _ => False
noncomputable def sl3 (r : D → Option Int → Option Int → Mu → VK3 → Prop) (te : TE3) (tl th : TO3) : TE3 := fun ρ μ Q => te ρ μ fun x μ1 => tl ρ μ1 fun l μ2 => th ρ μ2 fun u μ3 => r x l u μ3 Q
noncomputable def sIx3 (n d : Nat) : Option Int → Nat
  | none => d
  | some v => if v < 0 then (v + (n : Int)).toNat else min v.toNat n
noncomputable def cut3 {α : Type} (xs : List α) (lo hi : Option Int) : List α := (xs.drop (sIx3 xs.length 0 lo)).take (sIx3 xs.length xs.length hi - sIx3 xs.length 0 lo)
noncomputable def slR : D → Option Int → Option Int → Mu → VK3 → Prop := fun x lo hi μ Q => match x with
  | .tup l => Q (.tup (cut3 l lo hi)) μ
  | .str z => z.length ≤ sizeLine ∧ Q (.str ⟨(cut3 z.cps.toList lo hi).toArray⟩) μ
  | .ref p => match μ p with
    | some (.lst l) => ∀ r, μ r = none → Q (.ref r) (updM μ r (.lst (cut3 l lo hi)))
    | _ => False
  | .fls l => ∀ r, μ r = none → Q (.ref r) (updM μ r (.lst (cut3 l lo hi)))
  | _ => False
noncomputable def next3 : TS3 := fun D ρ μ => D.nx ρ μ
noncomputable def never3 : TS3 := fun _ _ _ => False
noncomputable def brk3 : TS3 := fun D ρ μ => D.bk ρ μ
noncomputable def cnt3 : TS3 := fun D ρ μ => D.ct ρ μ
noncomputable def seq3 (t u : TS3) : TS3 := fun D ρ μ => t { D with nx := u D } ρ μ
noncomputable def drop3 (t : TE3) : TS3 := fun D ρ μ => t ρ μ fun _ μ1 => D.nx ρ μ1
noncomputable def ret3 (t : TE3) : TS3 := fun D ρ μ => t ρ μ D.rt
noncomputable def retN3 : TS3 := fun D _ μ => D.rt .non μ
noncomputable def ifs3 (c : TT3) (t u : TS3) : TS3 := fun D ρ μ => c ρ μ fun b μ1 => if b = true then t D ρ μ1 else u D ρ μ1
noncomputable def gn3 (i : Nat) : TG3 := fun d ρ μ Q => Q (ρ.set i (some d)) μ
noncomputable def gnil3 : TGs3 := fun ds ρ μ Q => match ds with
  | [] => Q ρ μ
  | _ => False
noncomputable def gcons3 (t : TG3) (u : TGs3) : TGs3 := fun ds ρ μ Q => match ds with
  | d :: r => t d ρ μ fun ρ1 μ1 => u r ρ1 μ1 Q
  | [] => False
noncomputable def gtup3 (n : Nat) (t : TGs3) : TG3 := fun d ρ μ Q => match d with
  | .tup l => l.length = n ∧ t l ρ μ Q
  | _ => False
noncomputable def set3 (i : Nat) (t : TE3) : TS3 := fun D ρ μ => t ρ μ fun d μ1 => D.nx (ρ.set i (some d)) μ1
noncomputable def asg3 (t : TE3) (g : TG3) : TS3 := fun D ρ μ => t ρ μ fun d μ1 => g d ρ μ1 D.nx
noncomputable def par3 (i j : Nat) (t : TA3) : TS3 := fun D ρ μ => t ρ μ fun ds μ1 => match ds with
  | [v, w] => D.nx ((ρ.set i (some v)).set j (some w)) μ1
  | _ => False
noncomputable def ixN (n : Nat) (i : Int) : Option Nat := if 0 ≤ i then (if i < n then some i.toNat else none) else if -(n : Int) ≤ i then some (i + n).toNat else none
noncomputable def atI {α : Type} (xs : List α) (i : Int) : Option α := (ixN xs.length i).bind fun j => xs[j]?
noncomputable def sub3 (to ti : TE3) : TG3 := fun d ρ μ Q => to ρ μ fun o μ1 => ti ρ μ1 fun i μ2 => match o, i with
  | .ref p, .int k => match μ2 p with
    | some (.lst xs) => match ixN xs.length k with
      | some j => Q ρ (updM μ2 p (.lst (xs.set j d)))
      | none => False
    | _ => False
  | _, _ => False
noncomputable def wn4 (S : Mu → Prop) (g : TG3) (tb : TS3) (D' : Ends3) : List D → St3 → Mu → Prop
  | [], ρ, μ => S μ ∧ D'.nx ρ μ
  | x :: r, ρ, μ => S μ ∧ ∃ N : St3 → Mu → Prop, (∀ ρ' μ', N ρ' μ' → wn4 S g tb D' r ρ' μ') ∧ g x ρ μ fun ρ1 μ1 => tb { D' with nx := N, ct := N, bk := D'.nx } ρ1 μ1
noncomputable def for3 (ti : TI3) (g : TG3) (tb : TS3) : TS3 := fun D' ρ μ => ti ρ μ fun l S μ1 => wn4 S g tb D' l ρ μ1
theorem ww0 {S : Mu → Prop} {g : TG3} {tb : TS3} {D' : Ends3} (W : List D → St3 → Mu → Prop) {l : List D} {ρ : St3} {μ : Mu} (h0 : W l ρ μ) (hS : ∀ l ρ μ, W l ρ μ → S μ) (hn : ∀ ρ μ, W [] ρ μ → D'.nx ρ μ)
    (hs : ∀ x r ρ μ, W (x :: r) ρ μ → g x ρ μ fun ρ1 μ1 => tb { D' with nx := W r, ct := W r, bk := D'.nx } ρ1 μ1) : wn4 S g tb D' l ρ μ := by
  induction l generalizing ρ μ with
  | nil => exact ⟨hS _ _ _ h0, hn _ _ h0⟩
  | cons x r ih => exact ⟨hS _ _ _ h0, W r, fun ρ' μ' q => ih q, hs x r ρ μ h0⟩
noncomputable def is3 (t : TE3) : TI3 := fun ρ μ R => t ρ μ fun d μ1 => match d with
  | .tup l => R l (fun _ => True) μ1
  | .fls l => R l (fun _ => True) μ1
  | .str z => R (z.cps.toList.map fun c => D.str ⟨#[c]⟩) (fun _ => True) μ1
  | .ref p => match μ1 p with
    | some (.lst l) => R l (fun μ => μ p = some (.lst l)) μ1
    | _ => False
  | _ => False
noncomputable def rngD (lo : Int) (n : Nat) : List D := (List.range n).map fun i => .int (lo + (i : Nat))
theorem xb1 (lo : Int) (n : Nat) : rngD lo (n + 1) = .int lo :: rngD (lo + 1) n := by
  unfold rngD
  rw [List.range_succ_eq_map, List.map_cons, List.map_map]
  have e0 : lo + ((0 : Nat) : Int) = lo := by simp
  rw [e0]
  congr 1
  apply List.map_congr_left
  intro a _
  show D.int (lo + ((a + 1 : Nat) : Int)) = D.int (lo + 1 + (a : Int))
  have e1 : lo + ((a + 1 : Nat) : Int) = lo + 1 + (a : Int) := by omega
  rw [e1]
noncomputable def ir3 (t : TA3) : TI3 := fun ρ μ R => t ρ μ fun ds μ1 => match ds with
  | [.int j] => (-(2 ^ 62) ≤ j ∧ j < 2 ^ 62) ∧ R (rngD 0 j.toNat) (fun _ => True) μ1
  | _ => False
noncomputable def ir23 (t : TA3) : TI3 := fun ρ μ R => t ρ μ fun ds μ1 => match ds with
  | [.int i, .int j] => (-(2 ^ 62) ≤ i ∧ i < 2 ^ 62 ∧ -(2 ^ 62) ≤ j ∧ j < 2 ^ 62) ∧ R (rngD i (j - i).toNat) (fun _ => True) μ1
  | _ => False
noncomputable def zq7 (S : Mu → Prop) (p : Addr) (g : TG3) (tc : TT3) (te : TE3) (Q : VK3) (l : List D) (ρ0 : St3) (μ0 : Mu) : Prop :=
  ∃ W : List D → List D → St3 → Mu → Prop, W l [] ρ0 μ0 ∧ (∀ l ys ρ μ, W l ys ρ μ → S μ ∧ μ p = some (.lst ys)) ∧ (∀ ys ρ μ, W [] ys ρ μ → Q (.ref p) μ) ∧
    ∀ x r ys ρ μ, W (x :: r) ys ρ μ → ys.length < sizeLine ∧ g x ρ μ fun ρ1 μ1 => tc ρ1 μ1 fun b μ2 =>
      if b = true then te ρ1 μ2 fun d μ3 => μ3 p = some (.lst ys) ∧ W r (ys ++ [d]) ρ1 (updM μ3 p (.lst (ys ++ [d]))) else W r ys ρ1 μ2
noncomputable def comp3 (js : List (Option Nat)) (ti : TI3) (g : TG3) (tc : TT3) (te : TE3) : TE3 := fun ρ μ Q => ti ρ μ fun l S μ1 => ∀ p, μ1 p = none → zq7 S p g tc te Q l (js.map fun j => j.bind (getI ρ)) (updM μ1 p (.lst []))
noncomputable def tt3 : TT3 := fun _ μ Q => Q true μ
theorem xu0 {S : Mu → Prop} {p : Addr} {te : TE3} {Q : VK3} {l : List D} {o : Option D} {rest : St3} {μ : Mu} (f : D → D) (hp : μ p = none) (hl : l.length ≤ sizeLine) (hS : ∀ μ', Ext μ μ' → S μ')
    (hx : ∀ x ∈ l, ∀ μ' R, Ext μ μ' → (∀ μ2, Ext μ' μ2 → R (f x) μ2) → te (some x :: rest) μ' R) (hQ : ∀ μ', Ext μ μ' → μ' p = some (.lst (l.map f)) → Q (.ref p) μ') :
    zq7 S p (gn3 0) tt3 te Q l (o :: rest) (updM μ p (.lst [])) := by
  refine ⟨fun r ys ρ μ' => Ext μ μ' ∧ μ' p = some (.lst ys) ∧ (∃ o', ρ = o' :: rest) ∧ ∃ a, a ++ r = l ∧ ys = a.map f, ?_, ?_, ?_, ?_⟩
  · exact ⟨Ext.new hp, yb0, ⟨o, rfl⟩, [], rfl, rfl⟩
  · rintro r ys ρ μ' ⟨h1, h2, _⟩
    exact ⟨hS _ h1, h2⟩
  · rintro ys ρ μ' ⟨h1, h2, _, a, e, rfl⟩
    rw [List.append_nil] at e
    subst e
    exact hQ _ h1 h2
  · rintro x r ys ρ μ' ⟨h1, h2, ⟨o', rfl⟩, a, e, rfl⟩
    refine ⟨by rw [List.length_map]; rw [← e, List.length_append, List.length_cons] at hl; omega, ?_⟩
    show te (some x :: rest) μ' _
    refine hx x (by rw [← e]; simp) μ' _ h1 fun μ2 h3 => ⟨h3 _ _ h2, fun b u hb => ?_, yb0, ⟨_, rfl⟩, a ++ [x], by simp [← e], by simp⟩
    rw [xc0 (xh0 hb hp)]
    exact h3 _ _ (h1 _ _ hb)

noncomputable def CPow (i j : Int) : Prop := 0 ≤ j ∧ j ≤ 1000000 ∧ i.natAbs < 2 ^ 64
noncomputable def Big : Nat := 2 ^ 1000
noncomputable def CMul (i j : Int) : Prop := ((-(2 ^ 64) < i ∧ i < 2 ^ 64) ∨ (-(2 ^ 64) < j ∧ j < 2 ^ 64)) ∨ (i.natAbs < Big ∧ j.natAbs < Big)
noncomputable def int2 (C : Int → Int → Prop) (g : Int → Int → D) : R3 := fun x y μ Q => match x, y with
  | .int i, .int j => C i j ∧ Q (g i j) μ
  | _, _ => False
noncomputable def int20 (g : Int → Int → D) : R3 := fun x y μ Q => match x, y with
  | .int i, .int j => Q (g i j) μ
  | _, _ => False
noncomputable def subR : R3 := int20 fun i j => .int (i - j)
noncomputable def mulR : R3 := fun x y μ Q => match x, y with
  | .int i, .int j => CMul i j ∧ Q (.int (i * j)) μ
  | .tup l, .int k => ((-(2 ^ 62) ≤ k ∧ k < 2 ^ 62) ∧ l.length * k.toNat ≤ 1000000) ∧ Q (.tup (List.replicate k.toNat l).flatten) μ
  | .ref p, .int k => match μ p with
    | some (.lst l) => ((-(2 ^ 62) ≤ k ∧ k < 2 ^ 62) ∧ l.length * k.toNat ≤ 1000000) ∧ ∀ r, μ r = none → Q (.ref r) (updM μ r (.lst (List.replicate k.toNat l).flatten))
    | _ => False
  | _, _ => False
noncomputable def modR : R3 := int2 (fun _ j => 0 < j) fun i j => .int (i % j)
noncomputable def fdivR : R3 := int2 (fun _ j => 0 < j ∧ j < 2 ^ 120) fun i j => .int (i / j)
noncomputable def powR : R3 := int2 CPow fun i j => .int (i ^ j.toNat)
noncomputable def ltR : R3 := int20 fun i j => .bl (decide (i < j))
noncomputable def leR : R3 := int20 fun i j => .bl (decide (i ≤ j))
noncomputable def gtR : R3 := int20 fun i j => .bl (decide (j < i))
noncomputable def geR : R3 := int20 fun i j => .bl (decide (j ≤ i))
noncomputable def negR : D → Mu → VK3 → Prop := fun x μ Q => match x with
  | .int i => Q (.int (-i)) μ
  | _ => False
noncomputable def addR : R3 := fun x y μ Q => match x, y with
  | .int i, .int j => Q (.int (i + j)) μ
  | .str i, .str j => i.length + j.length ≤ sizeLine ∧ Q (.str (i ++ j)) μ
  | .ref p, .ref q => match μ p, μ q with
    | some (.lst xs), some (.lst ys) => xs.length + ys.length ≤ sizeLine ∧ ∀ r, μ r = none → Q (.ref r) (updM μ r (.lst (xs ++ ys)))
    | _, _ => False
  | .tup l, .tup m => l.length + m.length ≤ sizeLine ∧ Q (.tup (l ++ m)) μ
  | _, _ => False
noncomputable def eqS : D → D → Option Bool
  | .int i, .int j => some (decide (i = j))
  | .bl i, .bl j => some (decide (i = j))
  | .str i, .str j => some (decide (i = j))
  | .non, .non => some true
  | .non, .int _ => some false
  | .int _, .non => some false
  | .non, .str _ => some false
  | .str _, .non => some false
  | .int _, .str _ => some false
  | .str _, .int _ => some false
  | _, _ => none
/- data without addresses -/
mutual
noncomputable def dat : D → Option PyData
  | .non => some .none
  | .bl b => some (.bool b)
  | .int i => some (.int i)
  | .str x => if PyData.strOk x = true then some (.str x) else none
  | .tup l => match dats l with
    | some ps => some (.tuple ps)
    | none => none
  | _ => none
noncomputable def dats : List D → Option (List PyData)
  | [] => some []
  | d :: r => match dat d with
    | some p => match dats r with
      | some ps => some (p :: ps)
      | none => none
    | none => none
end
noncomputable def datM (μ : Mu) : D → Option PyData
  | .ref p => match μ p with
    | some (.lst l) => match dats l with
      | some ps => some (.list ps)
      | none => none
    | _ => none
  | d => dat d
noncomputable def eqR : R3 := fun x y μ Q => match eqS x y with
  | some c => Q (.bl c) μ
  | none => match datM μ x, datM μ y with
    | some p, some q => (p.depth ≤ 64 ∧ q.depth ≤ 64) ∧ Q (.bl (PyData.eqv p q)) μ
    | _, _ => False
noncomputable def neR : R3 := fun x y μ Q => match eqS x y with
  | some c => Q (.bl (!c)) μ
  | none => match datM μ x, datM μ y with
    | some p, some q => (p.depth ≤ 64 ∧ q.depth ≤ 64) ∧ Q (.bl (!PyData.eqv p q)) μ
    | _, _ => False
theorem eqR_ii (i j : Int) (μ : Mu) (Q : VK3) : eqR (.int i) (.int j) μ Q = Q (.bl (decide (i = j))) μ := rfl
theorem eqR_ss (i j : Str) (μ : Mu) (Q : VK3) : eqR (.str i) (.str j) μ Q = Q (.bl (decide (i = j))) μ := rfl
theorem eqR_bb (i j : Bool) (μ : Mu) (Q : VK3) : eqR (.bl i) (.bl j) μ Q = Q (.bl (decide (i = j))) μ := rfl
theorem eqR_is (i : Int) (j : Str) (μ : Mu) (Q : VK3) : eqR (.int i) (.str j) μ Q = Q (.bl false) μ := rfl
theorem neR_ii (i j : Int) (μ : Mu) (Q : VK3) : neR (.int i) (.int j) μ Q = Q (.bl (!decide (i = j))) μ := rfl
theorem neR_ss (i j : Str) (μ : Mu) (Q : VK3) : neR (.str i) (.str j) μ Q = Q (.bl (!decide (i = j))) μ := rfl
theorem neR_bb (i j : Bool) (μ : Mu) (Q : VK3) : neR (.bl i) (.bl j) μ Q = Q (.bl (!decide (i = j))) μ := rfl
theorem zs5 {x y : D} {μ : Mu} {Q : VK3} {p q : PyData} (e : eqS x y = none) (h1 : datM μ x = some p) (h2 : datM μ y = some q) (d1 : p.depth ≤ 64) (d2 : q.depth ≤ 64) : eqR x y μ Q = Q (.bl (PyData.eqv p q)) μ := by
  unfold eqR; rw [e]; simp only [h1, h2, d1, d2, true_and, and_self]
theorem yr3 {x y : D} {μ : Mu} {Q : VK3} {p q : PyData} (e : eqS x y = none) (h1 : datM μ x = some p) (h2 : datM μ y = some q) (d1 : p.depth ≤ 64) (d2 : q.depth ≤ 64) : neR x y μ Q = Q (.bl (!PyData.eqv p q)) μ := by
  unfold neR; rw [e]; simp only [h1, h2, d1, d2, true_and, and_self]
noncomputable def strs? : List D → Option (List Str)
  | [] => some []
  | .str x :: r => match strs? r with
    | some l => some (x :: l)
    | none => none
  | _ :: _ => none
noncomputable def inD (neg : Bool) : R3 := fun x y μ Q => match datM μ x, datM μ y with
  | some d, some (.list xs) => (d.depth ≤ 64 ∧ (PyData.list xs).depth ≤ 64) ∧ Q (.bl (if neg then !(xs.any fun e => PyData.eqv e d) else xs.any fun e => PyData.eqv e d)) μ
  | some d, some (.tuple xs) => (d.depth ≤ 64 ∧ (PyData.tuple xs).depth ≤ 64) ∧ Q (.bl (if neg then !(xs.any fun e => PyData.eqv e d) else xs.any fun e => PyData.eqv e d)) μ
  | _, _ => False
noncomputable def inR (neg : Bool) : R3 := fun x y μ Q => match x, y with
  | .str z, .tup l => match strs? l with
    | some zs => Q (.bl (if neg then !zs.contains z else zs.contains z)) μ
    | none => inD neg (.str z) (.tup l) μ Q
  | .str z, .str y => Q (.bl (if neg then !(!(Builtin.Str.occurrences y z 0 y.length 1).isEmpty) else !(Builtin.Str.occurrences y z 0 y.length 1).isEmpty)) μ
  | x, y => inD neg x y μ Q
noncomputable def ixR : R3 := fun x y μ Q => match x, y with
  | .tup l, .int i => match atI l i with
    | some d => Q d μ
    | none => False
  | .fls l, .int i => match atI l i with
    | some d => Q d μ
    | none => False
  | .ref p, .int i => match μ p with
    | some (.lst l) => match atI l i with
      | some d => Q d μ
      | none => False
    | _ => False
  | _, _ => False
noncomputable def lenR : C3 := fun ds μ Q => match ds with
  | [.tup l] => Q (.int l.length) μ
  | [.fls l] => Q (.int l.length) μ
  | [.str z] => z.length ≤ sizeLine ∧ Q (.int z.length) μ
  | [.ref p] => match μ p with
    | some (.lst l) => Q (.int l.length) μ
    | _ => False
  | _ => False
noncomputable def absR : C3 := fun ds μ Q => match ds with
  | [.int i] => Q (.int (if i < 0 then -i else i)) μ
  | _ => False
noncomputable def intR : C3 := fun ds μ Q => match ds with
  | [.int i] => Q (.int i) μ
  | [.bl b] => Q (.int (if b then 1 else 0)) μ
  | [.str z] => match PySem.intText? z with
    | some n => z.length ≤ 640 ∧ Q (.int n) μ
    | none => False
  | _ => False
noncomputable def strR : C3 := fun ds μ Q => match ds with
  | [.int i] => i.natAbs.log2 < 1920 ∧ Q (.str (toString i)) μ
  | _ => False
noncomputable def smt3 (r : Str → List D → Mu → VK3 → Prop) (to : TE3) (t : TA3) : TE3 := fun ρ μ Q => to ρ μ fun x μ1 => match x with
  | .str z => t ρ μ1 fun ds μ2 => r z ds μ2 Q
  | _ => False
noncomputable def joinR : Str → List D → Mu → VK3 → Prop := fun z ds μ Q => match ds with
  | [.ref p] => match μ p with
    | some (.lst l) => match strs? l with
      | some ys => (z.length ≤ 16 ∧ (ys.map (·.length)).sum + ys.length ≤ 1048576) ∧ Q (.str (Str.join z ys)) μ
      | none => False
    | _ => False
  | _ => False
noncomputable def splitR : Str → List D → Mu → VK3 → Prop := fun z ds μ Q => match ds with
  | [.str y] => ((y.length == 0) = false ∧ z.length ≤ 1000000) ∧ ∀ r, μ r = none → Q (.ref r) (updM μ r (.lst ((Txt.split z y).map D.str)))
  | _ => False
noncomputable def startsR : Str → List D → Mu → VK3 → Prop := fun z ds μ Q => match ds with
  | [.str y] => Q (.bl (Txt.startswith z y)) μ
  | _ => False
noncomputable def pop3 (to : TE3) : TE3 := fun ρ μ Q => to ρ μ fun x μ1 => match x with
  | .ref p => match μ1 p with
    | some (.lst l) => match l.reverse with
      | d :: r => Q d (updM μ1 p (.lst r.reverse))
      | [] => False
    | _ => False
  | _ => False
noncomputable def lrev3 (to : TE3) : TE3 := fun ρ μ Q => cons3 to nil3 ρ μ fun ds μ1 => match ds with
  | [.ref p] => match μ1 p with
    | some (.lst l) => ∀ r, μ1 r = none → Q (.ref r) (updM μ1 r (.lst l.reverse))
    | _ => False
  | _ => False
noncomputable def tupR : C3 := fun ds μ Q => match ds with
  | [.tup l] => Q (.tup l) μ
  | [.ref p] => match μ p with
    | some (.lst l) => Q (.tup l) μ
    | _ => False
  | _ => False
noncomputable def ints? : List D → Option (List Int)
  | [] => some []
  | .int x :: r => match ints? r with
    | some l => some (x :: l)
    | none => none
  | _ :: _ => none
noncomputable def sumR : C3 := fun ds μ Q => match ds with
  | [.ref p] => match μ p with
    | some (.lst l) => match ints? l with
      | some ns => Q (.int ns.sum) μ
      | none => False
    | _ => False
  | _ => False
noncomputable def bls? : List D → Option (List Bool)
  | [] => some []
  | .bl x :: r => match bls? r with
    | some l => some (x :: l)
    | none => none
  | _ :: _ => none
noncomputable def ltP (a b c d : Int) : Bool := if a = c then decide (b < d) else decide (a < c)
noncomputable def minR : C3 := fun ds μ Q => match ds with
  | [.tup [.int a, .int b], .tup [.int c, .int d]] => Q (if ltP c d a b then .tup [.int c, .int d] else .tup [.int a, .int b]) μ
  | _ => False
noncomputable def anyR : C3 := fun ds μ Q => match ds with
  | [.ref p] => match μ p with
    | some (.lst l) => match bls? l with
      | some bs => Q (.bl (bs.any id)) μ
      | none => False
    | _ => False
  | _ => False
noncomputable def tyN (μ : Mu) : D → Option String
  | .int _ => some "int"
  | .bl _ => some "bool"
  | .str _ => some "str"
  | .tup _ => some "tuple"
  | .non => some "NoneType"
  | .ref p => match μ p with
    | some (.lst _) => some "list"
    | _ => none
  | _ => none
noncomputable def isIn (t T : String) : Option Bool :=
  if t = T then some true
  else if t = "bool" ∧ T = "int" then some true
  else if (t = "int" ∨ t = "str" ∨ t = "tuple" ∨ t = "bool" ∨ t = "NoneType" ∨ t = "list") ∧ (T = "int" ∨ T = "str" ∨ T = "tuple" ∨ T = "bool" ∨ T = "list") then some false
  else none
noncomputable def isiR : C3 := fun ds μ Q => match ds with
  | [d, .ty T] => match tyN μ d with
    | some t => match isIn t T with
      | some b => Q (.bl b) μ
      | none => False
    | none => False
  | _ => False
noncomputable def appR : D → List D → Mu → VK3 → Prop := fun x ds μ Q => match x, ds with
  | .ref p, [d] => match μ p with
    | some (.lst l) => l.length < sizeLine ∧ Q .non (updM μ p (.lst (l ++ [d])))
    | _ => False
  | _, _ => False
noncomputable def extR : D → List D → Mu → VK3 → Prop := fun x ds μ Q => match x, ds with
  | .ref p, [.ref q] => match μ p, μ q with
    | some (.lst l), some (.lst m) => l.length + m.length ≤ sizeLine ∧ Q .non (updM μ p (.lst (l ++ m)))
    | _, _ => False
  | _, _ => False
theorem atI0 {α : Type} {a : α} {r : List α} : atI (a :: r) 0 = some a := by
  unfold atI ixN; rw [if_pos (by decide), if_pos (by simp only [List.length_cons]; omega)]; rfl
theorem atI1 {α : Type} {a b : α} {r : List α} : atI (a :: b :: r) 1 = some b := by
  unfold atI ixN; rw [if_pos (by decide), if_pos (by simp only [List.length_cons]; omega)]; rfl
theorem atI2 {α : Type} {a b c : α} {r : List α} : atI (a :: b :: c :: r) 2 = some c := by
  unfold atI ixN; rw [if_pos (by decide), if_pos (by simp only [List.length_cons]; omega)]; rfl
theorem ixN0 {n : Nat} : ixN (n + 1) 0 = some 0 := by
  unfold ixN; rw [if_pos (by decide), if_pos (by omega)]; rfl
theorem ixN1 {n : Nat} : ixN (n + 1 + 1) 1 = some 1 := by
  unfold ixN; rw [if_pos (by decide), if_pos (by omega)]; rfl
theorem ixN2 {n : Nat} : ixN (n + 1 + 1 + 1) 2 = some 2 := by
  unfold ixN; rw [if_pos (by decide), if_pos (by omega)]; rfl
theorem xd5 {α : Type} {l : List α} {i : Int} (h0 : 0 ≤ i) (h1 : i < l.length) : ∃ d, d ∈ l ∧ atI l i = some d := by
  have hn : i.toNat < l.length := by omega
  refine ⟨l[i.toNat], List.getElem_mem hn, ?_⟩
  unfold atI ixN
  rw [if_pos h0, if_pos h1]
  exact List.getElem?_eq_getElem hn
noncomputable def start3 (N : List Str) (ds : List D) : St3 := ds.map some ++ List.replicate (N.length - ds.length) none
end Pv

namespace Pv
open PySem L2
noncomputable abbrev Fg := PySem.W.Frag
structure Kp (H H' : Hp) : Prop where
  tup : ∀ b xs, H b = some (.tup xs) → H' b = some (.tup xs)
  frz : ∀ b o u, H b = some (.frz o u) → H' b = some (.frz o u)
theorem Kp.refl (H : Hp) : Kp H H := ⟨fun _ _ h => h, fun _ _ _ h => h⟩
theorem Kp.trans {a b c : Hp} (h : Kp a b) (k : Kp b c) : Kp a c := ⟨fun x xs q => k.tup x xs (h.tup x xs q), fun x o u q => k.frz x o u (h.frz x o u q)⟩
theorem Kp.new {H : Hp} {p : Addr} {o : HO} (h : H p = none) : Kp H (upd H p o) :=
  ⟨fun b xs q => by rw [yd0 (yi0 q h)]; exact q, fun b o u q => by rw [yd0 (yi0 q h)]; exact q⟩
theorem Kp.wr {H : Hp} {p : Addr} {o : HO} {xs : List V} (h : H p = some (.lst xs)) : Kp H (upd H p o) :=
  ⟨fun b ys q => by rw [yd0 (xr3 q h (by intro z; cases z))]; exact q, fun b o u q => by rw [yd0 (xr3 q h (by intro z; cases z))]; exact q⟩
noncomputable def SqF (K : Fg) (H : Hp) (a : Addr) (xs : List V) : Prop :=
  (∃ o, H a = some (.frz o (.lst xs))) ∨ ∃ (o : Obj) (its : Array Value) (n : Nat), K.lookup a = some o ∧ o.cls = .type "list" ∧ o.dict = none ∧ o.data = .seq its n ∧ its.size ≤ sizeLine ∧ Vals xs its.toList
theorem SqF.l {K : Fg} {H : Hp} {a : Addr} {xs : List V} (h : SqF K H a xs) : SqL K H a xs := by
  rcases h with ⟨o, h⟩ | h
  · exact .inl (.inr ⟨o, h⟩)
  · exact .inr h
theorem SqF.mono {K : Fg} {H H' : Hp} {a : Addr} {xs : List V} (k : Kp H H') (h : SqF K H a xs) : SqF K H' a xs := by
  rcases h with ⟨o, h⟩ | h
  · exact .inl ⟨o, k.frz _ _ _ h⟩
  · exact .inr h
theorem SqT.mono {K : Fg} {H H' : Hp} {a : Addr} {xs : List V} (k : Kp H H') (h : SqT K H a xs) : SqT K H' a xs := by
  rcases h with h | h
  · rcases h with h | ⟨o, h⟩
    · exact .inl (.inl (k.tup _ _ h))
    · exact .inl (.inr ⟨o, k.frz _ _ _ h⟩)
  · exact .inr h
mutual
inductive RelD (K : Fg) (H : Hp) : D → V → Prop where
  | non : RelD K H .non .non
  | bl (b : Bool) : RelD K H (.bl b) (.bl b)
  | int (i : Int) : RelD K H (.int i) (.int i)
  | str (x : Str) : RelD K H (.str x) (.str x)
  | ref (a : Addr) : RelD K H (.ref a) (.ref a)
  | ty (n : String) : RelD K H (.ty n) (.ty n)
  | tup {a : Addr} {l : List D} {vs : List V} : SqT K H a vs → RelDs K H l vs → RelD K H (.tup l) (.ref a)
  | fls {a : Addr} {l : List D} {vs : List V} : SqF K H a vs → RelDs K H l vs → RelD K H (.fls l) (.ref a)
  | exc {a C : Addr} {c : Str} {ob : Obj} {u : HO} : H a = some (.frz ob u) → ob.cls = .ref C → PySem.W.nsIn K mainGlobals c = some (some (.ref C)) → RelD K H (.exc c) (.ref a)
inductive RelDs (K : Fg) (H : Hp) : List D → List V → Prop where
  | nil : RelDs K H [] []
  | cons {d : D} {v : V} {l : List D} {vs : List V} : RelD K H d v → RelDs K H l vs → RelDs K H (d :: l) (v :: vs)
end
mutual
theorem RelD.mono {K : Fg} {H H' : Hp} (k : Kp H H') : ∀ {d : D} {v : V}, RelD K H d v → RelD K H' d v
  | _, _, .non => .non
  | _, _, .bl b => .bl b
  | _, _, .int b => .int b
  | _, _, .str b => .str b
  | _, _, .ref b => .ref b
  | _, _, .ty b => .ty b
  | _, _, .tup h r => .tup (SqT.mono k h) (RelDs.mono k r)
  | _, _, .fls h r => .fls (SqF.mono k h) (RelDs.mono k r)
  | _, _, .exc h r1 r2 => .exc (k.frz _ _ _ h) r1 r2
theorem RelDs.mono {K : Fg} {H H' : Hp} (k : Kp H H') : ∀ {d : List D} {v : List V}, RelDs K H d v → RelDs K H' d v
  | _, _, .nil => .nil
  | _, _, .cons h r => .cons (RelD.mono k h) (RelDs.mono k r)
end
theorem RelDs.length {K : Fg} {H : Hp} : ∀ {l : List D} {vs : List V}, RelDs K H l vs → l.length = vs.length
  | _, _, .nil => rfl
  | _, _, .cons _ r => congrArg (· + 1) r.length
theorem RelDs.get {K : Fg} {H : Hp} : ∀ {l : List D} {vs : List V} {i : Nat} {d : D}, RelDs K H l vs → l[i]? = some d → ∃ v, vs[i]? = some v ∧ RelD K H d v
  | _, _, _, _, .nil, e => by simp at e
  | _, _, 0, _, .cons h _, e => by simp at e; subst e; exact ⟨_, rfl, h⟩
  | _, _, i + 1, d, .cons _ r, e => by
    obtain ⟨v, h1, h2⟩ := RelDs.get (i := i) (d := d) r (by simpa using e)
    exact ⟨v, by simpa using h1, h2⟩
theorem RelDs.append {K : Fg} {H : Hp} : ∀ {l m : List D} {vs us : List V}, RelDs K H l vs → RelDs K H m us → RelDs K H (l ++ m) (vs ++ us)
  | _, _, _, _, .nil, q => q
  | _, _, _, _, .cons h r, q => .cons h (RelDs.append r q)
theorem RelDs.set {K : Fg} {H : Hp} {d : D} {v : V} (hd : RelD K H d v) : ∀ {l : List D} {vs : List V} (i : Nat), RelDs K H l vs → RelDs K H (l.set i d) (vs.set i v)
  | _, _, _, .nil => .nil
  | _, _, 0, .cons _ r => .cons hd r
  | _, _, i + 1, .cons h r => .cons h (RelDs.set hd i r)
theorem RelDs.take {K : Fg} {H : Hp} : ∀ {l : List D} {vs : List V} (n : Nat), RelDs K H l vs → RelDs K H (l.take n) (vs.take n)
  | _, _, 0, r => by simp only [List.take_zero]; exact .nil
  | _, _, n + 1, .nil => by simp only [List.take_nil]; exact .nil
  | _, _, n + 1, .cons h r => by simp only [List.take_succ_cons]; exact .cons h (RelDs.take n r)
theorem RelDs.drop {K : Fg} {H : Hp} : ∀ {l : List D} {vs : List V} (n : Nat), RelDs K H l vs → RelDs K H (l.drop n) (vs.drop n)
  | _, _, 0, r => by simp only [List.drop_zero]; exact r
  | _, _, n + 1, .nil => by simp only [List.drop_nil]; exact .nil
  | _, _, n + 1, .cons h r => by simp only [List.drop_succ_cons]; exact RelDs.drop n r
theorem RelDs.rep {K : Fg} {H : Hp} {l : List D} {vs : List V} (r : RelDs K H l vs) : ∀ k : Nat, RelDs K H (List.replicate k l).flatten (List.replicate k vs).flatten
  | 0 => .nil
  | k + 1 => by rw [List.replicate_succ, List.replicate_succ, List.flatten_cons, List.flatten_cons]; exact r.append (RelDs.rep r k)
inductive RelFs (K : Fg) (H : Hp) : List (Str × D) → List (Str × V) → Prop where
  | nil : RelFs K H [] []
  | cons {f : Str} {d : D} {v : V} {l : List (Str × D)} {vs : List (Str × V)} : RelD K H d v → RelFs K H l vs → RelFs K H ((f, d) :: l) ((f, v) :: vs)
theorem RelFs.mono {K : Fg} {H H' : Hp} (k : Kp H H') {l : List (Str × D)} {vs : List (Str × V)} (r : RelFs K H l vs) : RelFs K H' l vs := by
  induction r with
  | nil => exact .nil
  | cons h _ ih => exact .cons (h.mono k) ih
noncomputable def kT (t : Int × Int × Int) : List Key := [.inl t.1, .inl t.2.1, .inl t.2.2]
inductive RelKs (K : Fg) (H : Hp) : List ((Int × Int × Int) × D) → List (List Key × V) → Prop where
  | nil : RelKs K H [] []
  | cons {t : Int × Int × Int} {d : D} {v : V} {l : List ((Int × Int × Int) × D)} {vs : List (List Key × V)} : RelD K H d v → RelKs K H l vs → RelKs K H ((t, d) :: l) ((kT t, v) :: vs)
theorem RelKs.mono {K : Fg} {H H' : Hp} (k : Kp H H') {l : List ((Int × Int × Int) × D)} {vs : List (List Key × V)} (r : RelKs K H l vs) : RelKs K H' l vs := by
  induction r with
  | nil => exact .nil
  | cons h _ ih => exact .cons (h.mono k) ih
structure RelM (K : Fg) (μ : Mu) (H : Hp) : Prop where
  lst : ∀ p xs, μ p = some (.lst xs) → ∃ vs, H p = some (.lst vs) ∧ RelDs K H xs vs
  ins : ∀ p c fs, μ p = some (.ins c fs) → ∃ C dx vs, PySem.W.nsIn K mainGlobals c = some (some (.ref C)) ∧ H p = some (.ins C dx vs) ∧ H dx = some (.own p) ∧ RelFs K H fs vs
  dct : ∀ p kvs, μ p = some (.dct kvs) → ∃ vs, H p = some (.dT vs) ∧ RelKs K H kvs vs
instance {K : Fg} {μ : Mu} {H : Hp} : CoeFun (RelM K μ H) (fun _ => ∀ p xs, μ p = some (.lst xs) → ∃ vs, H p = some (.lst vs) ∧ RelDs K H xs vs) := ⟨RelM.lst⟩
theorem RelM.free {K : Fg} {μ : Mu} {H : Hp} (m : RelM K μ H) {p : Addr} (h : H p = none) : μ p = none := by
  cases e : μ p with
  | none => rfl
  | some o =>
    cases o with
    | lst xs =>
      obtain ⟨vs, q, _⟩ := m.lst p xs e
      rw [h] at q; cases q
    | ins c fs =>
      obtain ⟨C, dx, vs, _, q, _⟩ := m.ins p c fs e
      rw [h] at q; cases q
    | dct kvs =>
      obtain ⟨vs, q, _⟩ := m.dct p kvs e
      rw [h] at q; cases q
theorem RelM.newT {K : Fg} {μ : Mu} {H : Hp} {p : Addr} {o : HO} (h : H p = none) (m : RelM K μ H) : RelM K μ (upd H p o) := by
  have ne : ∀ {q : Addr} {u : HO}, H q = some u → q ≠ p := fun {q u} e z => by subst z; rw [h] at e; cases e
  refine ⟨fun q xs e => ?_, fun q c fs e => ?_, fun q kvs e => ?_⟩
  · obtain ⟨vs, q1, r⟩ := m.lst q xs e
    exact ⟨vs, by rw [yd0 (ne q1)]; exact q1, r.mono (Kp.new h)⟩
  · obtain ⟨C, dx, vs, n, q1, q2, r⟩ := m.ins q c fs e
    exact ⟨C, dx, vs, n, by rw [yd0 (ne q1)]; exact q1, by rw [yd0 (ne q2)]; exact q2, r.mono (Kp.new h)⟩
  · obtain ⟨vs, q1, r⟩ := m.dct q kvs e
    exact ⟨vs, by rw [yd0 (ne q1)]; exact q1, r.mono (Kp.new h)⟩
theorem RelM.newL {K : Fg} {μ : Mu} {H : Hp} {p : Addr} {xs : List D} {vs : List V} (h : H p = none) (r : RelDs K H xs vs) (m : RelM K μ H) : RelM K (updM μ p (.lst xs)) (upd H p (.lst vs)) := by
  have m' := m.newT (o := .lst vs) h
  refine ⟨fun q ys e => ?_, fun q c fs e => ?_, fun q kvs e => ?_⟩
  · by_cases z : q = p
    · subst z
      rw [yb0] at e; cases e
      exact ⟨vs, wf0, r.mono (Kp.new h)⟩
    · rw [xc0 z] at e
      exact m'.lst q ys e
  · by_cases z : q = p
    · subst z
      rw [yb0] at e; cases e
    · rw [xc0 z] at e
      exact m'.ins q c fs e
  · by_cases z : q = p
    · subst z
      rw [yb0] at e; cases e
    · rw [xc0 z] at e
      exact m'.dct q kvs e
theorem RelM.wr {K : Fg} {μ : Mu} {H : Hp} {p : Addr} {xs : List D} {vs ws : List V} (h : H p = some (.lst ws)) (r : RelDs K H xs vs) (m : RelM K μ H) : RelM K (updM μ p (.lst xs)) (upd H p (.lst vs)) := by
  refine ⟨fun q ys e => ?_, fun q c fs e => ?_, fun q kvs e => ?_⟩
  · by_cases z : q = p
    · subst z
      rw [yb0] at e; cases e
      exact ⟨vs, wf0, r.mono (Kp.wr h)⟩
    · rw [xc0 z] at e
      rw [yd0 z]
      obtain ⟨us, q1, r1⟩ := m.lst q ys e
      exact ⟨us, q1, r1.mono (Kp.wr h)⟩
  · by_cases z : q = p
    · subst z
      rw [yb0] at e; cases e
    · rw [xc0 z] at e
      obtain ⟨C, dx, us, n, q1, q2, r1⟩ := m.ins q c fs e
      refine ⟨C, dx, us, n, by rw [yd0 z]; exact q1, ?_, r1.mono (Kp.wr h)⟩
      rw [yd0]
      · exact q2
      · intro y; subst y; rw [h] at q2; cases q2
  · by_cases z : q = p
    · subst z
      rw [yb0] at e; cases e
    · rw [xc0 z] at e
      rw [yd0 z]
      obtain ⟨us, q1, r1⟩ := m.dct q kvs e
      exact ⟨us, q1, r1.mono (Kp.wr h)⟩
structure RSt (K : Fg) (H : Hp) (ρ : St3) (σ : St) : Prop where
  len : ρ.length = σ.length
  at' : ∀ i d, getI ρ i = some d → ∃ v, σ[i]? = some (some v) ∧ RelD K H d v
theorem RSt.mono {K : Fg} {H H' : Hp} {ρ : St3} {σ : St} (k : Kp H H') (s : RSt K H ρ σ) : RSt K H' ρ σ := ⟨s.len, fun i d e => let ⟨v, h, r⟩ := s.at' i d e; ⟨v, h, r.mono k⟩⟩
theorem zq1 : ∀ (ρ : St3) (i j : Nat) (d : Option D), getI (ρ.set i d) j = if i = j ∧ i < ρ.length then d else getI ρ j
  | [], i, j, d => by simp [getI]
  | o :: r, 0, 0, d => by simp [getI]
  | o :: r, 0, j + 1, d => by simp [getI]
  | o :: r, i + 1, 0, d => by simp [getI]
  | o :: r, i + 1, j + 1, d => by simp only [List.set_cons_succ, getI, zq1 r i j d, List.length_cons]; simp
theorem RSt.set {K : Fg} {H : Hp} {ρ : St3} {σ : St} {d : D} {v : V} (i : Nat) (r : RelD K H d v) (s : RSt K H ρ σ) : RSt K H (ρ.set i (some d)) (σ.set i (some v)) := by
  refine ⟨by simp [s.len], fun j e h => ?_⟩
  rw [zq1] at h
  split at h
  · next c =>
    obtain ⟨rfl, c2⟩ := c
    cases h
    exact ⟨v, by rw [List.getElem?_set_self (by rw [← s.len]; exact c2)], r⟩
  · next c =>
    obtain ⟨u, q, r'⟩ := s.at' j e h
    have hj : j < σ.length := (List.getElem?_eq_some_iff.mp q).1
    by_cases z : i = j
    · subst z; exact absurd ⟨rfl, by rw [s.len]; exact hj⟩ c
    · exact ⟨u, by rw [List.getElem?_set_ne z]; exact q, r'⟩
theorem RSt.start {K : Fg} {H : Hp} {ds : List D} {vs : List V} (N : List Str) (r : RelDs K H ds vs) : RSt K H (start3 N ds) (L2.start N vs) := by
  have hl := r.length
  refine ⟨by simp [start3, L2.start, hl], fun i d e => ?_⟩
  rw [zj2] at e
  unfold start3 at e
  unfold L2.start
  by_cases c : i < ds.length
  · rw [List.getElem?_append_left (by simpa using c), List.getElem?_map] at e
    cases q : ds[i]? with
    | none => rw [q] at e; cases e
    | some d' =>
      rw [q] at e
      have e' : d' = d := by simpa using e
      subst e'
      obtain ⟨v, h1, h2⟩ := r.get q
      exact ⟨v, by rw [List.getElem?_append_left (by rw [List.length_map]; omega), List.getElem?_map, h1]; rfl, h2⟩
  · rw [List.getElem?_append_right (by simpa using c), List.getElem?_replicate] at e
    split at e <;> simp at e

noncomputable abbrev Ks (K : Fg) (H : Hp) (Q3 : VK3) (Q : VK) : Prop := ∀ d μ' v H', Q3 d μ' → Kp H H' → RelD K H' d v → RelM K μ' H' → Q v H'
theorem Ks.after {K : Fg} {H H1 : Hp} {Q3 : VK3} {Q : VK} (k : Ks K H Q3 Q) (e : Kp H H1) : Ks K H1 Q3 Q := fun d μ v H' q e' => k d μ v H' q (e.trans e')
noncomputable def RdE (K : Fg) (tv : TE) (t : TE3) : Prop := ∀ σ H Q ρ μ Q3, RSt K H ρ σ → RelM K μ H → t ρ μ Q3 → Ks K H Q3 Q → tv σ H Q
noncomputable def RE (X : Cx) (e : Expr) (t : TE3) : Prop := ∃ tv, PE X e tv ∧ RdE X.K tv t
noncomputable def RdT (K : Fg) (tv : TT) (t : TT3) : Prop := ∀ σ H Q ρ μ Q3, RSt K H ρ σ → RelM K μ H → t ρ μ Q3 → (∀ b μ' H', Q3 b μ' → Kp H H' → RelM K μ' H' → Q b H') → tv σ H Q
noncomputable def RT (X : Cx) (e : Expr) (t : TT3) : Prop := ∃ tv, PT X e tv ∧ RdT X.K tv t
noncomputable def RW (X : Cx) (e : Expr) (t : TT3) : Prop := ∃ tv, PW X e tv ∧ RdT X.K tv t
noncomputable def RdA (K : Fg) (tv : TA) (t : TA3) : Prop := ∀ σ H Q ρ μ Q3, RSt K H ρ σ → RelM K μ H → t ρ μ Q3 → (∀ ds μ' vs H', Q3 ds μ' → Kp H H' → RelDs K H' ds vs → RelM K μ' H' → Q vs H') → tv σ H Q
noncomputable def RA (X : Cx) (es : List Expr) (t : TA3) : Prop := ∃ tv, PA X es tv ∧ RdA X.K tv t
structure KsD (K : Fg) (H : Hp) (D3 : Ends3) (D : Ends) : Prop where
  nx : ∀ ρ μ σ H', D3.nx ρ μ → Kp H H' → RSt K H' ρ σ → RelM K μ H' → D.nx σ H'
  bk : ∀ ρ μ σ H', D3.bk ρ μ → Kp H H' → RSt K H' ρ σ → RelM K μ H' → D.bk σ H'
  ct : ∀ ρ μ σ H', D3.ct ρ μ → Kp H H' → RSt K H' ρ σ → RelM K μ H' → D.ct σ H'
  rt : Ks K H D3.rt D.rt
theorem KsD.after {K : Fg} {H H1 : Hp} {D3 : Ends3} {D : Ends} (k : KsD K H D3 D) (e : Kp H H1) : KsD K H1 D3 D :=
  ⟨fun ρ μ σ H' q e' => k.nx ρ μ σ H' q (e.trans e'), fun ρ μ σ H' q e' => k.bk ρ μ σ H' q (e.trans e'), fun ρ μ σ H' q e' => k.ct ρ μ σ H' q (e.trans e'), k.rt.after e⟩
noncomputable def RdS (K : Fg) (tv : TS) (t : TS3) : Prop := ∀ σ H D ρ μ D3, RSt K H ρ σ → RelM K μ H → t D3 ρ μ → KsD K H D3 D → tv D σ H
noncomputable def RS (X : Cx) (st : Stmt) (t : TS3) : Prop := ∃ tv, PS X st tv ∧ RdS X.K tv t
noncomputable def RSs (X : Cx) (st : List Stmt) (t : TS3) : Prop := ∃ tv, PSs X st tv ∧ RdS X.K tv t
noncomputable def RdG (K : Fg) (tv : TG) (t : TG3) : Prop := ∀ v d σ H Q ρ μ Q3, RSt K H ρ σ → RelM K μ H → RelD K H d v → t d ρ μ Q3 → (∀ ρ' μ' σ' H', Q3 ρ' μ' → Kp H H' → RSt K H' ρ' σ' → RelM K μ' H' → Q σ' H') → tv v σ H Q
noncomputable def RG (X : Cx) (e : Expr) (t : TG3) : Prop := ∃ tv, PG X e tv ∧ RdG X.K tv t
noncomputable def RdGs (K : Fg) (tv : TGs) (t : TGs3) : Prop := ∀ vs ds σ H Q ρ μ Q3, RSt K H ρ σ → RelM K μ H → RelDs K H ds vs → t ds ρ μ Q3 → (∀ ρ' μ' σ' H', Q3 ρ' μ' → Kp H H' → RSt K H' ρ' σ' → RelM K μ' H' → Q σ' H') → tv vs σ H Q
noncomputable def RGs (X : Cx) (es : List Expr) (t : TGs3) : Prop := ∃ tv, PGs X es tv ∧ RdGs X.K tv t
noncomputable def RdO (K : Fg) (r : R2) (r3 : R3) : Prop := ∀ x y v u H Q μ Q3, RelM K μ H → RelD K H x v → RelD K H y u → r3 x y μ Q3 → Ks K H Q3 Q → r v u H Q
noncomputable def RO (X : Cx) (f : Value → Value → Sem Value) (r3 : R3) : Prop := ∃ r, OpR X f r ∧ RdO X.K r r3
noncomputable def RdU (K : Fg) (r : V → Hp → VK → Prop) (r3 : D → Mu → VK3 → Prop) : Prop := ∀ x v H Q μ Q3, RelM K μ H → RelD K H x v → r3 x μ Q3 → Ks K H Q3 Q → r v H Q
noncomputable def RU (X : Cx) (f : Value → Sem Value) (r3 : D → Mu → VK3 → Prop) : Prop := ∃ r, UnR X f r ∧ RdU X.K r r3
noncomputable def RdC (K : Fg) (r : List V → Hp → VK → Prop) (r3 : C3) : Prop := ∀ xs vs H Q μ Q3, RelM K μ H → RelDs K H xs vs → r3 xs μ Q3 → Ks K H Q3 Q → r vs H Q
noncomputable def RC (X : Cx) (f : Value) (r3 : C3) : Prop := ∃ r, CallR X f r ∧ RdC X.K r r3
noncomputable def RX (X : Cx) (r3 : R3) : Prop := ∃ r, IxR X r ∧ RdO X.K r r3
end Pv

namespace Pv
open PySem L2
section
variable {X : Cx} {a b c e : Expr} {ta tb tc te : TE3} {pos : Pos}
theorem ya0 (i : Nat) {x : Str} (hN : X.N[i]? = some x := by rfl) (hv : Vis X.env.scope x := by first | exact Or.inl rfl | exact Or.inr (Or.inl rfl) | exact Or.inr (Or.inr rfl)) (hd : (x == ("__debug__" : Str)) = false := by decide)
    (hcd : (x == ("__classdict__" : Str)) = false := by decide) : RE X (.Name x pos) (v3 i) := by
  refine ⟨_, zv4 hN hv hd hcd, fun σ H Q ρ μ Q3 s m h k => ?_⟩
  unfold v3 at h
  cases q : getI ρ i with
  | none => rw [q] at h; exact h.elim
  | some d =>
    rw [q] at h
    obtain ⟨v, e, r⟩ := s.at' i d q
    exact ⟨v, e, k d μ v H h (Kp.refl H) r m⟩
theorem RdE.cst {K : Fg} {d : D} {v : V} (r : ∀ H, RelD K H d v) : RdE K (tC v) (c3 d) := fun σ H Q ρ μ Q3 s m h k => k d μ v H h (Kp.refl H) (r H) m
theorem wa0 {i : Int} {j} : RE X (.Constant (.int i) j pos) (c3 (.int i)) := ⟨_, zf7, RdE.cst fun _ => .int i⟩
theorem xh2 {i : Bool} {j} : RE X (.Constant (.bool i) j pos) (c3 (.bl i)) := ⟨_, zg8, RdE.cst fun _ => .bl i⟩
theorem xx1 {j} : RE X (.Constant .none j pos) (c3 .non) := ⟨_, xf7, RdE.cst fun _ => .non⟩
theorem zu4 {x : Str} {j} : RE X (.Constant (.str x) j pos) (c3 (.str x)) := ⟨_, we7, RdE.cst fun _ => .str x⟩
noncomputable def Gd (K : Fg) (mg : Str → Option Value) (x : Str) (d : D) : Prop := ∃ u v, mg x = some u ∧ RelV v u ∧ ∀ H, RelD K H d v
theorem re_g {x : Str} {d : D} (g : Gd X.K X.mg x d) (hg : Gl X x := by rfl) (hd : (x == ("__debug__" : Str)) = false := by decide) : RE X (.Name x pos) (c3 d) := by
  obtain ⟨u, v, hm, r, rd⟩ := g
  exact ⟨_, xn5 hg hm r hd, RdE.cst rd⟩
theorem wd0 {op : Operator} {r3 : R3} (ho : RO X (binaryOp op) r3) (ha : RE X a ta) (hb : RE X b tb) : RE X (.BinOp a op b pos) (o3 r3 ta tb) := by
  obtain ⟨r, po, ro⟩ := ho
  obtain ⟨va, pa, ra⟩ := ha
  obtain ⟨vb, pb, rb⟩ := hb
  exact ⟨_, wf8 po pa pb, fun σ H Q ρ μ Q3 s m h k => ra σ H _ ρ μ _ s m h fun x μ1 v H1 h1 k1 r1 m1 => rb σ H1 _ ρ μ1 _ (s.mono k1) m1 h1 fun y μ2 u H2 h2 k2 r2 m2 =>
    ro x y v u H2 Q μ2 Q3 m2 (r1.mono k2) r2 h2 (k.after (k1.trans k2))⟩
theorem xm3 {op : UnaryOp} {r3 : D → Mu → VK3 → Prop} (ho : RU X (unaryOp op) r3) (ha : RE X a ta) : RE X (.UnaryOp op a pos) (un3 r3 ta) := by
  obtain ⟨r, po, ro⟩ := ho
  obtain ⟨va, pa, ra⟩ := ha
  exact ⟨_, zf8 po pa, fun σ H Q ρ μ Q3 s m h k => ra σ H _ ρ μ _ s m h fun x μ1 v H1 h1 k1 r1 m1 => ro x v H1 Q μ1 Q3 m1 r1 h1 (k.after k1)⟩
theorem RdE.op {K : Fg} {r : R2} {r3 : R3} {va vb : TE} (ra : RdE K va ta) (rb : RdE K vb tb) (ro : RdO K r r3) : RdE K (tOp r va vb) (o3 r3 ta tb) := fun σ H Q ρ μ Q3 s m h k =>
  ra σ H _ ρ μ _ s m h fun x μ1 v H1 h1 k1 r1 m1 => rb σ H1 _ ρ μ1 _ (s.mono k1) m1 h1 fun y μ2 u H2 h2 k2 r2 m2 => ro x y v u H2 Q μ2 Q3 m2 (r1.mono k2) r2 h2 (k.after (k1.trans k2))
theorem RdT.test {K : Fg} {va : TE} (ra : RdE K va ta) : RdT K (xi6 va) (b3 ta) := fun σ H Q ρ μ Q3 s m h k => by
  refine ra σ H _ ρ μ _ s m h fun d μ1 v H1 h1 k1 r1 m1 => ?_
  cases r1 with
  | bl c => exact ⟨c, rfl, k c μ1 H1 h1 k1 m1⟩
  | _ => exact False.elim h1
theorem ym3 {op : CmpOp} {r3 : R3} (ho : RO X (compareOp op) r3) (ha : RE X a ta) (hb : RE X b tb) (hm : behindInMarks op b = false := by first | exact yw4 _ | with_unfolding_all rfl) : RE X (.Compare a [op] [b] pos) (o3 r3 ta tb) := by
  obtain ⟨r, po, ro⟩ := ho
  obtain ⟨va, pa, ra⟩ := ha
  obtain ⟨vb, pb, rb⟩ := hb
  exact ⟨_, zn5 po pa pb hm, ra.op rb ro⟩
theorem xf0 {op : CmpOp} {r3 : R3} (ho : RO X (compareOp op) r3) (ha : RE X a ta) (hb : RE X b tb) (hm : behindInMarks op b = false := by first | exact yw4 _ | with_unfolding_all rfl) : RT X (.Compare a [op] [b] pos) (b3 (o3 r3 ta tb)) := by
  obtain ⟨r, po, ro⟩ := ho
  obtain ⟨va, pa, ra⟩ := ha
  obtain ⟨vb, pb, rb⟩ := hb
  exact ⟨_, yk5 po pa pb hm, RdT.test (ra.op rb ro)⟩
theorem wk3 (ha : RE X a ta) (he : ∀ whole, isTrue a X.env whole = (do let v ← whole; standAt a.pos; holding [v] (truthy v)) := by intro _; rfl) : RT X a (b3 ta) := by
  obtain ⟨va, pa, ra⟩ := ha
  exact ⟨_, wc7 pa he, RdT.test ra⟩
variable {tA tB' : TT3} {rest : List Expr}
theorem RW.pt (h : RW X a tA) : RT X a tA := let ⟨t, p, r⟩ := h; ⟨t, p.pt, r⟩
theorem yk3 (h : RW X a tA) : RT X a tA := h.pt
theorem wg2 (h : RT X a tA) : RW X (.BoolOp .And [a] pos) tA := let ⟨t, p, r⟩ := h; ⟨t, wj5 p, r⟩
theorem wt4 (h : RT X a tA) : RW X (.BoolOp .Or [a] pos) tA := let ⟨t, p, r⟩ := h; ⟨t, yc7 p, r⟩
theorem zk3 (ha : RT X a tA) (hb : RW X (.BoolOp .And (b :: rest) pos) tB') : RW X (.BoolOp .And (a :: b :: rest) pos) (and3 tA tB') := by
  obtain ⟨va, pa, ra⟩ := ha
  obtain ⟨vb, pb, rb⟩ := hb
  refine ⟨_, zc7 pa pb, fun σ H Q ρ μ Q3 s m h k => ra σ H _ ρ μ _ s m h fun c μ1 H1 h1 k1 m1 => ?_⟩
  cases c with
  | true => exact rb σ H1 Q ρ μ1 Q3 (s.mono k1) m1 h1 fun b μ' H' q e => k b μ' H' q (k1.trans e)
  | false => exact k _ _ _ h1 k1 m1
theorem yo6 (ha : RT X a tA) (hb : RW X (.BoolOp .Or (b :: rest) pos) tB') : RW X (.BoolOp .Or (a :: b :: rest) pos) (or3 tA tB') := by
  obtain ⟨va, pa, ra⟩ := ha
  obtain ⟨vb, pb, rb⟩ := hb
  refine ⟨_, we8 pa pb, fun σ H Q ρ μ Q3 s m h k => ra σ H _ ρ μ _ s m h fun c μ1 H1 h1 k1 m1 => ?_⟩
  cases c with
  | true => exact k _ _ _ h1 k1 m1
  | false => exact rb σ H1 Q ρ μ1 Q3 (s.mono k1) m1 h1 fun b μ' H' q e => k b μ' H' q (k1.trans e)
theorem xu4 (ha : RT X a tA) : RT X (.UnaryOp .Not a pos) (not3 tA) := by
  obtain ⟨va, pa, ra⟩ := ha
  exact ⟨_, xd7 pa, fun σ H Q ρ μ Q3 s m h k => ra σ H _ ρ μ _ s m h fun c μ1 H1 h1 k1 m1 => k _ _ _ h1 k1 m1⟩
theorem xa8 (hc : RT X c tA) (ha : RE X a ta) (hb : RE X b tb) : RE X (.IfExp c a b pos) (if3 tA ta tb) := by
  obtain ⟨vc, pc, rc⟩ := hc
  obtain ⟨va, pa, ra⟩ := ha
  obtain ⟨vb, pb, rb⟩ := hb
  refine ⟨_, yi4 pc pa pb, fun σ H Q ρ μ Q3 s m h k => rc σ H _ ρ μ _ s m h fun c μ1 H1 h1 k1 m1 => ?_⟩
  cases c with
  | true => exact ra σ H1 Q ρ μ1 Q3 (s.mono k1) m1 h1 (k.after k1)
  | false => exact rb σ H1 Q ρ μ1 Q3 (s.mono k1) m1 h1 (k.after k1)
variable {es : List Expr} {t : TA3}
theorem xb0 : RA X [] nil3 := ⟨_, xw4, fun σ H Q ρ μ Q3 s m h k => k [] μ [] H h (Kp.refl H) .nil m⟩
theorem xa0 (ha : RE X e te) (hr : RA X es t) (hs : starEach (e :: es) X.env = (false, eval e X.env) :: starEach es X.env := by rfl) : RA X (e :: es) (cons3 te t) := by
  obtain ⟨va, pa, ra⟩ := ha
  obtain ⟨vb, pb, rb⟩ := hr
  exact ⟨_, zh2 pa pb hs, fun σ H Q ρ μ Q3 s m h k => ra σ H _ ρ μ _ s m h fun d μ1 v H1 h1 k1 r1 m1 => rb σ H1 _ ρ μ1 _ (s.mono k1) m1 h1 fun ds μ2 vs H2 h2 k2 r2 m2 =>
    k _ _ _ _ h2 (k1.trans k2) (.cons (r1.mono k2) r2) m2⟩
theorem yf0 {x1} (h : RA X es t) : RE X (.Tuple es x1 pos) (tup3 t) := by
  obtain ⟨va, pa, ra⟩ := h
  refine ⟨_, wv4 pa, fun σ H Q ρ μ Q3 s m h k => ra σ H _ ρ μ _ s m h fun ds μ1 vs H1 h1 k1 r1 m1 => ⟨by rw [← r1.length]; exact h1.1, fun p hp => ?_⟩⟩
  exact k _ _ _ _ h1.2 (k1.trans (Kp.new hp)) (.tup (SqT.of wf0) (r1.mono (Kp.new hp))) (m1.newT hp)
theorem yn0 (h : RA X es t) : RE X (.List es pos) (lst3 t) := by
  obtain ⟨va, pa, ra⟩ := h
  refine ⟨_, yf7 pa, fun σ H Q ρ μ Q3 s m h k => ra σ H _ ρ μ _ s m h fun ds μ1 vs H1 h1 k1 r1 m1 => ⟨by rw [← r1.length]; exact h1.1, fun p hp => ?_⟩⟩
  exact k _ _ _ _ (h1.2 p (m1.free hp)) (k1.trans (Kp.new hp)) (.ref p) (m1.newL hp r1)
variable {st : Stmt} {sts : List Stmt} {t3 u3 : TS3}
theorem xg0 : RSs X [] next3 := ⟨_, wk5, fun σ H D ρ μ D3 s m h k => k.nx ρ μ σ H h (Kp.refl H) s m⟩
theorem wb0 (h : RS X st t3) : RSs X [st] t3 := let ⟨t, p, r⟩ := h; ⟨t, zk5 p, r⟩
theorem zb0 (h1 : RS X st t3) (h2 : RSs X sts u3) : RSs X (st :: sts) (seq3 t3 u3) := by
  obtain ⟨va, pa, ra⟩ := h1
  obtain ⟨vb, pb, rb⟩ := h2
  refine ⟨_, xh4 pa pb, fun σ H D ρ μ D3 s m h k => ra σ H _ ρ μ _ s m h ⟨fun ρ1 μ1 σ1 H1 h1 k1 s1 m1 => rb σ1 H1 D ρ1 μ1 D3 s1 m1 h1 (k.after k1), k.bk, k.ct, k.rt⟩⟩
theorem ze0 (he : RE X e te) (hs : swapsWith e none pos.line X.env = pure false := by rfl) : RS X (.Expr e pos) (drop3 te) := by
  obtain ⟨va, pa, ra⟩ := he
  exact ⟨_, yl5 pa hs, fun σ H D ρ μ D3 s m h k => ra σ H _ ρ μ _ s m h fun d μ1 v H1 h1 k1 r1 m1 => k.nx ρ μ1 σ H1 h1 k1 (s.mono k1) m1⟩
theorem zd0 (he : RE X e te) : RS X (.Return (some e) pos) (ret3 te) := by
  obtain ⟨va, pa, ra⟩ := he
  exact ⟨_, yd7 pa, fun σ H D ρ μ D3 s m h k => ra σ H _ ρ μ _ s m h k.rt⟩
theorem yk0 {as bs : List Stmt} (hc : RT X c tA) (ha : RSs X as t3) (hb : RSs X bs u3) : RS X (.If c as bs pos) (ifs3 tA t3 u3) := by
  obtain ⟨vc, pc, rc⟩ := hc
  obtain ⟨va, pa, ra⟩ := ha
  obtain ⟨vb, pb, rb⟩ := hb
  refine ⟨_, yf8 pc pa pb, fun σ H D ρ μ D3 s m h k => rc σ H _ ρ μ _ s m h fun c μ1 H1 h1 k1 m1 => ?_⟩
  cases c with
  | true => exact ra σ H1 D ρ μ1 D3 (s.mono k1) m1 h1 (k.after k1)
  | false => exact rb σ H1 D ρ μ1 D3 (s.mono k1) m1 h1 (k.after k1)
theorem zk0 {i : Nat} {x : Str} (hN : X.N.Nodup) (hi : X.N[i]? = some x := by rfl) (hx : Loc X.env.scope x := by first | exact Or.inl rfl | exact Or.inr rfl) (hf : X.fn x = true ∨ X.env.scope.names.lookup x = some .local := by first | exact .inl rfl | exact .inr rfl) :
    RG X (.Name x pos) (gn3 i) := ⟨_, zm5 hN hi hx hf, fun v d σ H Q ρ μ Q3 s m r h k => k _ _ _ _ h (Kp.refl H) (s.set i r) m⟩
theorem zl3 : RGs X [] gnil3 := ⟨_, ym5, fun vs ds σ H Q ρ μ Q3 s m r h k => by
  cases r with
  | nil => exact ⟨rfl, k _ _ _ _ h (Kp.refl H) s m⟩
  | cons _ _ => exact False.elim h⟩
theorem wy0 {g : TG3} {gs : TGs3} (h1 : RG X e g) (h2 : RGs X es gs) (hs : (assignEach (e :: es) X.env).map (·.2) = assign e X.env :: (assignEach es X.env).map (·.2) := by rfl) : RGs X (e :: es) (gcons3 g gs) := by
  obtain ⟨va, pa, ra⟩ := h1
  obtain ⟨vb, pb, rb⟩ := h2
  refine ⟨_, wh4 pa pb hs, fun vs ds σ H Q ρ μ Q3 s m r h k => ?_⟩
  cases r with
  | nil => exact False.elim h
  | cons r1 r2 => exact ⟨_, _, rfl, ra _ _ σ H _ ρ μ _ s m r1 h fun ρ1 μ1 σ1 H1 h1 k1 s1 m1 => rb _ _ σ1 H1 Q ρ1 μ1 Q3 s1 m1 (r2.mono k1) h1 fun ρ' μ' σ' H' q e => k ρ' μ' σ' H' q (k1.trans e)⟩
theorem yu4 {kk : Nat} {gs : TGs3} {n : Nat} (hc : X.calm = true) (h : RGs X es gs) (hn : (assignEach es X.env).length = n := by rfl) (hst : (assignEach es X.env).findIdx? (·.1) = none := by rfl) : RG X (.Tuple es kk pos) (gtup3 n gs) := by
  obtain ⟨va, pa, ra⟩ := h
  refine ⟨_, ye7 hc pa hn hst, fun v d σ H Q ρ μ Q3 s m r h k => ?_⟩
  cases r with
  | tup hq rs =>
    obtain ⟨hl, h⟩ := h
    exact ⟨_, _, rfl, hq, by rw [← rs.length]; exact hl, ra _ _ σ H Q ρ μ Q3 s m rs h k⟩
  | _ => exact False.elim h
theorem xe0 {i : Nat} {x : Str} {pos' : Pos} (hN : X.N.Nodup) (he : RE X e te) (hi : X.N[i]? = some x := by rfl) (hx : Loc X.env.scope x := by first | exact Or.inl rfl | exact Or.inr rfl) (hs : swapsWith e (some (.Name x pos')) pos.line X.env = pure false := by rfl)
    (hf : X.fn x = true ∨ X.env.scope.names.lookup x = some .local := by first | exact .inl rfl | exact .inr rfl) : RS X (.Assign [.Name x pos'] e pos) (set3 i te) := by
  obtain ⟨va, pa, ra⟩ := he
  exact ⟨_, xo3 hN hi hx pa hs hf, fun σ H D ρ μ D3 s m h k => ra σ H _ ρ μ _ s m h fun d μ1 v H1 h1 k1 r1 m1 => k.nx _ _ _ _ h1 k1 ((s.mono k1).set i r1) m1⟩
theorem wo2 {tg : Expr} {g : TG3} (he : RE X e te) (hg : RG X tg g) (hs : swapsWithSole [tg] e pos.line X.env = pure false := by rfl) (hw : swappedStores [tg] e X.env = pure none := by rfl)
    (h1 : (assignEach [tg] X.env).map (·.2) = [assign tg X.env] := by rfl) : RS X (.Assign [tg] e pos) (asg3 te g) := by
  obtain ⟨va, pa, ra⟩ := he
  obtain ⟨vg, pg, rg⟩ := hg
  exact ⟨_, wd7 pa pg hs hw h1, fun σ H D ρ μ D3 s m h k => ra σ H _ ρ μ _ s m h fun d μ1 v H1 h1 k1 r1 m1 => rg v d σ H1 _ ρ μ1 _ (s.mono k1) m1 r1 h1 fun ρ' μ' σ' H' q e => k.nx ρ' μ' σ' H' q (k1.trans e)⟩
theorem wl7 (n : Nat) (i : Int) : L2.ixN n i = ixN n i := rfl
theorem zp2 {o i : Expr} {to ti : TE3} (ho : RE X o to) (hi : RE X i ti)
    (ha : ∀ v, assign (.Subscript o i pos) X.env v = (do
      let ov ← holding [v] (eval o X.env)
      let iv ← holding [v, ov] (eval i X.env)
      standAt pos
      holding [v, ov, iv] (setItem ov iv v)
      release [v, ov, iv] []) := by intro _; rfl) : RG X (.Subscript o i pos) (sub3 to ti) := by
  obtain ⟨va, pa, ra⟩ := ho
  obtain ⟨vb, pb, rb⟩ := hi
  refine ⟨_, ze7 pa pb zm1 ha, fun v d σ H Q ρ μ Q3 s m r h k => ra σ H _ ρ μ _ s m h fun o' μ1 ov H1 h1 k1 r1 m1 => rb σ H1 _ ρ μ1 _ (s.mono k1) m1 h1 fun i' μ2 iv H2 h2 k2 r2 m2 => ?_⟩
  cases r1 with
  | ref p =>
    cases r2 with
    | int kk =>
      dsimp only at h2
      cases e : μ2 p with
      | none => rw [e] at h2; exact h2.elim
      | some oo =>
        cases oo with
        | ins _ _ => rw [e] at h2; exact h2.elim
        | dct _ => rw [e] at h2; exact h2.elim
        | lst xs =>
          rw [e] at h2
          dsimp only at h2
          cases e2 : ixN xs.length kk with
          | none => rw [e2] at h2; exact h2.elim
          | some j =>
            rw [e2] at h2
            obtain ⟨vs, hv, rv⟩ := m2 p xs e
            have kk' := k1.trans k2
            refine ⟨p, vs, kk, j, rfl, rfl, hv, by rw [← rv.length]; exact e2, k _ _ _ _ h2 (kk'.trans (Kp.wr hv)) (s.mono (kk'.trans (Kp.wr hv))) (m2.wr hv (rv.set (r.mono kk') j))⟩
    | _ => exact False.elim h2
  | _ => cases r2 <;> exact False.elim h2
end
end Pv

namespace Pv
open PySem PySem.Spec PyProof.Rows L2
noncomputable def ItOk (K : Fg) (J : It) (l : List D) (S : Mu → Prop) (H0 : Hp) : Prop := ∀ i H μ, Kp H0 H → RelM K μ H → S μ →
  (∀ d, l[i]? = some d → J.go i H ∧ ∀ x H2, J.yld i H x H2 → Kp H H2 ∧ RelM K μ H2 ∧ RelD K H2 d x) ∧ (l.length ≤ i → J.stop i H)
noncomputable def RdI (K : Fg) (wi : TI) (ti : TI3) : Prop := ∀ σ H R ρ μ R3, RSt K H ρ σ → RelM K μ H → ti ρ μ R3 → (∀ l S μ' J H', R3 l S μ' → Kp H H' → RelM K μ' H' → ItOk K J l S H' → R J H') → wi σ H R
noncomputable def RI (X : Cx) (tg iter : Expr) (ti : TI3) : Prop := ∃ wi, PI X tg iter wi ∧ RdI X.K wi ti
section
variable {X : Cx} {tg iter a b c e : Expr} {ta tb te : TE3} {pos : Pos}
noncomputable def Its (z : Str) : It := ⟨fun i _ => i < z.cps.size, fun i H x H' => H' = H ∧ ∃ c, z.cps[i]? = some c ∧ x = .str ⟨#[c]⟩, fun i _ => z.cps.size ≤ i⟩
theorem ym2 {P : Program} {w : World} {K : Fg} {tg : Expr} (T : String) (x : Str) (t : Tok) (it : Addr)
    (hT : ["enumerate", "zip", "dict_itemiterator", "dict_reverseitemiterator", "odict_iterator", "itertools.zip_longest", "itertools.pairwise"].contains T = false)
    (W : ∀ A : Around, A.handled = none → Walks P w A it [it] [it] x.cps.size (SignAt x) (fun i h => h.IsStrIter it T x t i))
    (sf : ∀ (A : Around) (i : Nat) (s : Shared) (Q : Value → Shared → Prop) (E : Value → Shared → Prop), s.heap.IsStrIter it T x t i → Q (.ref it) s → wpAny (model P w) A (pyIter (.ref it)) Q E s) :
    Turn P w K tg (Its x) [it] it (fun i h => h.IsStrIter it T x t i ∧ i ≤ x.cps.size) where
  mem := by simp
  obj := fun i h st b hb => by
    have e : b = it := by simpa using hb
    subst e
    obtain ⟨⟨o, e, c, d⟩, _⟩ := st
    exact ⟨o, e, fun v z => by rw [d] at z; cases z⟩
  keep := fun i h h' st k => by
    obtain ⟨⟨o, e, c, d⟩, l⟩ := st
    exact ⟨⟨o, k it (by simp) o e, c, d⟩, l⟩
  item := by
    intro X hP hw hK hc i pins s σ H E I hf st hg
    subst hP hw hK
    obtain ⟨f0, f1, f2, f3, f4, f5⟩ := hf it (by simp)
    refine (W X.A (I.ok.hd hc)).item i s _ E hg st.1 fun v h' tk hP hst' hk => ?_
    obtain ⟨c, u, ec, rfl⟩ := hP
    have I1 : Inv X pins σ H { s with heap := h', toks := tk } := I.turned (t' := tk) (fun b o hb e => hk b o (by simpa using hb) e) f0 f1 f3 f4 f5
    obtain ⟨o, e, c1, d⟩ := id hst'
    exact ⟨_, rfl, zn4 (s := { s with heap := h', toks := tk }) e c1 d hT ⟨.str ⟨#[c]⟩, H, I1, ⟨u, rfl⟩, ⟨rfl, c, ec, rfl⟩, ⟨hst', hg⟩, fun b hb => (hf b hb).1⟩⟩
  done := by
    intro X hP hw hK hc i pins s σ H E I hf st hg
    subst hP hw hK
    have hg' : x.cps.size ≤ i := hg
    obtain ⟨f0, f1, f2, f3, f4, f5⟩ := hf it (by simp)
    have e1 : i = x.cps.size := Nat.le_antisymm st.2 hg'
    subst e1
    exact (W X.A (I.ok.hd hc)).done s _ E st.1 fun h' tk hk => ⟨rfl, I.turned (t' := tk) (fun b o hb e => hk b o (by simpa using hb) e) f0 f1 f3 f4 f5⟩
  self := fun A i s Q E st h => sf A i s Q E st.1 h
noncomputable def iSeq (K : Fg) (tl : TE) : TI := fun σ H R => tl σ H fun x H1 => (∃ z, x = .str z ∧ R (Its z) H1) ∨ ∃ a, x = .ref a ∧ (((∃ xs, SqL K H1 a xs) ∧ R (Itl K a) H1) ∨ ((∃ xs, SqT K H1 a xs) ∧ R (Itt K a) H1))
theorem xe7 {l : Expr} {tl : TE} (hl : PE X l tl) : PI X tg l (iSeq X.K tl) := by
  intro pins s σ H R I h
  refine thn (hl pins s σ H _ I h) fun v s1 ⟨x, H1, I1, r1, q1⟩ => ?_
  have fp : ∀ b ∈ [s1.heap.objs.size], FpOk X pins H1 b := fun b hb => by
    have e : b = s1.heap.objs.size := by simpa using hb
    subst e
    exact I1.fpOk (Nat.le_refl _) (I1.hok.fresh (Nat.le_refl _))
  rcases q1 with ⟨z, e, q⟩ | ⟨a, e, q⟩
  · subst e
    obtain ⟨t, rfl⟩ := r1
    cases ha : z.cps.all (· < 128)
    · refine wpAny_pyIter_wide ha ?_
      exact ⟨s1.heap.objs.size, [s1.heap.objs.size], _, _, H1, rfl, I1.kept (t' := s1.toks) fun b o e => Heap.get?_push_of_some _ e, ym2 "str_iterator" z t _ (by decide) (fun A hA => Walks.strWide hA _ z t) (fun _ _ _ _ _ st h => wpAny_pyIter_striter_wide st h), ⟨⟨_, Heap.get?_push_size _ rfl, rfl, rfl⟩, Nat.zero_le _⟩, fp, q⟩
    · refine wpAny_pyIter_ascii ha ?_
      exact ⟨s1.heap.objs.size, [s1.heap.objs.size], _, _, H1, rfl, I1.kept (t' := s1.toks) fun b o e => Heap.get?_push_of_some _ e, ym2 "str_ascii_iterator" z t _ (by decide) (fun A hA => Walks.strAscii hA _ z t) (fun _ _ _ _ _ st h => wpAny_pyIter_striter_ascii st h), ⟨⟨_, Heap.get?_push_size _ rfl, rfl, rfl⟩, Nat.zero_le _⟩, fp, q⟩
  subst e
  cases r1
  rcases q with ⟨⟨xs, hq⟩, q⟩ | ⟨⟨xs, hq⟩, q⟩
  · obtain ⟨its, rv, p, hz⟩ := I1.list hq
    refine wpAny_pyIter_list p.isList ?_
    exact ⟨s1.heap.objs.size, [s1.heap.objs.size], _, _, H1, rfl, I1.kept (t' := s1.toks) fun b o e => Heap.get?_push_of_some _ e, wf3 a _, ⟨_, Heap.get?_push_size _ rfl, rfl, rfl⟩, fp, q⟩
  · obtain ⟨its, rv, p, hz⟩ := I1.tuple hq
    refine wpAny_pyIter_tuple (show s1.heap.IsTuple a its.toArray from p) ?_
    exact ⟨s1.heap.objs.size, [s1.heap.objs.size], _, _, H1, rfl, I1.kept (t' := s1.toks) fun b o e => Heap.get?_push_of_some _ e, xv2 a _, ⟨_, Heap.get?_push_size _ rfl, rfl, rfl⟩, fp, q⟩
theorem xl4 {K : Fg} {H0 : Hp} {a : Addr} {l : List D} {vs : List V} (h : SqT K H0 a vs) (r : RelDs K H0 l vs) : ItOk K (Itt K a) l (fun _ => True) H0 := fun i H μ k m _ => by
  refine ⟨fun d e => ?_, fun hl => ⟨vs, SqT.mono k h, by rw [← r.length]; exact hl⟩⟩
  obtain ⟨v, e1, r1⟩ := r.get e
  refine ⟨⟨vs, v, SqT.mono k h, e1⟩, fun x H2 y => ?_⟩
  obtain ⟨rfl, y⟩ := y
  have e2 := y vs (SqT.mono k h)
  rw [e1] at e2; cases e2
  exact ⟨Kp.refl _, m, r1.mono k⟩
theorem wl4 {K : Fg} {H0 : Hp} {a : Addr} {l : List D} {vs : List V} (h : SqF K H0 a vs) (r : RelDs K H0 l vs) : ItOk K (Itl K a) l (fun _ => True) H0 := fun i H μ k m _ => by
  refine ⟨fun d e => ?_, fun hl => ⟨vs, (SqF.mono k h).l, by rw [← r.length]; exact hl⟩⟩
  obtain ⟨v, e1, r1⟩ := r.get e
  refine ⟨⟨vs, v, (SqF.mono k h).l, e1⟩, fun x H2 y => ?_⟩
  obtain ⟨rfl, y⟩ := y
  have e2 := y vs (SqF.mono k h).l
  rw [e1] at e2; cases e2
  exact ⟨Kp.refl _, m, r1.mono k⟩
theorem zl4 {K : Fg} {H0 : Hp} {a : Addr} {l : List D} : ItOk K (Itl K a) l (fun μ => μ a = some (.lst l)) H0 := fun i H μ k m s => by
  obtain ⟨vs, h, r⟩ := m a l s
  refine ⟨fun d e => ?_, fun hl => ⟨vs, SqL.of h, by rw [← r.length]; exact hl⟩⟩
  obtain ⟨v, e1, r1⟩ := r.get e
  refine ⟨⟨vs, v, SqL.of h, e1⟩, fun x H2 y => ?_⟩
  obtain ⟨rfl, y⟩ := y
  have e2 := y vs (SqL.of h)
  rw [e1] at e2; cases e2
  exact ⟨Kp.refl _, m, r1⟩
theorem yl4 {K : Fg} {H0 : Hp} (z : Str) : ItOk K (Its z) (z.cps.toList.map fun c => D.str ⟨#[c]⟩) (fun _ => True) H0 := fun i H μ k m _ => by
  refine ⟨fun d e => ?_, fun hl => by show z.cps.size ≤ i; simpa using hl⟩
  rw [List.getElem?_map, Array.getElem?_toList] at e
  cases ec : z.cps[i]? with
  | none => rw [ec] at e; cases e
  | some c =>
    rw [ec] at e
    cases e
    refine ⟨?_, fun x H2 y => ?_⟩
    · show i < z.cps.size
      rcases Nat.lt_or_ge i z.cps.size with h | h
      · exact h
      · rw [Array.getElem?_eq_none h] at ec; cases ec
    · obtain ⟨rfl, c', ec', rfl⟩ := y
      rw [ec] at ec'; cases ec'
      exact ⟨Kp.refl _, m, .str _⟩
theorem yj1 (ha : RE X a ta) : RI X tg a (is3 ta) := by
  obtain ⟨va, pa, ra⟩ := ha
  refine ⟨_, xe7 pa, fun σ H R ρ μ R3 s m h k => ra σ H _ ρ μ _ s m h fun d μ1 v H1 h1 k1 r1 m1 => ?_⟩
  cases r1 with
  | str z => exact .inl ⟨z, rfl, k _ _ _ _ _ h1 k1 m1 (yl4 z)⟩
  | tup hq rs => exact .inr ⟨_, rfl, .inr ⟨⟨_, hq⟩, k _ _ _ _ _ h1 k1 m1 (xl4 hq rs)⟩⟩
  | fls hq rs => exact .inr ⟨_, rfl, .inl ⟨⟨_, hq.l⟩, k _ _ _ _ _ h1 k1 m1 (wl4 hq rs)⟩⟩
  | ref p =>
    dsimp only at h1
    cases e : μ1 p with
    | none => rw [e] at h1; exact h1.elim
    | some oo =>
      cases oo with
      | ins _ _ => rw [e] at h1; exact h1.elim
      | dct _ => rw [e] at h1; exact h1.elim
      | lst xs =>
        rw [e] at h1
        obtain ⟨vs, hv, rv⟩ := m1 p xs e
        exact .inr ⟨_, rfl, .inl ⟨⟨_, SqL.of hv⟩, k _ _ _ _ _ h1 k1 m1 zl4⟩⟩
  | _ => exact False.elim h1
theorem wf4 (lo : Int) (n i : Nat) : (rngD lo n)[i]? = if i < n then some (.int (lo + i)) else none := by
  unfold rngD
  rw [List.getElem?_map]
  by_cases h : i < n
  · rw [List.getElem?_range h, if_pos h]; rfl
  · rw [List.getElem?_eq_none (by simpa using h), if_neg h]; rfl
theorem zf4 (lo : Int) (n : Nat) : (rngD lo n).length = n := by simp [rngD]
theorem zs2 {K : Fg} {H0 : Hp} (lo : Int) (n : Nat) : ItOk K (Itr lo n) (rngD lo n) (fun _ => True) H0 := fun i H μ k m _ => by
  refine ⟨fun d e => ?_, fun hl => by rw [zf4] at hl; exact hl⟩
  rw [wf4] at e
  split at e
  · next h =>
    cases e
    refine ⟨h, fun x H2 y => ?_⟩
    obtain ⟨rfl, rfl⟩ := y
    exact ⟨Kp.refl _, m, .int _⟩
  · cases e
theorem yb1 {p : Pos} (hm : X.mg "range" = none) (ha : RE X a ta) (hg : Gl X "range" := by rfl) (hs : starEach [a] X.env = [(false, eval a X.env)] := by rfl) : RI X tg (.Call (.Name "range" p) [a] [] pos) (ir3 (cons3 ta nil3)) := by
  obtain ⟨va, pa, ra⟩ := xa0 ha xb0 hs
  refine ⟨_, yp3 hg hm pa hs, fun σ H R ρ μ R3 s m h k => ra σ H _ ρ μ _ s m h fun ds μ1 vs H1 h1 k1 r1 m1 => ?_⟩
  cases r1 with
  | nil => exact False.elim h1
  | cons r1 r2 =>
    cases r2 with
    | cons _ _ => cases r1 <;> exact False.elim h1
    | nil =>
      cases r1 with
      | int j => exact ⟨j, rfl, h1.1.1, h1.1.2, k _ _ _ _ _ h1.2 k1 m1 (zs2 _ _)⟩
      | _ => exact False.elim h1
theorem yl3 {p : Pos} (hm : X.mg "range" = none) (ha : RE X a ta) (hb : RE X b tb) (hg : Gl X "range" := by rfl) (hs : starEach [a, b] X.env = [(false, eval a X.env), (false, eval b X.env)] := by rfl) (hs2 : starEach [b] X.env = [(false, eval b X.env)] := by rfl) :
    RI X tg (.Call (.Name "range" p) [a, b] [] pos) (ir23 (cons3 ta (cons3 tb nil3))) := by
  obtain ⟨va, pa, ra⟩ := xa0 ha (xa0 hb xb0 hs2) (by rw [hs, hs2])
  refine ⟨_, xp3 hg hm pa hs hs2, fun σ H R ρ μ R3 s m h k => ra σ H _ ρ μ _ s m h fun ds μ1 vs H1 h1 k1 r1 m1 => ?_⟩
  split at h1
  · next i j =>
    cases r1 with
    | cons r1 r2 =>
      cases r2 with
      | cons r2 r3 =>
        cases r3
        cases r1
        cases r2
        exact ⟨i, j, rfl, h1.1, k _ _ _ _ _ h1.2 k1 m1 (zs2 _ _)⟩
  · exact h1.elim
theorem zw1 {body : List Stmt} {ti : TI3} {g : TG3} {tb : TS3} (hp : PassesOwn (model X.prog X.w) X.A X.env X.xe) (hc : X.calm = true) (hi : RI X tg iter ti) (hg : RG X tg g) (hb : RSs X body tb)
    (hs : ∀ x, foldedSetIterable iter X.env x = pure x := by intro _; rfl) : RS X (.For tg iter body [] pos) (for3 ti g tb) := by
  obtain ⟨wi, pi, ri⟩ := hi
  obtain ⟨vg, pg, rg⟩ := hg
  obtain ⟨vb, pb, rb⟩ := hb
  refine ⟨_, zd7 hp hc pi pg pb hs, fun σ H D ρ μ D3 s m h k => ri σ H _ ρ μ _ s m h fun l S μ1 J H1 h1 k1 m1 ok => ?_⟩
  refine ⟨fun i n σ2 H2 => n = l.length - i ∧ i ≤ l.length ∧ ∃ ρ2 μ2, RSt X.K H2 ρ2 σ2 ∧ RelM X.K μ2 H2 ∧ Kp H1 H2 ∧ wn4 S g tb D3 (l.drop i) ρ2 μ2, ⟨l.length, rfl, Nat.zero_le _, ρ, μ1, s.mono k1, m1, Kp.refl _, h1⟩, ?_⟩
  rintro i n σ2 H2 ⟨rfl, hi, ρ2, μ2, s2, m2, k2, h2⟩
  by_cases hlt : i < l.length
  · rw [List.drop_eq_getElem_cons hlt] at h2
    obtain ⟨hS, N, hN, h2⟩ := h2
    obtain ⟨ok1, _⟩ := ok i H2 μ2 k2 m2 hS
    obtain ⟨go, yl⟩ := ok1 l[i] (List.getElem?_eq_getElem hlt)
    refine .inr ⟨go, fun σ3 H3 => ∃ ρ3 μ3, N ρ3 μ3 ∧ RSt X.K H3 ρ3 σ3 ∧ RelM X.K μ3 H3 ∧ Kp H1 H3, fun σ3 H3 ⟨ρ3, μ3, hn, s3, m3, k3⟩ => ⟨l.length - (i + 1), by omega, rfl, hlt, ρ3, μ3, s3, m3, k3, hN _ _ hn⟩, fun x H3 y => ?_⟩
    obtain ⟨k3, m3, r3⟩ := yl x H3 y
    refine rg x l[i] σ2 H3 _ ρ2 μ2 _ (s2.mono k3) m3 r3 h2 fun ρ4 μ4 σ4 H4 h4 k4 s4 m4 => ?_
    have k14 : Kp H1 H4 := k2.trans (k3.trans k4)
    exact rb σ4 H4 _ ρ4 μ4 _ s4 m4 h4 ⟨fun ρ5 μ5 σ5 H5 h5 k5 s5 m5 => ⟨ρ5, μ5, h5, s5, m5, k14.trans k5⟩, fun ρ5 μ5 σ5 H5 h5 k5 s5 m5 => k.nx _ _ _ _ h5 (k1.trans (k14.trans k5)) s5 m5,
      fun ρ5 μ5 σ5 H5 h5 k5 s5 m5 => ⟨ρ5, μ5, h5, s5, m5, k14.trans k5⟩, fun d μ5 v H5 h5 k5 r5 m5 => k.rt _ _ _ _ h5 (k1.trans (k14.trans k5)) r5 m5⟩
  · have e : i = l.length := by omega
    subst e
    rw [List.drop_length] at h2
    obtain ⟨hS, h2⟩ := h2
    exact .inl ⟨(ok _ H2 μ2 k2 m2 hS).2 (Nat.le_refl _), k.nx _ _ _ _ h2 (k1.trans k2) s2 m2⟩
noncomputable def lift (K : Fg) (sp : Sp3) : Sp := fun vs H Q _ => ∃ ds μ Q3, RelDs K H ds vs ∧ RelM K μ H ∧ sp ds μ Q3 ∧ Ks K H Q3 Q
noncomputable def Cal (P : Program) (w : World) (K : Fg) (mg : Str → Option Value) (base : Heap) (k : Nat) (x : Str) (ps : List Str) (sp : Sp3) : Prop :=
  ∃ f fd, FnOk P w K mg base CX0 k f fd ps (lift K sp) ∧ mg x = some (.ref f) ∧ PySem.W.keepIn K (.ref f) = true ∧ Binds K fd ps []
theorem Cal.mono {P : Program} {w : World} {K : Fg} {mg : Str → Option Value} {base : Heap} {j k : Nat} {x : Str} {ps : List Str} {sp : Sp3} (c : Cal P w K mg base j x ps sp) (h : j ≤ k) : Cal P w K mg base k x ps sp := by
  obtain ⟨f, fd, F, r⟩ := c
  exact ⟨f, fd, F.mono h, r⟩
variable {es : List Expr} {t : TA3} {x : Str} {p : Pos}
theorem xd0 {k : Nat} {ps : List Str} {sp : Sp3} (c : Cal X.prog X.w X.K X.mg X.base k x ps sp) (hr : Room k X.A) (ha : RA X (e :: es) t) (hg : Gl X x := by rfl) (hdb : (x == ("__debug__" : Str)) = false := by decide)
    (he : starEach (e :: es) X.env = (false, eval e X.env) :: starEach es X.env := by rfl) (hpl : (backTo pos (starEach es X.env)).any (·.1) = false := by rfl) : RE X (.Call (.Name x p) (e :: es) [] pos) (call3 sp t) := by
  obtain ⟨f, fd, F, hm, hk, hb⟩ := c
  obtain ⟨va, pa, ra⟩ := ha
  refine ⟨_, yh2 F hr hg hm hk hb .nil xh8 pa hdb he hpl, fun σ H Q ρ μ Q3 s m h k => ra σ H _ ρ μ _ s m h fun ds μ1 vs H1 h1 k1 r1 m1 => ?_⟩
  rw [List.append_nil]
  exact ⟨ds, μ1, Q3, r1, m1, h1, k.after k1⟩
theorem we0 {r : C3} {id : String} (hc : RC X (.builtin id) r) (hm : X.mg x = none) (hv : bootBuiltins x = some (.builtin id)) (ha : RA X (e :: es) t) (hg : Gl X x := by rfl) (hn : x ≠ "__name__" := by decide) (hdb : (x == ("__debug__" : Str)) = false := by decide)
    (he : starEach (e :: es) X.env = (false, eval e X.env) :: starEach es X.env := by rfl) (hpl : (backTo pos (starEach es X.env)).any (·.1) = false := by rfl) : RE X (.Call (.Name x p) (e :: es) [] pos) (call3 r t) := by
  obtain ⟨r', pc, rc⟩ := hc
  obtain ⟨va, pa, ra⟩ := ha
  exact ⟨_, xr2 pc hg hm hv pa hn hdb he hpl, fun σ H Q ρ μ Q3 s m h k => ra σ H _ ρ μ _ s m h fun ds μ1 vs H1 h1 k1 r1 m1 => rc ds vs H1 Q μ1 Q3 m1 r1 h1 (k.after k1)⟩
theorem yg0 {r : C3} {T : String} (hc : RC X (.type T) r) (hm : X.mg x = none) (hv : bootBuiltins x = some (.type T)) (ha : RA X (e :: es) t) (hg : Gl X x := by rfl) (hn : x ≠ "__name__" := by decide) (hdb : (x == ("__debug__" : Str)) = false := by decide)
    (he : starEach (e :: es) X.env = (false, eval e X.env) :: starEach es X.env := by rfl) (hpl : (backTo pos (starEach es X.env)).any (·.1) = false := by rfl) : RE X (.Call (.Name x p) (e :: es) [] pos) (call3 r t) := by
  obtain ⟨r', pc, rc⟩ := hc
  obtain ⟨va, pa, ra⟩ := ha
  exact ⟨_, wp3 pc hg hm hv pa hn hdb he hpl, fun σ H Q ρ μ Q3 s m h k => ra σ H _ ρ μ _ s m h fun ds μ1 vs H1 h1 k1 r1 m1 => rc ds vs H1 Q μ1 Q3 m1 r1 h1 (k.after k1)⟩
theorem zc0 {r3 : R3} (hx : RX X r3) (ha : RE X a ta) (hb : RE X b tb) (hs : yc4 b := by intro _ _; rfl) : RE X (.Subscript a b pos) (o3 r3 ta tb) := by
  obtain ⟨r, po, ro⟩ := hx
  obtain ⟨va, pa, ra⟩ := ha
  obtain ⟨vb, pb, rb⟩ := hb
  exact ⟨_, xg8 po pa pb hs, ra.op rb ro⟩
end
section
variable {P : Program} {w : World} {K : Fg} {mg : Str → Option Value} {base : Heap}
theorem wu3 {x : Str} {st : Stmt} {f : Addr} {fd : FuncData} {N ps : List Str} {k : Nat} {sp : Sp3} {t : TS3} (F : Fun K x x st f fd) (S : FnScope N ps (za0 st))
    (len : ∀ ds μ Q, sp ds μ Q → ds.length = ps.length)
    (body : ∀ (cdv : Value) (A : Around) (outer : List Env) (s : Shared) (H : Hp) (E : XK), Room k (A.deeper (envOfC x (za0 st) s.heap.objs.size f cdv)) → RSs (cxOf CX0 P w K mg base N x (za0 st) f cdv A outer s H E).nox (yc0 st) t)
    (rd : ∀ ds μ Q, sp ds μ Q → t { nx := fun _ μ' => Q .non μ', rt := Q } (start3 N ds) μ) : FnOk P w K mg base CX0 (k + 1) f fd ps (lift K sp) := by
  refine F.ok S (fun vs H Q E h => ?_) (fun cdv A outer s H vs Q E hr h => ?_)
  · obtain ⟨ds, μ, Q3, r, m, q, ks⟩ := h
    rw [← r.length]; exact len _ _ _ q
  · obtain ⟨ds, μ, Q3, r, m, q, ks⟩ := h
    obtain ⟨tv, p, rt⟩ := body cdv A outer s H E hr
    exact ⟨tv, p, rt _ H _ _ μ _ (RSt.start N r) m (rd ds μ Q3 q) ⟨fun ρ μ' σ H' h' k' s' m' => ks _ _ _ _ h' k' .non m', fun ρ μ' σ H' h' => False.elim h', fun ρ μ' σ H' h' => False.elim h', ks⟩⟩
theorem xl0 {x : Str} {st : Stmt} {f : Addr} {fd : FuncData} {N ps : List Str} {k : Nat} {sp : Sp3} {t : TS3} (F : Fun K x x st f fd) (hm : mg x = some (.ref f)) (hb : Binds K fd ps []) (S : FnScope N ps (za0 st))
    (len : ∀ ds μ Q, sp ds μ Q → ds.length = ps.length)
    (body : ∀ (cdv : Value) (A : Around) (outer : List Env) (s : Shared) (H : Hp) (E : XK), Room k (A.deeper (envOfC x (za0 st) s.heap.objs.size f cdv)) → RSs (cxOf CX0 P w K mg base N x (za0 st) f cdv A outer s H E).nox (yc0 st) t)
    (rd : ∀ ds μ Q, sp ds μ Q → t { nx := fun _ μ' => Q .non μ', rt := Q } (start3 N ds) μ) : Cal P w K mg base (k + 1) x ps sp :=
  ⟨f, fd, wu3 F S len body rd, hm, F.kp, hb⟩
end
end Pv

namespace Pv
open PySem PySem.Spec PyProof.Rows L2
section
variable {X : Cx}
theorem RdO.i0 {K : Fg} {g3 : Int → Int → D} {g : Int → Int → V} (hg : ∀ i j H, RelD K H (g3 i j) (g i j)) : RdO K (rI0 g) (int20 g3) := fun x y v u H Q μ Q3 m rx ry h k => by
  cases rx with
  | int i =>
    cases ry with
    | int j => exact ⟨i, j, rfl, rfl, k _ _ _ _ h (Kp.refl _) (hg i j H) m⟩
    | _ => exact False.elim h
  | _ => cases ry <;> exact False.elim h
theorem RdO.i2 {K : Fg} {C : Int → Int → Prop} {g3 : Int → Int → D} {g : Int → Int → V} (hg : ∀ i j H, RelD K H (g3 i j) (g i j)) : RdO K (rI C g) (int2 C g3) := fun x y v u H Q μ Q3 m rx ry h k => by
  cases rx with
  | int i =>
    cases ry with
    | int j => exact ⟨i, j, rfl, rfl, h.1, k _ _ _ _ h.2 (Kp.refl _) (hg i j H) m⟩
    | _ => exact False.elim h
  | _ => cases ry <;> exact False.elim h
theorem xo1 : RO X (binaryOp .Sub) subR := ⟨_, yg7, RdO.i0 fun _ _ _ => .int _⟩
theorem yh1 : RO X (binaryOp .Mod) modR := ⟨_, yh7, RdO.i2 fun _ _ _ => .int _⟩
theorem zg4 : RO X (binaryOp .Pow) powR := ⟨_, wg7, RdO.i2 fun _ _ _ => .int _⟩
theorem log2_lt {n k : Nat} (hk : 0 < k) (h : n < 2 ^ k) : n.log2 < k := by
  rcases Nat.eq_zero_or_pos n with h0 | hp
  · rw [h0]; simpa using hk
  · exact (Nat.log2_lt (Nat.ne_of_gt hp)).mpr h
theorem xj4 : OpR X (binaryOp .FloorDiv) (rI (fun _ j => 0 < j ∧ j < 2 ^ 120) fun i j => .int (i / j)) := opI fun i j _ _ _ _ _ hc q => by
  have h1 : (0 : Int) < j := hc.1
  have h2 : j < 2 ^ 120 := hc.2
  refine floordiv_int (by omega) (by rw [Int.fdiv_eq_ediv_of_nonneg i (by omega)]; exact q) (.inl (PyProof.noPylong_of_log2 ?_))
  have h3 : j.natAbs < 2 ^ 120 := by omega
  exact Nat.lt_trans (log2_lt (by decide) h3) (by decide)
theorem xv4 : RO X (binaryOp .FloorDiv) fdivR := ⟨_, xj4, RdO.i2 fun _ _ _ => .int _⟩
theorem CMul.mulok {i j : Int} (h : CMul i j) : IntMulOk i j := by
  rcases h with h | ⟨h1, h2⟩
  · exact L2.CMul.ok h
  · unfold IntMulOk
    intro e
    rw [Bool.and_eq_true] at e
    have e2 := e.2
    unfold Builtin.Int.intTooBig at e2
    have hb : ∀ x : Int, x.natAbs < Big → Builtin.Int.intBits x ≤ 1000 := fun x hx => by
      unfold Builtin.Int.intBits
      split
      · exact Nat.zero_le _
      · exact log2_lt (by decide) hx
    have b1 := hb i h1
    have b2 := hb j h2
    have e3 := of_decide_eq_true e2
    have e4 : (2000 : Nat) < bitsLine := by decide
    omega
theorem op_mulB : OpR X (binaryOp .Mult) (rI CMul fun i j => .int (i * j)) := opI fun _ _ _ _ _ _ _ hc q => mul_int q hc.mulok
theorem zn3 : RU X (unaryOp .USub) negR := ⟨_, yc6, fun x v H Q μ Q3 m r h k => by
  cases r with
  | int i => exact ⟨i, rfl, k _ _ _ _ h (Kp.refl _) (.int _) m⟩
  | _ => exact False.elim h⟩
theorem q_lt : RO X (compareOp .Lt) ltR := ⟨_, yh8, RdO.i0 fun _ _ _ => .bl _⟩
theorem q_gt : RO X (compareOp .Gt) gtR := ⟨_, zh8, RdO.i0 fun _ _ _ => .bl _⟩
noncomputable def xe8 (K : Fg) : R2 := fun x y H Q => ∃ a b xs ys, x = .ref a ∧ y = .ref b ∧ SqT K H a xs ∧ SqT K H b ys ∧ xs.length + ys.length ≤ sizeLine ∧
  (xs = [] → Q (.ref b) H) ∧ (ys = [] → Q (.ref a) H) ∧ (∀ p, H p = none → Q (.ref p) (upd H p (.tup (xs ++ ys))))
theorem xp5 : OpR X (binaryOp .Add) (xe8 X.K) := by
  intro pins s σ H x y v u Q I rx ry h
  obtain ⟨a, b, xs, ys, rfl, rfl, ha, hb, hz, q1, q2, q3⟩ := h
  by_cases hx : xs = []
  · cases rx
    cases ry
    obtain ⟨its, r, ht, _⟩ := I.tuple ha
    obtain ⟨its2, r2, ht2, _⟩ := I.tuple hb
    have hi : its = [] := by subst hx; cases r; rfl
    obtain ⟨⟨cls, dd, data, sl⟩, ho, hc, n, hd⟩ := id ht
    obtain ⟨⟨cls2, dd2, data2, sl2⟩, ho2, hc2, n2, hd2⟩ := id ht2
    simp only at hc hd hc2 hd2
    subst hc hd hc2 hd2
    exact concat_meets ⟨_, ho, rfl⟩ ⟨_, ho2, rfl⟩ noFill_tuple_add seq_tuple_add PySem.F.slot_tuple_add PySem.F.entry_tuple_add (PySem.F.args_tuple_add_2 _ _)
      (tuple_addW0 a b its.toArray its2.toArray n n2 dd dd2 sl sl2 (by simp [hi])) ⟨ho, ho2, ⟨.ref b, H, I, rfl, q1 hx⟩⟩
  · exact wo5 pins s σ H _ _ v u Q I rx ry ⟨a, b, xs, ys, rfl, rfl, ha, hb, hx, hz, q2, fun _ => q3⟩
theorem xi0 : RO X (binaryOp .Add) addR := by
  refine ⟨_, (op_add.or yc3).or (op_cat.or xp5), fun x y v u H Q μ Q3 m rx ry h k => ?_⟩
  cases rx with
  | int i =>
    cases ry with
    | int j => exact .inl (.inl ⟨i, j, rfl, rfl, k _ _ _ _ h (Kp.refl _) (.int _) m⟩)
    | _ => exact False.elim h
  | str i =>
    cases ry with
    | str j => exact .inl (.inr ⟨i, j, rfl, rfl, h.1, k _ _ _ _ h.2 (Kp.refl _) (.str _) m⟩)
    | _ => exact False.elim h
  | ref p =>
    cases ry with
    | ref q =>
      dsimp only [addR] at h
      cases e : μ p with
      | none => rw [e] at h; exact h.elim
      | some oo =>
        cases oo with
        | ins _ _ => rw [e] at h; exact h.elim
        | dct _ => rw [e] at h; exact h.elim
        | lst xs =>
          cases e2 : μ q with
          | none => rw [e, e2] at h; exact h.elim
          | some o2 =>
            cases o2 with
            | ins _ _ => rw [e, e2] at h; exact h.elim
            | dct _ => rw [e, e2] at h; exact h.elim
            | lst ys =>
              rw [e, e2] at h
              obtain ⟨vs, hv, rv⟩ := m p xs e
              obtain ⟨us, hu, ru⟩ := m q ys e2
              refine .inr (.inl ⟨p, q, vs, us, rfl, rfl, hv, hu, by rw [← rv.length, ← ru.length]; exact h.1, fun t ht => ?_⟩)
              exact k _ _ _ _ (h.2 t (m.free ht)) (Kp.new ht) (.ref t) (m.newL ht (rv.append ru))
    | _ => exact False.elim h
  | tup hq rs =>
    cases ry with
    | tup hq2 rs2 =>
      rename_i a l vs b l2 us
      refine .inr (.inr ⟨a, b, vs, us, rfl, rfl, hq, hq2, by rw [← rs.length, ← rs2.length]; exact h.1, fun e => ?_, fun e => ?_, fun t ht => ?_⟩)
      · subst e; cases rs
        exact k _ _ _ _ h.2 (Kp.refl _) (.tup hq2 rs2) m
      · subst e; cases rs2
        have h2 := h.2
        rw [List.append_nil] at h2
        exact k _ _ _ _ h2 (Kp.refl _) (.tup hq rs) m
      · exact k _ _ _ _ h.2 (Kp.new ht) (.tup (SqT.of wf0) ((rs.append rs2).mono (Kp.new ht))) (m.newT ht)
    | _ => exact False.elim h
  | _ => cases ry <;> exact False.elim h
theorem RelDs.atI {K : Fg} {H : Hp} {l : List D} {vs : List V} {i : Int} {d : D} (r : RelDs K H l vs) (e : Pv.atI l i = some d) : ∃ v, L2.atI vs i = some v ∧ RelD K H d v := by
  unfold Pv.atI at e
  unfold L2.atI
  rw [wl7, ← r.length]
  cases q : ixN l.length i with
  | none => rw [q] at e; cases e
  | some j =>
    rw [q] at e
    exact r.get e
theorem q_ix : RX X ixR := by
  refine ⟨_, ix_list.or zl7, fun x y v u H Q μ Q3 m rx ry h k => ?_⟩
  cases ry with
  | int i =>
    cases rx with
    | tup hq rs =>
      rename_i a l vs
      dsimp only [ixR] at h
      cases e : Pv.atI l i with
      | none => rw [e] at h; exact h.elim
      | some d =>
        rw [e] at h
        obtain ⟨w, e1, r1⟩ := rs.atI e
        exact .inr ⟨a, vs, i, w, rfl, rfl, hq, e1, k _ _ _ _ h (Kp.refl _) r1 m⟩
    | fls hq rs =>
      rename_i a l vs
      dsimp only [ixR] at h
      cases e : Pv.atI l i with
      | none => rw [e] at h; exact h.elim
      | some d =>
        rw [e] at h
        obtain ⟨w, e1, r1⟩ := rs.atI e
        exact .inl ⟨a, vs, i, w, rfl, rfl, hq.l, e1, k _ _ _ _ h (Kp.refl _) r1 m⟩
    | ref p =>
      dsimp only [ixR] at h
      cases e0 : μ p with
      | none => rw [e0] at h; exact h.elim
      | some oo =>
        cases oo with
        | ins _ _ => rw [e0] at h; exact h.elim
        | dct _ => rw [e0] at h; exact h.elim
        | lst l =>
          rw [e0] at h
          dsimp only at h
          obtain ⟨vs, hv, rs⟩ := m p l e0
          cases e : Pv.atI l i with
          | none => rw [e] at h; exact h.elim
          | some d =>
            rw [e] at h
            obtain ⟨w, e1, r1⟩ := rs.atI e
            exact .inl ⟨p, vs, i, w, rfl, rfl, SqL.of hv, e1, k _ _ _ _ h (Kp.refl _) r1 m⟩
    | _ => exact False.elim h
  | _ => cases rx <;> exact False.elim h
theorem xn2 {K : Fg} {H : Hp} : ∀ {l : List D} {vs : List V} {zs : List Str}, RelDs K H l vs → strs? l = some zs → vs = zs.map V.str
  | _, _, zs, .nil, e => by simp [strs?] at e; subst e; rfl
  | _, _, zs, .cons h r, e => by
    cases h with
    | str x =>
      simp only [strs?] at e
      split at e
      · next ys e1 =>
        simp only [Option.some.injEq] at e
        subst e
        rw [xn2 r e1]; rfl
      · cases e
    | _ => simp [strs?] at e
theorem zm4 (z : Str) (zs : List Str) : inV (.str z) (zs.map V.str) = zs.contains z := by
  unfold inV
  rw [List.any_map]
  induction zs with
  | nil => rfl
  | cons y r ih =>
    rw [List.any_cons, ih, List.contains_cons]
    congr 1
    show (y == z) = (z == y)
    rw [Bool.eq_iff_iff, beq_iff_eq, beq_iff_eq]
    exact eq_comm
theorem yv3 (zs : List Str) : (zs.map V.str).all yr1 = true := by
  rw [List.all_map, List.all_eq_true]; intro _ _; rfl
theorem zx0 : RC X (.builtin "len") lenR := by
  refine ⟨_, call_len_seq.or yc2, fun xs vs H Q μ Q3 m r h k => ?_⟩
  cases r with
  | nil => exact False.elim h
  | cons r1 r2 =>
    cases r2 with
    | cons _ _ => cases r1 <;> exact False.elim h
    | nil =>
      cases r1 with
      | tup hq rs =>
        rename_i a l vs
        refine .inl ⟨a, vs, rfl, .inr hq, ?_⟩
        rw [← rs.length]
        exact k _ _ _ _ h (Kp.refl _) (.int _) m
      | fls hq rs =>
        rename_i a l vs
        refine .inl ⟨a, vs, rfl, .inl hq.l, ?_⟩
        rw [← rs.length]
        exact k _ _ _ _ h (Kp.refl _) (.int _) m
      | str z => exact .inr ⟨z, rfl, h.1, k _ _ _ _ h.2 (Kp.refl _) (.int _) m⟩
      | ref p =>
        dsimp only [lenR] at h
        cases e : μ p with
        | none => rw [e] at h; exact h.elim
        | some oo =>
          cases oo with
          | ins _ _ => rw [e] at h; exact h.elim
          | dct _ => rw [e] at h; exact h.elim
          | lst l =>
            rw [e] at h
            obtain ⟨vs, hv, rs⟩ := m p l e
            refine .inl ⟨p, vs, rfl, .inl (SqL.of hv), ?_⟩
            rw [← rs.length]
            exact k _ _ _ _ h (Kp.refl _) (.int _) m
      | _ => exact False.elim h
theorem wl0 : RC X (.type "tuple") tupR := by
  refine ⟨_, yt1, fun xs vs H Q μ Q3 m r h k => ?_⟩
  cases r with
  | nil => exact False.elim h
  | cons r1 r2 =>
    cases r2 with
    | cons _ _ => cases r1 <;> exact False.elim h
    | nil =>
      cases r1 with
      | tup hq rs => exact ⟨_, _, rfl, .inr ⟨hq, k _ _ _ _ h (Kp.refl _) (.tup hq rs) m⟩⟩
      | ref p =>
        dsimp only [tupR] at h
        cases e : μ p with
        | none => rw [e] at h; exact h.elim
        | some oo =>
          cases oo with
          | ins _ _ => rw [e] at h; exact h.elim
          | dct _ => rw [e] at h; exact h.elim
          | lst l =>
            rw [e] at h
            obtain ⟨vs, hv, rs⟩ := m p l e
            exact ⟨p, vs, rfl, .inl ⟨SqL.of hv, fun t ht => k _ _ _ _ h (Kp.new ht) (.tup (SqT.of wf0) (rs.mono (Kp.new ht))) (m.newT ht)⟩⟩
      | _ => exact False.elim h
end
end Pv

namespace Pv
open PySem PySem.Spec PyProof.Rows L2
section
variable {X : Cx} {pins : List (Addr × Obj)} {σ : L2.St} {H : Hp} {s : Shared}
mutual
theorem yl0 (I : Inv X pins σ H s) : ∀ {d : D} {v : V} {p : PyData} {u : Value}, RelD X.K H d v → dat d = some p → RelV v u → ∃ as, Reads s.heap u p as
  | _, _, p, u, .non, e, r => by simp only [dat, Option.some.injEq] at e; subst e; cases r; exact ⟨_, Reads.none⟩
  | _, _, p, u, .bl b, e, r => by simp only [dat, Option.some.injEq] at e; subst e; cases r; exact ⟨_, Reads.bool b⟩
  | _, _, p, u, .int i, e, r => by simp only [dat, Option.some.injEq] at e; subst e; obtain ⟨t, rfl⟩ := r; exact ⟨_, Reads.int i t⟩
  | _, _, p, u, .str x, e, r => by
    simp only [dat] at e
    split at e
    · simp only [Option.some.injEq] at e; subst e; obtain ⟨t, rfl⟩ := r; exact ⟨_, Reads.str x t⟩
    · cases e
  | _, _, p, u, .ref a, e, r => by simp [dat] at e
  | _, _, p, u, .ty n, e, r => by simp [dat] at e
  | _, _, p, u, .fls _ _, e, r => by simp [dat] at e
  | _, _, p, u, .exc _ _ _, e, r => by simp [dat] at e
  | _, _, p, u, .tup hq rs, e, r => by
    simp only [dat] at e
    split at e
    · next ps e1 =>
      simp only [Option.some.injEq] at e; subst e
      cases r
      obtain ⟨its, rv, ⟨o, ho, hc, n, hd⟩, hz⟩ := I.tuple hq
      obtain ⟨as, q⟩ := yr0 I rs e1 rv
      exact ⟨_, Reads.tuple ho hc hd (by simpa using q)⟩
    · cases e
theorem yr0 (I : Inv X pins σ H s) : ∀ {l : List D} {vs : List V} {ps : List PyData} {us : List Value}, RelDs X.K H l vs → dats l = some ps → Vals vs us → ∃ as, ReadsAll s.heap us ps as
  | _, _, ps, us, .nil, e, r => by simp only [dats, Option.some.injEq] at e; subst e; cases r; exact ⟨_, ReadsAll.nil⟩
  | _, _, ps, us, .cons h rs, e, r => by
    simp only [dats] at e
    split at e
    · next p e1 =>
      split at e
      · next qs e2 =>
        simp only [Option.some.injEq] at e; subst e
        cases r with
        | cons r1 r2 =>
          obtain ⟨as, q1⟩ := yl0 I h e1 r1
          obtain ⟨bs, q2⟩ := yr0 I rs e2 r2
          exact ⟨_, ReadsAll.cons q1 q2⟩
      · cases e
    · cases e
end
theorem ym0 (I : Inv X pins σ H s) {μ : Mu} (m : RelM X.K μ H) {d : D} {v : V} {p : PyData} {u : Value} (h : RelD X.K H d v) (e : datM μ d = some p) (r : RelV v u) : ∃ as, Reads s.heap u p as := by
  cases h with
  | ref a =>
    simp only [datM] at e
    split at e
    · next l e0 =>
      split at e
      · next ps e1 =>
        simp only [Option.some.injEq] at e; subst e
        cases r
        obtain ⟨vs, hv, rs⟩ := m a l e0
        obtain ⟨its, rv, pl, hz⟩ := I.list (SqL.of hv)
        obtain ⟨o, ho, hc, n, hd⟩ := pl.isList
        obtain ⟨as, q⟩ := yr0 I rs e1 rv
        exact ⟨_, Reads.list ho hc hd (by simpa using q)⟩
      · cases e
    · cases e
  | non => exact yl0 I .non e r
  | bl b => exact yl0 I (.bl b) e r
  | int i => exact yl0 I (.int i) e r
  | str x => exact yl0 I (.str x) e r
  | ty n => exact yl0 I (.ty n) e r
  | tup hq rs => exact yl0 I (.tup hq rs) e r
  | fls hq rs => exact yl0 I (.fls hq rs) e r
  | exc a1 a2 a3 => simp [datM, dat] at e
mutual
theorem zh0 : ∀ (d : D) (p : PyData), dat d = some p → p.canLay0 = true
  | .non, p, e => by simp only [dat, Option.some.injEq] at e; subst e; rfl
  | .bl b, p, e => by simp only [dat, Option.some.injEq] at e; subst e; rfl
  | .int b, p, e => by simp only [dat, Option.some.injEq] at e; subst e; rfl
  | .str x, p, e => by
    simp only [dat] at e
    split at e
    · next h => simp only [Option.some.injEq] at e; subst e; exact h
    · cases e
  | .tup l, p, e => by
    simp only [dat] at e
    split at e
    · next ps e1 => simp only [Option.some.injEq] at e; subst e; simp only [PyData.canLay0]; exact ys0 l ps e1
    · cases e
  | .fls _, p, e => by simp [dat] at e
  | .ref _, p, e => by simp [dat] at e
  | .ty _, p, e => by simp [dat] at e
theorem ys0 : ∀ (l : List D) (ps : List PyData), dats l = some ps → PyData.canLayAll0 ps = true
  | [], ps, e => by simp only [dats, Option.some.injEq] at e; subst e; rfl
  | d :: r, ps, e => by
    simp only [dats] at e
    split at e
    · next p e1 =>
      split at e
      · next qs e2 =>
        simp only [Option.some.injEq] at e; subst e
        simp only [PyData.canLayAll0, Bool.and_eq_true]
        exact ⟨zh0 d p e1, ys0 r qs e2⟩
      · cases e
    · cases e
end
theorem yk2 {μ : Mu} {d : D} {p : PyData} (e : datM μ d = some p) : p.canLay0 = true := by
  cases d with
  | ref a =>
    simp only [datM] at e
    split at e
    · next l e0 =>
      split at e
      · next ps e1 => simp only [Option.some.injEq] at e; subst e; simp only [PyData.canLay0]; exact ys0 l ps e1
      · cases e
    · cases e
  | non => exact zh0 _ p e
  | bl b => exact zh0 _ p e
  | int i => exact zh0 _ p e
  | str x => exact zh0 _ p e
  | ty n => exact zh0 _ p e
  | tup l => exact zh0 _ p e
  | fls l => exact zh0 _ p e
  | exc c => simp [datM, dat] at e
theorem zg0 {μ : Mu} {d : D} {p : PyData} (e : datM μ d = some p) (h : p.depth ≤ 64) : PySem.SeqAt.shaped p = true := by
  unfold PySem.SeqAt.shaped
  rw [yk2 e, decide_eq_true h]; rfl
noncomputable def rEqD (K : Fg) (neg : Bool) : R2 := fun x y H Q => ∃ d e μ p q, RelM K μ H ∧ RelD K H d x ∧ RelD K H e y ∧ datM μ d = some p ∧ datM μ e = some q ∧ p.depth ≤ 64 ∧ q.depth ≤ 64 ∧ Q (.bl (if neg then !PyData.eqv p q else PyData.eqv p q)) H
theorem wh7 (hu : X.A.units + 64 < cLine) : OpR X (compareOp .Eq) (rEqD X.K false) := by
  intro pins s σ H x y v u Q I rx ry h
  obtain ⟨d, e, μ, p, q, m, rd, re, e1, e2, h1, h2, k⟩ := h
  obtain ⟨as, q1⟩ := ym0 I m rd e1 rx
  obtain ⟨bs, q2⟩ := ym0 I m re e2 ry
  exact eq_dataH q1 q2 (zg0 e1 h1) (zg0 e2 h2) hu ⟨.bl _, H, I, rfl, k⟩
theorem xh7 (hu : X.A.units + 64 < cLine) : OpR X (compareOp .NotEq) (rEqD X.K true) := by
  intro pins s σ H x y v u Q I rx ry h
  obtain ⟨d, e, μ, p, q, m, rd, re, e1, e2, h1, h2, k⟩ := h
  obtain ⟨as, q1⟩ := ym0 I m rd e1 rx
  obtain ⟨bs, q2⟩ := ym0 I m re e2 ry
  exact ne_dataH q1 q2 (zg0 e1 h1) (zg0 e2 h2) hu ⟨.bl _, H, I, rfl, k⟩
theorem xo7 {K : Fg} {H : Hp} {x y : D} {v u : V} {c : Bool} (rx : RelD K H x v) (ry : RelD K H y u) (e : eqS x y = some c) : scal v u = true ∧ decide (v = u) = c := by
  unfold eqS at e
  split at e <;> first | (cases e; done) | (cases rx; cases ry; cases e; exact ⟨rfl, rfl⟩) | (cases rx; cases ry; cases e; refine ⟨rfl, ?_⟩; simp)
theorem hu64 {A : Around} {k : Nat} (hr : Room k A) : A.units + 64 < cLine := by have := hr.un; omega
noncomputable def rInD (K : Fg) (neg : Bool) : R2 := fun x y H Q => ∃ d e μ p xs, ∃ b : Bool, RelM K μ H ∧ RelD K H d x ∧ RelD K H e y ∧ datM μ d = some p ∧ datM μ e = some (if b then .list xs else .tuple xs) ∧ p.depth ≤ 64 ∧ (if b then PyData.list xs else PyData.tuple xs).depth ≤ 64 ∧
  Q (.bl (if neg then !(xs.any fun e => PyData.eqv e p) else xs.any fun e => PyData.eqv e p)) H
theorem zq3 (hu : X.A.units + 65 < cLine) : OpR X (compareOp .NotIn) (rInD X.K true) := by
  intro pins s σ H x y v u Q I rx ry h
  obtain ⟨d, e, μ, p, xs, b, m, rd, re, e1, e2, h1, h2, k⟩ := h
  obtain ⟨as, q1⟩ := ym0 I m rd e1 rx
  obtain ⟨bs, q2⟩ := ym0 I m re e2 ry
  cases b
  · exact PySem.SeqAt.notIn_tuple_reads q2 q1 (PySem.SeqAt.canLay_of_shaped (zg0 e2 h2)) (PySem.SeqAt.canLay_of_shaped (zg0 e1 h1)) (room_in_shaped (zg0 e1 h1) hu) ⟨.bl _, H, I, rfl, k⟩
  · exact PySem.SeqAt.notIn_list_reads q2 q1 (PySem.SeqAt.canLay_of_shaped (zg0 e2 h2)) (PySem.SeqAt.canLay_of_shaped (zg0 e1 h1)) (room_in_shaped (zg0 e1 h1) hu) ⟨.bl _, H, I, rfl, k⟩
theorem hu65 {A : Around} {k : Nat} (hr : Room k A) : A.units + 65 < cLine := by have := hr.un; omega
theorem xm7 {K : Fg} {neg : Bool} {x y : D} {v u : V} {H : Hp} {Q : VK} {μ : Mu} {Q3 : VK3} (m : RelM K μ H) (rx : RelD K H x v) (ry : RelD K H y u) (h : inD neg x y μ Q3) (k : Ks K H Q3 Q) : rInD K neg v u H Q := by
  unfold inD at h
  split at h
  · next d xs e1 e2 => exact ⟨x, y, μ, d, xs, true, m, rx, ry, e1, e2, h.1.1, h.1.2, k _ _ _ _ h.2 (Kp.refl _) (.bl _) m⟩
  · next d xs e1 e2 => exact ⟨x, y, μ, d, xs, false, m, rx, ry, e1, e2, h.1.1, h.1.2, k _ _ _ _ h.2 (Kp.refl _) (.bl _) m⟩
  · exact h.elim
theorem RdO.inn {K : Fg} {neg : Bool} : RdO K (fun x y H Q => (rIn K neg x y H Q ∨ ∃ i j, x = .str i ∧ y = .str j ∧ Q (.bl (if neg then !(!(Builtin.Str.occurrences j i 0 j.length 1).isEmpty) else !(Builtin.Str.occurrences j i 0 j.length 1).isEmpty)) H) ∨ rInD K neg x y H Q) (inR neg) := fun x y v u H Q μ Q3 m rx ry h k => by
  unfold inR at h
  split at h
  · next z l =>
    cases e : strs? l with
    | none => rw [e] at h; exact .inr (xm7 m rx ry h k)
    | some zs =>
      rw [e] at h
      cases rx
      cases ry with
      | tup hq rs =>
        rename_i a vs
        have ev := xn2 rs e
        refine .inl <| .inl ⟨a, vs, rfl, .inr hq, rfl, by rw [ev]; exact yv3 zs, ?_⟩
        rw [ev, zm4]
        exact k _ _ _ _ h (Kp.refl _) (.bl _) m
  · next z y =>
    cases rx
    cases ry
    exact .inl <| .inr ⟨z, y, rfl, rfl, k _ _ _ _ h (Kp.refl _) (.bl _) m⟩
  · exact .inr (xm7 m rx ry h k)
theorem zj5 (hu : X.A.units + 65 < cLine) : RO X (compareOp .NotIn) (inR true) := ⟨_, (op_notIn_seq.or wx1).or (zq3 hu), RdO.inn⟩
theorem q_eq (hu : X.A.units + 64 < cLine) : RO X (compareOp .Eq) eqR := by
  refine ⟨_, op_eq.or (wh7 hu), fun x y v u H Q μ Q3 m rx ry h k => ?_⟩
  unfold eqR at h
  cases e : eqS x y with
  | some c =>
    rw [e] at h
    obtain ⟨h1, h2⟩ := xo7 rx ry e
    refine .inl ⟨h1, ?_⟩
    rw [h2]
    exact k _ _ _ _ h (Kp.refl _) (.bl _) m
  | none =>
    rw [e] at h
    dsimp only at h
    cases e1 : datM μ x with
    | none => rw [e1] at h; exact h.elim
    | some p =>
      cases e2 : datM μ y with
      | none => rw [e1, e2] at h; exact h.elim
      | some q =>
        rw [e1, e2] at h
        exact .inr ⟨x, y, μ, p, q, m, rx, ry, e1, e2, h.1.1, h.1.2, k _ _ _ _ h.2 (Kp.refl _) (.bl _) m⟩
theorem q_ne (hu : X.A.units + 64 < cLine) : RO X (compareOp .NotEq) neR := by
  refine ⟨_, op_ne.or (xh7 hu), fun x y v u H Q μ Q3 m rx ry h k => ?_⟩
  unfold neR at h
  cases e : eqS x y with
  | some c =>
    rw [e] at h
    obtain ⟨h1, h2⟩ := xo7 rx ry e
    refine .inl ⟨h1, ?_⟩
    rw [h2]
    exact k _ _ _ _ h (Kp.refl _) (.bl _) m
  | none =>
    rw [e] at h
    dsimp only at h
    cases e1 : datM μ x with
    | none => rw [e1] at h; exact h.elim
    | some p =>
      cases e2 : datM μ y with
      | none => rw [e1, e2] at h; exact h.elim
      | some q =>
        rw [e1, e2] at h
        exact .inr ⟨x, y, μ, p, q, m, rx, ry, e1, e2, h.1.1, h.1.2, k _ _ _ _ h.2 (Kp.refl _) (.bl _) m⟩
variable {o e : Expr} {es : List Expr} {to : TE3} {t : TA3} {apos cpos : Pos}
theorem ya8 {name : Str} {id : String} {r : V → List V → Hp → VK → Prop} {r3 : D → List D → Mu → VK3 → Prop} (slot : Slot "list" name id) (hty : typeOf (.builtin id) = pure (.type "method_descriptor")) (hm : MtR X id r)
    (hrd : ∀ p xs v vs H Q μ Q3, RelM X.K μ H → RelD X.K H (.ref p) v → RelDs X.K H xs vs → r3 (.ref p) xs μ Q3 → Ks X.K H Q3 Q → r v vs H Q) (ho : RE X o to) (ha : RA X (e :: es) t)
    (hbase : attributeBase o name X.env (eval o X.env) = eval o X.env)
    (hfew : ((backTo cpos (starEach (e :: es) X.env)).all (fun x => !x.1) && (backToKw cpos (keywordEach [] X.env)).all (fun x => x.1.isSome)
      && decide ((e :: es).length + ([] : List Keyword).length + (if ([] : List Keyword).isEmpty then 0 else 1) < 30)) = true)
    (hline : (apos.endLine == cpos.line) = true) (hs : starEach (e :: es) X.env = (false, eval e X.env) :: starEach es X.env) (hplain : (backTo cpos (starEach es X.env)).any (·.1) = false) :
    RE X (.Call (.Attribute o name apos) (e :: es) [] cpos) (mt3 r3 to t) := by
  obtain ⟨va, pa, ra⟩ := ho
  obtain ⟨vb, pb, rb⟩ := ha
  refine ⟨_, yg8 PySem.F.plainAttrs_list slot hty hm pa pb hbase hfew hline hs hplain, fun σ H Q ρ μ Q3 s m h k => ra σ H _ ρ μ _ s m h fun d μ1 v H1 h1 k1 r1 m1 => ?_⟩
  cases r1 with
  | ref p =>
    dsimp only at h1
    cases e0 : μ1 p with
    | none => rw [e0] at h1; exact h1.elim
    | some oo =>
      cases oo with
      | ins _ _ => rw [e0] at h1; exact h1.elim
      | dct _ => rw [e0] at h1; exact h1.elim
      | lst l =>
        rw [e0] at h1
        obtain ⟨vs, hv, rs⟩ := m1 p l e0
        refine ⟨.inl ⟨rfl, vs, SqL.of hv⟩, rb σ H1 _ ρ μ1 _ (s.mono k1) m1 h1 fun xs μ2 ys H2 h2 k2 r2 m2 => ?_⟩
        exact hrd p xs _ ys H2 Q μ2 Q3 m2 (.ref p) r2 h2 (k.after (k1.trans k2))
  | _ => exact False.elim h1
theorem zm3 (ho : RE X o to) (ha : RA X (e :: es) t) (hbase : attributeBase o "append" X.env (eval o X.env) = eval o X.env := by rfl)
    (hfew : ((backTo cpos (starEach (e :: es) X.env)).all (fun x => !x.1) && (backToKw cpos (keywordEach [] X.env)).all (fun x => x.1.isSome)
      && decide ((e :: es).length + ([] : List Keyword).length + (if ([] : List Keyword).isEmpty then 0 else 1) < 30)) = true := by rfl)
    (hline : (apos.endLine == cpos.line) = true := by rfl) (hs : starEach (e :: es) X.env = (false, eval e X.env) :: starEach es X.env := by rfl) (hplain : (backTo cpos (starEach es X.env)).any (·.1) = false := by rfl) :
    RE X (.Call (.Attribute o "append" apos) (e :: es) [] cpos) (mt3 appR to t) := by
  refine ya8 PySem.F.slot_list_append PySem.F.type_list_append xy1 (fun p xs v vs H Q μ Q3 m rp rx h k => ?_) ho ha hbase hfew hline hs hplain
  cases rp
  cases rx with
  | nil => exact False.elim h
  | cons r1 r2 =>
    cases r2 with
    | cons _ _ => exact False.elim h
    | nil =>
      dsimp only [appR] at h
      cases e0 : μ p with
      | none => rw [e0] at h; exact h.elim
      | some oo =>
        cases oo with
        | ins _ _ => rw [e0] at h; exact h.elim
        | dct _ => rw [e0] at h; exact h.elim
        | lst l =>
          rw [e0] at h
          obtain ⟨vs, hv, rs⟩ := m p l e0
          exact ⟨p, vs, _, rfl, rfl, hv, by rw [← rs.length]; exact h.1, k _ _ _ _ h.2 (Kp.wr hv) .non (m.wr hv (rs.append (.cons r1 .nil)))⟩
end
end Pv

namespace Pv
open PySem PySem.Spec PyProof.Rows L2
noncomputable abbrev wk0 (X : Cx) (NN : List Str) (scope : Scope) (cl : List (Str × Addr)) (C : Addr) (fp : List Addr) (s₀ : Shared) (H₀ : Hp) (pn : List (Addr × Obj)) : Cx :=
  { X with N := NN, s₀ := s₀, H₀ := H₀, env := compEnvC scope cl C X.env, outer := X.stack, ex := fp, fn := fun _ => false, pn := pn, xe := fun _ _ => False }
structure CompSc (X : Cx) (NN : List Str) (scope : Scope) (cl : List (Str × Addr)) (js : List (Option Nat)) : Prop where
  clos : closureFor scope X.env = pure cl
  cell : ∀ y ∈ scope.names, y.2 ≠ .cell
  kind : scope.kind = .function
  names : ∀ y ∈ scope.names, y.2 = .local → scope.names.lookup y.1 = some .local
  sub : ∀ x c, cl.lookup x = some c → X.env.cells.lookup x = some c
  has : ∀ x, ((relabel scope X.env).names.lookup x = some .cell ∨ (relabel scope X.env).names.lookup x = some .free) → ∃ c, cl.lookup x = some c
  len : js.length = NN.length
  out : ∀ (i j : Nat), js[i]? = some (some j) → ∃ x, NN[i]? = some x ∧ X.N[j]? = some x ∧ Vis X.env.scope x ∧ X.env.scope.names.lookup x ≠ some .local ∧ ((relabel scope X.env).names.lookup x = some .cell ∨ (relabel scope X.env).names.lookup x = some .free)
theorem wm0 {α : Type} {x : Str} {k : α} : ∀ {l : List (Str × α)}, l.lookup x = some k → (x, k) ∈ l
  | [], h => by simp at h
  | (n, k') :: r, h => by
    rw [List.lookup_cons] at h
    split at h
    · next e => simp only [Option.some.injEq] at h; subst h; rw [eq_of_beq e]; exact List.mem_cons_self
    · exact List.mem_cons_of_mem _ (wm0 h)
theorem CompSc.closed {X : Cx} {NN : List Str} {scope : Scope} (hf : ∀ y ∈ scope.names, y.2 ≠ .free) (hc : ∀ y ∈ scope.names, y.2 ≠ .cell) (hk : scope.kind = .function) (hn : ∀ y ∈ scope.names, y.2 = .local → scope.names.lookup y.1 = some .local) :
    CompSc X NN scope [] (NN.map fun _ => none) where
  clos := closureFor_none hf
  cell := hc
  kind := hk
  names := hn
  sub := fun x c h => by simp at h
  has := fun x h => by
    exfalso
    have e : (relabel scope X.env).names = scope.names := map_eq_self (l := scope.names) (fun y hy => by
      obtain ⟨n, k⟩ := y
      have : (k == NameKind.free) = false := by simpa using hf _ hy
      simp [this])
    rw [e] at h
    rcases h with h | h
    · exact hc _ (wm0 h) rfl
    · exact hf _ (wm0 h) rfl
  len := by simp
  out := fun i j h => by
    rw [List.getElem?_map] at h
    cases q : NN[i]? with
    | none => rw [q] at h; cases h
    | some y => rw [q] at h; simp at h
noncomputable def ye1 (js : List (Option Nat)) (σ : L2.St) : L2.St := js.map fun j => j.bind fun j => (σ[j]?).bind id
noncomputable def PTs (X : Cx) (ifs : List Expr) (t : TT) : Prop := ∀ (pins : List (Addr × Obj)) (s : Shared) (σ : L2.St) (H : Hp) (Q : Bool → Hp → Prop), Inv X pins σ H s → t σ H Q →
  wpAny (model X.prog X.w) X.A (forIn ifs true fun c r => if r = true then do let ok ← isTrue c X.env (eval c X.env); pure (ForInStep.yield ok) else pure (ForInStep.yield r)) (TP X pins σ Q) X.xe s
theorem xk5 {X : Cx} : PTs X [] (fun _ H Q => Q true H) := fun _ _ _ H _ I h => wpAny_tests_nil ⟨H, I, h⟩
noncomputable def wi6 (js : List (Option Nat)) (wi : TI) (g : TG) (tc : TT) (te : TE) : TE := fun σ H Q => wi σ H fun J H1 => ∀ p, H1 p = none →
  ∃ W : Nat → Nat → L2.St → Hp → Prop, (∃ m, W 0 m (ye1 js σ) (upd H1 p (.lst []))) ∧ ∀ i m σ' H', W i m σ' H' →
    ((J.stop i H' ∧ Q (.ref p) H') ∨ (J.go i H' ∧ ∀ x H2, J.yld i H' x H2 → g x σ' H2 fun σ3 H3 => tc σ3 H3 fun b H4 =>
      if b = true then te σ3 H4 fun y H5 => ∃ ys, H5 p = some (.lst ys) ∧ ys.length < sizeLine ∧ ∃ m', m' < m ∧ W (i + 1) m' σ3 (upd H5 p (.lst (ys ++ [y]))) else ∃ m', m' < m ∧ W (i + 1) m' σ3 H4))
section
variable {X : Cx} {NN : List Str} {scope : Scope} {cl : List (Str × Addr)} {js : List (Option Nat)}
theorem zu5 {pins : List (Addr × Obj)} {σ : L2.St} {H : Hp} {s : Shared} {fp : List Addr} {pn : List (Addr × Obj)} (hc : X.calm = true) (S : CompSc X NN scope cl js) (I : Inv X pins σ H s) (f : ∀ b ∈ fp, FpOk X pins H b ∧ b < s.heap.objs.size) :
    (wk0 X NN scope cl s.heap.objs.size fp s H pn).Ok where
  mod := I.ok.mod
  kind := S.kind
  glob := I.ok.glob
  blt := I.ok.blt
  above := Nat.le_refl _
  inj := fun x y c h1 h2 => I.ok.inj x y c (S.sub x c h1) (S.sub y c h2)
  has := fun x h => S.has x h
  cab := fun x c h => by cases h
  hd := fun _ => I.ok.hd hc
  frames := I.ok.frames
  stk := .inl rfl
  exf := fun b hb => ⟨Nat.ne_of_lt (f b hb).2, fun x c e => (f b hb).1.2.2.2.2.1 x c (S.sub x c e)⟩
  bs := I.bs
  bsz := Nat.le_trans I.ok.bsz I.sz
  noex := fun b o e hb => by
    rcases (f b hb).1.2.2.2.1 with z | z
    · exact I.ok.noex b o e z
    · exact absurd (Nat.lt_of_lt_of_le (Heap.lt_size e) (Nat.le_trans I.ok.bsz z)) (Nat.lt_irrefl _)
  exfs := fun b hb hfs => by
    rcases List.mem_cons.mp (I.stkSub b hfs) with z | z
    · exact (f b hb).1.2.1 z
    · exact (f b hb).1.2.2.1 z
  funs := I.stack
  frf := I.stkFree
theorem wt3 {js : List (Option Nat)} {σ : L2.St} {i : Nat} {v : V} (h : (ye1 js σ)[i]? = some (some v)) : ∃ j, js[i]? = some (some j) ∧ σ[j]? = some (some v) := by
  unfold ye1 at h
  rw [List.getElem?_map] at h
  cases q : js[i]? with
  | none => rw [q] at h; cases h
  | some o =>
    rw [q] at h
    cases o with
    | none => simp at h
    | some j =>
      refine ⟨j, rfl, ?_⟩
      simp only [Option.map_some, Option.bind_some, Option.some.injEq] at h
      cases e : σ[j]? with
      | none => rw [e] at h; simp at h
      | some w => rw [e] at h; simp only [Option.bind_some, id] at h; rw [h]
theorem zy3 {pins : List (Addr × Obj)} {σ : L2.St} {H : Hp} {s : Shared} {fp : List Addr} {h₁ : Heap} {m : Str → Option Value} {tk : Nat} (hc : X.calm = true) (S : CompSc X NN scope cl js) (I : Inv X pins σ H s) (f : ∀ b ∈ fp, FpOk X pins H b ∧ b < s.heap.objs.size)
    (hn : h₁.Ns s.heap.objs.size m) (k : ∀ b u, s.heap.get? b = some u → h₁.get? b = some u) : Inv (wk0 X NN scope cl s.heap.objs.size fp s H (X.pn ++ pins)) [] (ye1 js σ) H { s with heap := h₁, toks := tk } where
  ok := zu5 hc S I f
  os := rfl
  bare := I.bare
  base := Un.kept k
  loc := by
    refine ⟨m, hn, fun i x v h1 h2 h3 => ?_⟩
    obtain ⟨j, e1, e2⟩ := wt3 h2
    obtain ⟨y, q1, q2, q3, q4, q5⟩ := S.out i j e1
    have q1' : NN[i]? = some x := h1
    rw [q1] at q1'; cases q1'
    obtain ⟨mX, _, hl⟩ := I.loc
    obtain ⟨u, r, l⟩ := hl j x v q2 e2 q3
    refine ⟨u, r, .inr ⟨q5, ?_⟩⟩
    rcases l with ⟨z, _⟩ | ⟨_, c, hc', hcell⟩
    · exact absurd z q4
    · obtain ⟨c', hc2⟩ := S.has x q5
      have e := S.sub x c' hc2
      rw [hc'] at e; cases e
      obtain ⟨o, ho, hd⟩ := hcell
      exact ⟨c, hc2, o, k _ _ ho, hd⟩
  cell := fun x c e => by
    obtain ⟨v, o, ho, hd⟩ := I.cell x c (S.sub x c e)
    exact ⟨v, o, k _ _ ho, hd⟩
  free := I.hok.fresh (Nat.le_refl _)
  freeC := fun x c e => I.freeC x c (S.sub x c e)
  pin := fun p hp => by
    have hp' : p ∈ X.pn ++ pins := by simpa using hp
    obtain ⟨h1, h2, h3, h4, h5⟩ := I.pin p hp'
    refine ⟨k _ _ h1, h2, Nat.ne_of_lt (Heap.lt_size h1), fun z => ?_, h5⟩
    rcases List.mem_cons.mp (I.stkSub _ z) with z | z
    · exact h3 z
    · exact h4 z
  hok := I.hok.kept k
  len := by show (ye1 js σ).length = NN.length; unfold ye1; rw [List.length_map]; exact S.len
theorem yn5 {elt target iter : Expr} {ifs : List Expr} {pos : Pos} {wi : TI} {g : TG} {tc : TT} {te : TE} (hc : X.calm = true) (S : CompSc X NN scope cl js) (hi : PI X target iter wi)
    (hg : ∀ C fp s₀ H₀ pn, PG (wk0 X NN scope cl C fp s₀ H₀ pn) target g) (ht : ∀ C fp s₀ H₀ pn, PTs (wk0 X NN scope cl C fp s₀ H₀ pn) ifs tc) (he : ∀ C fp s₀ H₀ pn, PE (wk0 X NN scope cl C fp s₀ H₀ pn) elt te)
    (hs : ∀ x, foldedSetIterable iter X.env x = pure x) : PE X (.ListComp elt [⟨target, iter, ifs, 0⟩] scope pos) (wi6 js wi g tc te) := by
  intro pins s σ H Q I h
  rw [eval_ListComp]
  refine wpAny_comprehension_free (use := none) rfl hs S.clos S.kind S.names (thn (hi pins s σ H _ I h) fun xv s1 h1 => thn h1 fun itv s2 h2 => ?_)
  obtain ⟨it, fp, tn, J, H2, rfl, I2, T, st2, f2, hW⟩ := h2
  refine wpAny_newObj_type (wpAny_newFunctionEnv S.cell (by intro y hy; simp at hy) (fun h₁ hns₁ hsb₁ => ?_) S.kind)
  dsimp only at hns₁ hsb₁ ⊢
  have hD : H2 s2.heap.objs.size = none := I2.hok.fresh (Nat.le_refl _)
  have I3 : Inv X pins σ (upd H2 s2.heap.objs.size (.lst [])) { s2 with heap := s2.heap.push { cls := .type "list", dict := none, data := .seq ([] : List Value).toArray } } :=
    I2.lnew (t' := s2.toks) (its := []) .nil (by rw [sizeLine_eq]; decide)
  generalize hsD : ({ s2 with heap := s2.heap.push { cls := .type "list", dict := none, data := .seq ([] : List Value).toArray } } : Shared) = sD at I3
  have eh : sD.heap = s2.heap.push { cls := .type "list", dict := none, data := .seq ([] : List Value).toArray } := by rw [← hsD]
  have es : ∀ (h : Heap) (tk : Nat), ({ s2 with heap := h, toks := tk } : Shared) = { sD with heap := h, toks := tk } := fun h tk => by rw [← hsD]
  have hsz : s2.heap.objs.size < sD.heap.objs.size := by rw [eh, Heap.size_push]; exact Nat.lt_succ_self _
  rw [← eh] at hns₁ hsb₁ ⊢
  generalize hp0 : s2.heap.objs.size = p0 at *
  have up : ∀ b u, s2.heap.get? b = some u → sD.heap.get? b = some u := fun b u e => by rw [eh]; exact Heap.get?_push_of_some _ e
  have k : ∀ b u, sD.heap.get? b = some u → h₁.get? b = some u := fun b u e => hsb₁.extBut b u (Nat.ne_of_lt (Heap.lt_size e)) (Heap.get?_push_of_some _ e)
  have f3 : ∀ b ∈ fp, FpOk X pins (upd H2 p0 (.lst [])) b ∧ b < sD.heap.objs.size := fun b hb => by
    obtain ⟨o, ho, _⟩ := T.obj 0 _ st2 b hb
    have hlt : b < p0 := by rw [← hp0]; exact Heap.lt_size ho
    refine ⟨⟨?_, (f2 b hb).2⟩, Nat.lt_trans hlt hsz⟩
    rw [yd0 (Nat.ne_of_lt hlt)]; exact (f2 b hb).1
  obtain ⟨W, ⟨m0, w0⟩, turn⟩ := hW p0 hD
  have I4 := zy3 (tk := s2.toks + ([] : List (Str × Value)).length) hc S I3 f3 hns₁ k
  have st4 : tn 0 h₁ := T.keep 0 _ _ st2 fun b _ o e => k b o (up b o e)
  rw [es]
  generalize hX' : wk0 X NN scope cl sD.heap.objs.size fp sD (upd H2 p0 (.lst [])) (X.pn ++ pins) = X' at I4
  have a1 : X'.env = compEnvC scope cl sD.heap.objs.size X.env := by rw [← hX']
  have a2 : X'.prog = X.prog := by rw [← hX']
  have a3 : X'.w = X.w := by rw [← hX']
  have a4 : X'.A = X.A := by rw [← hX']
  have a5 : X'.K = X.K := by rw [← hX']
  have a6 : X'.calm = true := by rw [← hX']; exact hc
  have a7 : X'.xe = fun _ _ => False := by rw [← hX']
  have a8 : X'.ex = fp := by rw [← hX']
  have T' : Turn X'.prog X'.w X'.K target J fp it tn := by rw [a2, a3, a5]; exact T
  have hg' : PG X' target g := by rw [← hX']; exact hg _ _ _ _ _
  have ht' : PTs X' ifs tc := by rw [← hX']; exact ht _ _ _ _ _
  have he' : PE X' elt te := by rw [← hX']; exact he _ _ _ _ _
  have fin : ∀ {σ' : L2.St} {H' : Hp} {s' : Shared}, Inv X' [] σ' H' s' → Q (.ref p0) H' → compPost (model X.prog X.w) X.A X.xe none (EP X pins σ Q) (.ref p0) sD.heap.objs.size (.ok .next) s' := fun {σ' H' s'} I' q => by
    obtain ⟨m', hn', _⟩ := I'.loc
    rw [a1] at hn'
    refine ⟨m', hn', fun h' sb => ?_⟩
    have u : Un (frs X.stack) fp (upd H2 p0 (.lst [])) H' sD.heap s'.heap := by
      have := I'.base
      rw [← hX'] at this
      exact this
    have hch : ∀ b ∈ fp, (b ∈ X.ex ∨ X.s₀.heap.objs.size ≤ b) ∧ b ≠ X.env.locals ∧ (∀ x c, X.env.cells.lookup x = some c → c ≠ b) ∧ ∀ p ∈ X.pn ++ pins, p.1 ≠ b := fun b hb => by
      obtain ⟨_, z1, _, z3, z4, z5⟩ := (f3 b hb).1
      exact ⟨z3, z1, z4, z5⟩
    have os' : s'.os = sD.os := by
      have := I'.os
      rw [← hX'] at this
      exact this
    have hok' : HOk X.prog X.w H' s'.heap := by
      have := I'.hok
      rw [← hX'] at this
      exact this
    have I5 : Inv X pins σ H' s' := I3.call' os' u hok' I'.bare hch
    have hC : H' sD.heap.objs.size = none := by
      have := I'.free
      rw [a1] at this
      exact this
    refine ⟨.ref p0, H', I5.turned (t' := s'.toks) (it := sD.heap.objs.size) (fun b o hb e => sb.extBut b o hb e) hC (Nat.ne_of_gt I3.lt) (.inr I3.sz) (fun x c e => ?_) (fun p hp => ?_), rfl, q⟩
    · obtain ⟨v, o, ho, _⟩ := I3.cell x c e
      exact Nat.ne_of_lt (Heap.lt_size ho)
    · exact Nat.ne_of_lt (Heap.lt_size (I3.pin p hp).1)
  have fp4 : ∀ {H' : Hp}, (∀ b ∈ fp, H' b = none) → ∀ b ∈ fp, FpOk X' [] H' b := fun hn b hb => by
    obtain ⟨_, z1, z2, z3, z4, z5⟩ := (f3 b hb).1
    rw [← hX']
    refine ⟨hn b hb, Nat.ne_of_lt (f3 b hb).2, fun z => ?_, .inl hb, fun x c e => z4 x c (S.sub x c e), fun p hp => z5 p (by simpa using hp)⟩
    rcases List.mem_cons.mp (I3.stkSub _ z) with z | z
    · exact z1 z
    · exact z2 z
  have loop : ∀ s₃ : Shared, Inv X' [] (ye1 js σ) (upd H2 p0 (.lst [])) s₃ → tn 0 s₃.heap →
      codeAny (model X.prog X.w) X.A (.compLoop (.ListComp elt [⟨target, iter, ifs, 0⟩] scope pos) 0 (.ref it) (.ref p0) (compEnvC scope cl sD.heap.objs.size X.env)) (compPost (model X.prog X.w) X.A X.xe none (EP X pins σ Q) (.ref p0) sD.heap.objs.size) s₃ := by
    intro s₃ I₃ st₃
    refine codeAny_loop rfl (fun n s' => ∃ i σ' H', Inv X' [] σ' H' s' ∧ tn i s'.heap ∧ (∀ b ∈ fp, H' b = none) ∧ W i n σ' H') (fun n s' hI => ?_) m0 ⟨0, ye1 js σ, _, I₃, st₃, fun b hb => (f3 b hb).1.1, w0⟩
    obtain ⟨i, σ3, H3, J3, st3, fr3, w3⟩ := hI
    have tr := turn i n σ3 H3 w3
    show wpAny _ X.A ((compTurn (.ListComp elt [⟨target, iter, ifs, 0⟩] scope pos) 0 (.ref it) (.ref p0) (compEnvC scope cl sD.heap.objs.size X.env)).onRaise (fun x => do noteFrame x (compEnvC scope cl sD.heap.objs.size X.env); theTreesLotGoes x)) _ _ s'
    refine wpAny_noted ?_
    rw [compTurn_list, ← a1, ← a2, ← a3, ← a4]
    have nof : ∀ {α : Type} {t : Sem α} {Q' : α → Shared → Prop} {s'' : Shared} {E : Value → Shared → Prop}, wpAny (model X'.prog X'.w) X'.A t Q' X'.xe s'' → wpAny (model X'.prog X'.w) X'.A t Q' E s'' := fun h => wpAny_mono h (fun _ _ q => q) fun _ _ z => by rw [a7] at z; exact z.elim
    rcases tr with ⟨stop, qn⟩ | ⟨go, step⟩
    · refine wpAny_bind (wpAny_standAt (wpAny_bind (nof (thn (T'.done X' rfl rfl rfl a6 i [] s' σ3 H3 X'.xe J3 (fp4 fr3) st3 stop) fun r s4 ⟨hr, J4⟩ => ?_))))
      subst hr
      exact wpAny_pure (fin J4 qn)
    · refine wpAny_bind (wpAny_standAt (wpAny_bind (nof (thn (T'.item X' rfl rfl rfl a6 i [] s' σ3 H3 X'.xe J3 (fp4 fr3) st3 go) fun r s4 ⟨u, hr, h4⟩ => ?_))))
      subst hr
      refine wpAny_bind (nof (thn h4 fun _ s5 ⟨x, H5, I5, r5, y5, st5, fr5⟩ => ?_))
      have I5' := I5.pinned (fp4 fr5) (T.obj _ _ st5)
      refine wpAny_bind (nof (thn (hg' _ s5 σ3 H5 x u _ I5' r5 (step x H5 y5)) fun _ s6 ⟨σ6, H6, I6, q6⟩ => ?_))
      refine wpAny_bind (nof (thn (ht' _ s6 σ6 H6 _ I6 q6) fun ok s7 ⟨H7, I7, q7⟩ => ?_))
      have again : ∀ {s8 : Shared} {σ8 : L2.St} {H8 : Hp}, Inv X' ([] ++ yc1 fp s5.heap) σ8 H8 s8 → (∃ m', m' < n ∧ W (i + 1) m' σ8 H8) → ∃ m, m < n ∧ ∃ i σ' H', Inv X' [] σ' H' s8 ∧ tn i s8.heap ∧ (∀ b ∈ fp, H' b = none) ∧ W i m σ' H' := fun {s8 σ8 H8} I8 ⟨m', hm, w8⟩ => by
        refine ⟨m', hm, i + 1, σ8, H8, I8.unpinned, T.keep _ _ _ st5 fun b hb o e => (I8.pin (b, o) (List.mem_append_right _ (List.mem_append_right _ (zm0 hb e)))).1, fun b hb => ?_, w8⟩
        obtain ⟨o, e, d⟩ := T.obj _ _ st5 b hb
        exact (I8.pin (b, o) (List.mem_append_right _ (List.mem_append_right _ (zm0 hb e)))).2.1
      cases ok with
      | false => exact wpAny_pure ⟨rfl, again I7 q7⟩
      | true =>
        refine wpAny_bind (wpAny_bind (nof (thn (he' _ s7 σ6 H7 _ I7 q7) fun xv s8 ⟨y, H8, I8, r8, ys, q8, hlen, q9⟩ => wpAny_bind (nof ?_))))
        refine thn (xy1 (X := X') _ s8 σ6 H8 (.ref p0) [y] (.ref p0) [xv] (fun v H9 => v = .non ∧ H9 = upd H8 p0 (.lst (ys ++ [y]))) I8 rfl (.cons r8 .nil) ⟨p0, ys, y, rfl, rfl, q8, hlen, rfl, rfl⟩) fun rv s9 ⟨v9, H9, I9, _, _, e9⟩ => ?_
        subst e9
        exact wpAny_pure (wpAny_pure ⟨rfl, again I9 q9⟩)
  exact codeAny_compStart_list (loop _ I4 st4) (T.self X.A 0 _ _ _ st4 (loop _ I4 st4))
end
end Pv

namespace Pv
open PySem PySem.Spec PyProof.Rows L2
theorem zn0 : bootBuiltins "len" = some (.builtin "len") := by decide +kernel
theorem zt1 : bootBuiltins "isinstance" = some (.builtin "isinstance") := by decide +kernel
theorem wi0 : bootBuiltins "tuple" = some (.type "tuple") := by decide +kernel
theorem yv5 : bootBuiltins "list" = some (.type "list") := by decide +kernel
theorem wq7 : bootBuiltins "set" = some (.type "set") := by decide +kernel
theorem yr7 : bootBuiltins "any" = some (.builtin "any") := by decide +kernel
theorem xr7 : bootBuiltins "min" = some (.builtin "min") := by decide +kernel
theorem yu0 : bootBuiltins "sorted" = some (.builtin "sorted") := by decide +kernel
noncomputable def RTs (X : Cx) (ifs : List Expr) (t : TT3) : Prop := ∃ tv, PTs X ifs tv ∧ RdT X.K tv t
theorem wa1 {X : Cx} : RTs X [] tt3 := ⟨_, xk5, fun σ H Q ρ μ Q3 s m h k => k _ _ _ h (Kp.refl _) m⟩
theorem ym4 {K : Fg} {H : Hp} {ρ : St3} {σ : L2.St} (s : RSt K H ρ σ) (js : List (Option Nat)) : RSt K H (js.map fun j => j.bind (getI ρ)) (ye1 js σ) := by
  refine ⟨by simp [ye1], fun i d e => ?_⟩
  rw [zj2, List.getElem?_map] at e
  unfold ye1
  rw [List.getElem?_map]
  cases q : js[i]? with
  | none => rw [q] at e; cases e
  | some o =>
    rw [q] at e
    cases o with
    | none => simp at e
    | some j =>
      have e' : getI ρ j = some d := by simpa using e
      obtain ⟨v, h1, h2⟩ := s.at' j d e'
      exact ⟨v, by simp [h1], h2⟩
theorem RdE.comp {K : Fg} {js : List (Option Nat)} {wi : TI} {g : TG} {tc : TT} {te : TE} {ti : TI3} {g3 : TG3} {tc3 : TT3} {te3 : TE3} (ri : RdI K wi ti) (rg : RdG K g g3) (rt : RdT K tc tc3) (re : RdE K te te3) : RdE K (wi6 js wi g tc te) (comp3 js ti g3 tc3 te3) := by
  intro σ H Q ρ μ Q3 s m h k
  refine ri σ H _ ρ μ _ s m h fun l S μ1 J H1 h1 k1 m1 ok p hp => ?_
  obtain ⟨W, w0, hS, hn, hs⟩ := h1 p (m1.free hp)
  have kn : Kp H1 (upd H1 p (.lst [])) := Kp.new hp
  refine ⟨fun i n σ2 H2 => n = l.length - i ∧ i ≤ l.length ∧ ∃ ρ2 μ2 ys, RSt K H2 ρ2 σ2 ∧ RelM K μ2 H2 ∧ Kp H1 H2 ∧ W (l.drop i) ys ρ2 μ2, ⟨l.length, rfl, Nat.zero_le _, _, _, [], (ym4 (s.mono k1) js).mono kn, m1.newL hp .nil, kn, w0⟩, ?_⟩
  rintro i n σ2 H2 ⟨rfl, hi, ρ2, μ2, ys, s2, m2, k2, w2⟩
  obtain ⟨hS2, hp2⟩ := hS _ _ _ _ w2
  by_cases hlt : i < l.length
  · rw [List.drop_eq_getElem_cons hlt] at w2
    obtain ⟨hz, h2⟩ := hs _ _ _ _ _ w2
    obtain ⟨ok1, _⟩ := ok i H2 μ2 k2 m2 hS2
    obtain ⟨go, yl⟩ := ok1 l[i] (List.getElem?_eq_getElem hlt)
    refine .inr ⟨go, fun x H3 y => ?_⟩
    obtain ⟨k3, m3, r3⟩ := yl x H3 y
    refine rg x l[i] σ2 H3 _ ρ2 μ2 _ (s2.mono k3) m3 r3 h2 fun ρ4 μ4 σ4 H4 h4 k4 s4 m4 => ?_
    refine rt σ4 H4 _ ρ4 μ4 _ s4 m4 h4 fun b μ5 H5 h5 k5 m5 => ?_
    have k15 : Kp H1 H5 := k2.trans (k3.trans (k4.trans k5))
    cases b with
    | false => exact ⟨l.length - (i + 1), by omega, rfl, hlt, ρ4, μ5, ys, s4.mono k5, m5, k15, h5⟩
    | true =>
      refine re σ4 H5 _ ρ4 μ5 _ (s4.mono k5) m5 h5 fun d μ6 v H6 h6 k6 r6 m6 => ?_
      obtain ⟨vs, hv, rv⟩ := m6 p ys h6.1
      refine ⟨vs, hv, by rw [← rv.length]; exact hz, l.length - (i + 1), by omega, rfl, hlt, ρ4, _, _, ((s4.mono k5).mono k6).mono (Kp.wr hv), m6.wr hv (rv.append (.cons r6 .nil)), (k15.trans k6).trans (Kp.wr hv), h6.2⟩
  · have e : i = l.length := by omega
    subst e
    rw [List.drop_length] at w2
    exact .inl ⟨(ok _ H2 μ2 k2 m2 hS2).2 (Nat.le_refl _), k _ _ _ _ (hn _ _ _ w2) (k1.trans k2) (.ref p) m2⟩
section
variable {X : Cx} {elt target iter : Expr} {ifs : List Expr} {pos : Pos} {ti : TI3} {g : TG3} {tc : TT3} {te : TE3} {NN : List Str} {scope : Scope} {cl : List (Str × Addr)} {js : List (Option Nat)}
theorem yt0 (hc : X.calm = true) (S : CompSc X NN scope cl js) (hi : RI X target iter ti) (hg : ∀ C fp s₀ H₀ pn, RG (wk0 X NN scope cl C fp s₀ H₀ pn) target g)
    (ht : ∀ C fp s₀ H₀ pn, RTs (wk0 X NN scope cl C fp s₀ H₀ pn) ifs tc) (he : ∀ C fp s₀ H₀ pn, RE (wk0 X NN scope cl C fp s₀ H₀ pn) elt te)
    (hs : ∀ x, foldedSetIterable iter X.env x = pure x) : RE X (.ListComp elt [⟨target, iter, ifs, 0⟩] scope pos) (comp3 js ti g tc te) := by
  obtain ⟨wi, pi, ri⟩ := hi
  -- one reading for all blocks: the union of theirs
  let gU : TG := fun v σ H Q => ∀ (r : TG3), r = g → ∃ d ρ μ Q3, RSt X.K H ρ σ ∧ RelM X.K μ H ∧ RelD X.K H d v ∧ g d ρ μ Q3 ∧ (∀ ρ' μ' σ' H', Q3 ρ' μ' → Kp H H' → RSt X.K H' ρ' σ' → RelM X.K μ' H' → Q σ' H')
  let tU : TT := fun σ H Q => ∃ ρ μ Q3, RSt X.K H ρ σ ∧ RelM X.K μ H ∧ tc ρ μ Q3 ∧ (∀ b μ' H', Q3 b μ' → Kp H H' → RelM X.K μ' H' → Q b H')
  let eU : TE := fun σ H Q => ∃ ρ μ Q3, RSt X.K H ρ σ ∧ RelM X.K μ H ∧ te ρ μ Q3 ∧ Ks X.K H Q3 Q
  have hg' : ∀ C fp s₀ H₀ pn, PG (wk0 X NN scope cl C fp s₀ H₀ pn) target gU := fun C fp s₀ H₀ pn => by
    obtain ⟨tv, p, r⟩ := hg C fp s₀ H₀ pn
    intro pins s σ H v u Q I rv h
    obtain ⟨d, ρ, μ, Q3, a1, a2, a3, a4, a5⟩ := h g rfl
    exact p pins s σ H v u Q I rv (r v d σ H Q ρ μ Q3 a1 a2 a3 a4 a5)
  have ht' : ∀ C fp s₀ H₀ pn, PTs (wk0 X NN scope cl C fp s₀ H₀ pn) ifs tU := fun C fp s₀ H₀ pn => by
    obtain ⟨tv, p, r⟩ := ht C fp s₀ H₀ pn
    intro pins s σ H Q I h
    obtain ⟨ρ, μ, Q3, a1, a2, a3, a4⟩ := h
    exact p pins s σ H Q I (r σ H Q ρ μ Q3 a1 a2 a3 a4)
  have he' : ∀ C fp s₀ H₀ pn, PE (wk0 X NN scope cl C fp s₀ H₀ pn) elt eU := fun C fp s₀ H₀ pn => by
    obtain ⟨tv, p, r⟩ := he C fp s₀ H₀ pn
    intro pins s σ H Q I h
    obtain ⟨ρ, μ, Q3, a1, a2, a3, a4⟩ := h
    exact p pins s σ H Q I (r σ H Q ρ μ Q3 a1 a2 a3 a4)
  exact ⟨_, yn5 hc S pi hg' ht' he' hs, RdE.comp ri (fun v d σ H Q ρ μ Q3 a1 a2 a3 a4 a5 _ _ => ⟨d, ρ, μ, Q3, a1, a2, a3, a4, a5⟩) (fun σ H Q ρ μ Q3 a1 a2 a3 a4 => ⟨ρ, μ, Q3, a1, a2, a3, a4⟩) (fun σ H Q ρ μ Q3 a1 a2 a3 a4 => ⟨ρ, μ, Q3, a1, a2, a3, a4⟩)⟩
theorem xj5 (hf : ∀ y ∈ scope.names, y.2 ≠ .free) (hcl : ∀ y ∈ scope.names, y.2 ≠ .cell) (hn : ∀ y ∈ scope.names, y.2 = .local → scope.names.lookup y.1 = some .local) (hi : RI X target iter ti) (hg : ∀ C fp s₀ H₀ pn, RG (wk0 X NN scope [] C fp s₀ H₀ pn) target g)
    (ht : ∀ C fp s₀ H₀ pn, RTs (wk0 X NN scope [] C fp s₀ H₀ pn) ifs tc) (he : ∀ C fp s₀ H₀ pn, RE (wk0 X NN scope [] C fp s₀ H₀ pn) elt te) (hc : X.calm = true := by rfl) (hk : scope.kind = .function := by rfl)
    (hs : ∀ x, foldedSetIterable iter X.env x = pure x := by intro _; rfl) : RE X (.ListComp elt [⟨target, iter, ifs, 0⟩] scope pos) (comp3 (NN.map fun _ => none) ti g tc te) :=
  yt0 hc (CompSc.closed hf hcl hk hn) hi hg ht he hs
end
end Pv

namespace Pv
open PySem PySem.Spec PyProof.Rows L2
mutual
inductive TupK (K : Fg) : List D → Addr → Prop where
  | mk {a : Addr} {l : List D} {its : Array Value} {n : Nat} {od : Option Addr} {sl : Array (Option Value)} : K.lookup a = some ⟨.type "tuple", od, .seq its n, sl⟩ → its.size ≤ sizeLine → ItK K l its.toList → TupK K l a
inductive ItK (K : Fg) : List D → List Value → Prop where
  | nil : ItK K [] []
  | int {i : Int} {t : Tok} {l : List D} {us : List Value} : ItK K l us → ItK K (.int i :: l) (.int i t :: us)
  | str {x : Str} {t : Tok} {l : List D} {us : List Value} : ItK K l us → ItK K (.str x :: l) (.str x t :: us)
  | bl {b : Bool} {l : List D} {us : List Value} : ItK K l us → ItK K (.bl b :: l) (.bool b :: us)
  | tup {a : Addr} {l' l : List D} {us : List Value} : TupK K l' a → ItK K l us → ItK K (.tup l' :: l) (.ref a :: us)
end
mutual
theorem TupK.rel {K : Fg} : ∀ {l : List D} {a : Addr}, TupK K l a → ∀ H, RelD K H (.tup l) (.ref a)
  | _, _, .mk h1 h2 h3, H => by
    obtain ⟨vs, r, rd⟩ := h3.rel
    exact .tup (.inr ⟨_, _, _, h1, rfl, rfl, h2, r⟩) (rd H)
theorem ItK.rel {K : Fg} : ∀ {l : List D} {us : List Value}, ItK K l us → ∃ vs, Vals vs us ∧ ∀ H, RelDs K H l vs
  | _, _, .nil => ⟨[], .nil, fun _ => .nil⟩
  | _, _, .int h => let ⟨vs, r, rd⟩ := h.rel; ⟨_, .cons (show RelV (.int _) _ from ⟨_, rfl⟩) r, fun H => .cons (.int _) (rd H)⟩
  | _, _, .str h => let ⟨vs, r, rd⟩ := h.rel; ⟨_, .cons (show RelV (.str _) _ from ⟨_, rfl⟩) r, fun H => .cons (.str _) (rd H)⟩
  | _, _, .bl h => let ⟨vs, r, rd⟩ := h.rel; ⟨_, .cons (show RelV (.bl _) _ from rfl) r, fun H => .cons (.bl _) (rd H)⟩
  | _, _, .tup h0 h => let ⟨vs, r, rd⟩ := h.rel; ⟨_, .cons (show RelV (.ref _) _ from rfl) r, fun H => .cons (h0.rel H) (rd H)⟩
end
section
variable {K : Fg} {h : Heap} {mg : Str → Option Value} {x : Str}
theorem yu3 {a : Addr} {l : List D} (X : K.In h) (G : h.Ns mainGlobals mg) (e : PySem.W.nsIn K mainGlobals x = some (some (.ref a))) (r : TupK K l a) : Gd K mg x (.tup l) := ⟨_, .ref a, PySem.W.mg_of X G e, rfl, fun H => r.rel H⟩
end
theorem xa2 {K : Fg} {H : Hp} : ∀ ns : List Int, RelDs K H (ns.map D.int) (ns.map V.int)
  | [] => .nil
  | n :: r => .cons (.int n) (xa2 r)
theorem yk4 {K : Fg} {H : Hp} {a : Addr} {ns : List Int} {sp : Sp3} (hO : Only H) (hS : SqL K H a (ns.map V.int)) (h : sp [.fls (ns.map D.int)] (fun _ => none) (fun d _ => d = .bl true)) :
    lift K sp [.ref a] H (fun v _ => v = .bl true) fun _ _ _ => False := by
  have hF : SqF K H a (ns.map V.int) := by
    rcases hS with (h1 | ⟨o, h1⟩) | h1
    · rcases hO a with z | ⟨o, xs, z⟩
      · rw [h1] at z; cases z
      · rw [h1] at z; cases z
    · exact .inl ⟨o, h1⟩
    · exact .inr h1
  refine ⟨_, _, _, .cons (.fls hF (xa2 ns)) .nil, (⟨fun p xs e => (by cases e), fun p c fs e => (by cases e), fun p kvs e => (by cases e)⟩), h, fun d μ' v H' q _ r _ => ?_⟩
  subst q
  cases r
  rfl
end Pv

namespace Pv
open PySem PySem.Spec PyProof.Rows L2
open PySem.AutoSeq1 (wpAny_loadPart')
theorem we2 (l : Addr) (items : Array Value) (n : Nat) (dd : Option Addr) (sl : Array (Option Value)) (x : Int) (u : Tok) (hc0 : (decide (x < -(2 ^ 63)) || decide (x ≥ 2 ^ 63)) = false) (hc1 : (items.isEmpty || x == 1) = true) :
    Meets (Builtin.«tuple.__mul__» ⟨[.ref l, .int x u], []⟩) (fun _ R s => s.heap.get? l = some { cls := .type "tuple", dict := dd, data := .seq items n, slots := sl } ∧ R (.ok (.ret (.ref l))) s) :=
  .of_wp fun prog w A R s h => by
    obtain ⟨hp, g, d, tk, os⟩ := s; obtain ⟨hl, h⟩ := h
    have f1 := AutoSeq1.idx_int
    have f2 := AutoSeq1.sub_tuple_tuple
    wp_walk using wpAny_loadPart' hl
    refine wpAny_ite_false (decide_eq_false (by rw [hc0]; exact Bool.false_ne_true)) ?_
    wp_walk using wpAny_loadPart' hl
    exact ⟨_, rfl, h⟩
theorem ze2 (l : Addr) (items : Array Value) (n : Nat) (dd : Option Addr) (sl : Array (Option Value)) (x : Int) (u : Tok) (hc0 : (decide (x < -(2 ^ 63)) || decide (x ≥ 2 ^ 63)) = false) (hc1 : (items.isEmpty || x == 1) = false) (hc2 : (decide (x ≤ 0) || items.isEmpty) = true) :
    Meets (Builtin.«tuple.__mul__» ⟨[.ref l, .int x u], []⟩) (fun _ R s => s.heap.get? l = some { cls := .type "tuple", dict := dd, data := .seq items n, slots := sl } ∧ R (.ok (.ret (.ref s.heap.objs.size))) { s with heap := s.heap.push { cls := .type "tuple", data := .seq #[] } }) :=
  .of_wp fun prog w A R s h => by
    obtain ⟨hp, g, d, tk, os⟩ := s; obtain ⟨hl, h⟩ := h
    have f1 := AutoSeq1.idx_int
    have f2 := AutoSeq1.sub_tuple_tuple
    wp_walk using wpAny_loadPart' hl
    refine wpAny_ite_false (decide_eq_false (by rw [hc0]; exact Bool.false_ne_true)) ?_
    wp_walk using wpAny_loadPart' hl
    exact ⟨_, rfl, h⟩
theorem ye2 (l : Addr) (items : Array Value) (n : Nat) (dd : Option Addr) (sl : Array (Option Value)) (x : Int) (u : Tok) (hc0 : (decide (x < -(2 ^ 63)) || decide (x ≥ 2 ^ 63)) = false) (hc1 : (items.isEmpty || x == 1) = false) (hc2 : (decide (x ≤ 0) || items.isEmpty) = false)
    (hc3 : ¬ ((items.size : Int) * x > (2 ^ 63 - 1) / 8)) (hc4 : Builtin.Tuple.tupleTooMany ((items.size : Int) * x) = false) (hz : ((List.replicate x.toNat items).foldl (· ++ ·) #[]).size ≤ sizeLine) :
    Meets (Builtin.«tuple.__mul__» ⟨[.ref l, .int x u], []⟩) (fun _ R s => s.heap.get? l = some { cls := .type "tuple", dict := dd, data := .seq items n, slots := sl } ∧ R (.ok (.ret (.ref s.heap.objs.size))) { s with heap := s.heap.push { cls := .type "tuple", data := .seq ((List.replicate x.toNat items).foldl (· ++ ·) #[]) } }) :=
  .of_wp fun prog w A R s h => by
    obtain ⟨hp, g, d, tk, os⟩ := s; obtain ⟨hl, h⟩ := h
    have f1 := AutoSeq1.idx_int
    have f2 := AutoSeq1.sub_tuple_tuple
    wp_walk using wpAny_loadPart' hl
    refine wpAny_ite_false (decide_eq_false (by rw [hc0]; exact Bool.false_ne_true)) ?_
    wp_walk using wpAny_loadPart' hl
    refine wpAny_ite_false (decide_eq_false hc3) ?_
    wp_walk using wpAny_loadPart' hl
    all_goals try (refine wpAny_ite_false (decide_eq_false (by rw [hc4]; exact Bool.false_ne_true)) ?_)
    have hsz : ((List.replicate x.toNat items).foldl (· ++ ·) #[]).size ≤ sizeLine := hz
    wp_walk using wpAny_loadPart' hl
    exact ⟨_, rfl, h⟩

theorem wc1 : fillsNumberSlot (.type "tuple") "mul" = pure false :=
  PySem.fillsNumberSlot_seq (id := "tuple.__mul__") (r := some (.builtin "tuple.__rmul__")) F.slot_tuple_mul.lookup (by decide +kernel) F.slot_tuple_rmul.lookup (by decide +kernel)
theorem zb1 : seqRepeat? (.type "tuple") = pure (some (.builtin "tuple.__mul__")) := by
  unfold seqRepeat?
  rw [PySem.seqSlot_of F.slot_tuple_mul.lookup (T := "tuple") (name := "__mul__") (id := "tuple.__mul__") (by decide +kernel), PySem.seqSlot_of F.slot_tuple_rmul.lookup (T := "tuple") (name := "__rmul__") (id := "tuple.__rmul__") (by decide +kernel)]
  rfl
theorem xi1 (a : Int) (t : Tok) (l : Addr) (its : Array Value) (n : Nat) (dd : Option Addr) (sl : Array (Option Value)) :
    Meets (Builtin.«int.__rmul__» ⟨[.int a t, .ref l], []⟩) (fun _ R s => s.heap.get? l = some ⟨.type "tuple", dd, .seq its n, sl⟩ ∧ R (.ok (.ret .notImplemented)) s) :=
  .of_wp fun prog w A R s h => by
    obtain ⟨hp, g, d, tk, os⟩ := s
    obtain ⟨hl, h⟩ := h
    wp_walk using wpAny_loadPart' hl
    exact ⟨_, rfl, h⟩
section
variable {X : Cx}
noncomputable def zd8 (K : Fg) : R2 := fun x y H Q => ∃ a k xs, x = .ref a ∧ y = .int k ∧ SqT K H a xs ∧ -(2 ^ 62) ≤ k ∧ k < 2 ^ 62 ∧ xs.length * k.toNat ≤ 1000000 ∧ (xs = [] ∨ k = 1 → Q (.ref a) H) ∧ ∀ p, H p = none → Q (.ref p) (upd H p (.tup (List.replicate k.toNat xs).flatten))
theorem op_repT : OpR X (binaryOp .Mult) (zd8 X.K) := by
  intro pins s σ H x y v u Q I rx ry h
  obtain ⟨a, k, xs, rfl, rfl, hq, h1, h2, hz, q1, q2⟩ := h
  cases rx
  obtain ⟨t, rfl⟩ := ry
  obtain ⟨its, r, ⟨⟨cls, dd, data, sl⟩, ho, hc, n, hd⟩, hl⟩ := I.tuple hq
  simp only at hc hd
  subst hc hd
  have hlen : its.length = xs.length := r.length.symm
  have c0 : (decide (k < -(2 ^ 63)) || decide (k ≥ 2 ^ 63)) = false := by
    rw [decide_eq_false (by omega), decide_eq_false (by omega)]; rfl
  refine wpAny_binaryOp_repeat_ref (T := "tuple") (U := "int") (by decide) ⟨_, ho, rfl⟩ (fun s' => typeIs_int s' k t) wc1 F.fills_int_mul F.slot_int_rmul zb1 F.slot_int_index.lookup
    (call_meets F.slot_int_rmul (typeIs_int s k t) F.entry_int_rmul (F.args_int_rmul_2 _ _) (xi1 k t a its.toArray n dd sl) ⟨ho, rfl, ⟨_, ho, rfl⟩, ?_⟩)
  by_cases e1 : xs = [] ∨ k = 1
  · refine call_meets F.slot_tuple_mul ⟨_, ho, rfl⟩ F.entry_tuple_mul (F.args_tuple_mul_2 _ _) (we2 a its.toArray n dd sl k t c0 ?_) ⟨ho, ⟨.ref a, H, I, rfl, q1 e1⟩⟩
    rcases e1 with e1 | e1
    · subst e1; cases r; rfl
    · subst e1; simp
  · have hne : its ≠ [] := fun z => e1 (.inl (by subst z; cases r; rfl))
    have hk1 : k ≠ 1 := fun z => e1 (.inr z)
    have c1 : (its.toArray.isEmpty || k == 1) = false := by simp [hne, hk1]
    have hf : H s.heap.objs.size = none := I.hok.fresh (Nat.le_refl _)
    by_cases e2 : k ≤ 0
    · have hk0 : k.toNat = 0 := by omega
      refine call_meets F.slot_tuple_mul ⟨_, ho, rfl⟩ F.entry_tuple_mul (F.args_tuple_mul_2 _ _) (ze2 a its.toArray n dd sl k t c0 c1 (by simp [e2])) ⟨ho, ?_⟩
      refine ⟨.ref _, upd H s.heap.objs.size (.tup []), I.laid (t' := s.toks) (fun b ob q => Heap.get?_push_of_some _ q) (Nat.le_refl _) ⟨by rw [sizeLine_eq]; decide, [], .nil, IsTup.new _ _⟩, rfl, ?_⟩
      have := q2 _ hf
      rw [hk0] at this
      exact this
    · have fr : List.foldl (· ++ ·) #[] (List.replicate k.toNat its.toArray) = (List.replicate k.toNat its).flatten.toArray := by
        have := ze1 its k.toNat []
        rw [List.nil_append] at this
        exact this
      have hb : (1000000 : Nat) ≤ sizeLine := by rw [sizeLine_eq]; decide
      have hm : (its.toArray.size : Int) * k ≤ 1000000 := by
        rw [List.size_toArray, hlen]
        have : ((xs.length * k.toNat : Nat) : Int) ≤ 1000000 := by omega
        rw [Int.natCast_mul, Int.toNat_of_nonneg (by omega)] at this
        exact this
      have hsz : (List.replicate k.toNat its).flatten.length ≤ sizeLine := by rw [zi2, Nat.mul_comm, hlen]; omega
      refine call_meets F.slot_tuple_mul ⟨_, ho, rfl⟩ F.entry_tuple_mul (F.args_tuple_mul_2 _ _) (ye2 a its.toArray n dd sl k t c0 c1 (by simp [hne]; omega) (by omega) ?_ (by rw [fr, List.size_toArray]; exact hsz)) ⟨ho, ?_⟩
      · unfold Builtin.Tuple.tupleTooMany
        rw [decide_eq_false (by omega)]
      · rw [fr]
        refine ⟨.ref _, upd H s.heap.objs.size (.tup (List.replicate k.toNat xs).flatten), I.laid (t' := s.toks) (fun b ob q => Heap.get?_push_of_some _ q) (Nat.le_refl _) ⟨?_, _, r.rep k.toNat, IsTup.new _ _⟩, rfl, q2 _ hf⟩
        rw [zi2, Nat.mul_comm]; omega
theorem xh1 : RO X (binaryOp .Mult) mulR := by
  refine ⟨_, op_mulB.or (op_repT.or zg7), fun x y v u H Q μ Q3 m rx ry h k => ?_⟩
  cases ry with
  | int j =>
    cases rx with
    | int i => exact .inl ⟨i, j, rfl, rfl, h.1, k _ _ _ _ h.2 (Kp.refl _) (.int _) m⟩
    | tup hq rs =>
      rename_i a l vs
      refine .inr (.inl ⟨a, j, vs, rfl, rfl, hq, h.1.1.1, h.1.1.2, by rw [← rs.length]; exact h.1.2, fun e => ?_, fun p hp => ?_⟩)
      · rcases e with e | e
        · subst e; cases rs
          have h2 := h.2
          have e : (List.replicate j.toNat ([] : List D)).flatten = [] := by simp
          rw [e] at h2
          exact k _ _ _ _ h2 (Kp.refl _) (.tup hq .nil) m
        · subst e
          have h2 := h.2
          have e : (List.replicate (1 : Int).toNat l).flatten = l := by simp
          rw [e] at h2
          exact k _ _ _ _ h2 (Kp.refl _) (.tup hq rs) m
      · exact k _ _ _ _ h.2 (Kp.new hp) (.tup (SqT.of wf0) ((rs.rep _).mono (Kp.new hp))) (m.newT hp)
    | ref p =>
      dsimp only [mulR] at h
      cases e : μ p with
      | none => rw [e] at h; exact h.elim
      | some oo =>
        cases oo with
        | ins _ _ => rw [e] at h; exact h.elim
        | dct _ => rw [e] at h; exact h.elim
        | lst l =>
          rw [e] at h
          obtain ⟨vs, hv, rv⟩ := m p l e
          have hb : (1000000 : Nat) ≤ sizeLine := by rw [sizeLine_eq]; decide
          refine .inr (.inr ⟨p, j, vs, rfl, rfl, hv, by have := h.1.1.1; omega, by have := h.1.1.2; omega, by rw [← rv.length]; exact Nat.le_trans h.1.2 hb, fun t ht => ?_⟩)
          exact k _ _ _ _ (h.2 t (m.free ht)) (Kp.new ht) (.ref t) (m.newL ht (rv.rep _))
    | _ => exact False.elim h
  | _ => cases rx <;> exact False.elim h
theorem xg3 {prog : Program} {w : World} {A : Around} {E : Value → Shared → Prop} {s : Shared} {t sl : Addr} {items : Array Value} {vl vu : Value} {lo hi : Option Int} {Q : Value → Shared → Prop} (ht : IsTup s.heap t items) (hs : s.heap.IsSliceOf sl vl vu .none) (pl : IsPart vl lo) (pu : IsPart vu hi)
    (hw : HT.sIx items.size 0 lo = 0 ∧ HT.sIx items.size items.size hi = items.size) (h : Q (.ref t) s) : wpAny (model prog w) A (getItem (.ref t) (.ref sl)) Q E s := by
  obtain ⟨os, hos, hcs, hds⟩ := id hs
  have hTs : s.TypeIs (.ref sl) "slice" := ⟨os, hos, hcs⟩
  unfold getItem
  try with_reducible refine wpAny_holding ?_
  first | refine wpAny_bind (wpAny_pure ?_) | skip
  refine wpAny_bind (wpAny_sequenceKey ht.typeIs (by decide) ?_)
  refine wpAny_bind (wpAny_callSpecial?_slot ht.typeIs (name := Str.ofString "__getitem__") PyProof.Rows.slot_tuple_getitem (wpAny_call_entry PyProof.Rows.slot_tuple_getitem ht.typeIs entry_tuple_getitem ?_ (args_tuple_getitem _ _)))
  show wpAny _ _ (Builtin.Tuple.tupleItemsOf (.ref t) >>= _) _ _ s
  refine wpAny_bind (tupleItemsOf_ ht ?_)
  refine wpAny_bind (wpAny_typeOf hTs ?_)
  rw [if_pos (by decide)]
  refine wpAny_bind (HT.sliceApplied_gen hs pl pu ?_)
  rw [hw.1, hw.2]
  show wpAny _ _ (if ((((0 : Nat) : Int) == 0 && (1 : Int) == 1 && (items.size - 0) == items.size) = true) then _ else _) _ _ s
  rw [if_pos (by simp)]
  refine wpAny_bind (m := Builtin.Tuple.tupleIsExact _) (wpAny_bind (wpAny_typeOf ht.typeIs (wpAny_pure ?_)))
  rw [if_pos (by decide)]
  refine wpAny_bind (wpAny_rule ?_)
  first
    | exact wpAny_pure ⟨_, rfl, wpAny_pure h⟩
    | exact wpAny_bind (wpAny_pure (wpAny_pure ⟨_, rfl, wpAny_pure h⟩))
    | exact wpAny_bind (wpAny_bind (wpAny_pure (wpAny_pure (wpAny_pure ⟨_, rfl, wpAny_pure h⟩))))
noncomputable def rSlA (K : Fg) : V → Option Int → Option Int → Hp → VK → Prop := fun x lo hi H Q => ∃ a xs, x = .ref a ∧ SqT K H a xs ∧ (cutV xs lo hi = xs → Q (.ref a) H) ∧ ∀ p, H p = none → Q (.ref p) (upd H p (.tup (cutV xs lo hi)))
theorem sl_tupA : SlR X (rSlA X.K) := by
  intro pins s σ H x v vl vu lo hi sl Q I rx hs pl pu h
  obtain ⟨a, xs, rfl, hx, q1, q2⟩ := h
  by_cases hw : HT.sIx xs.length 0 lo = 0 ∧ HT.sIx xs.length xs.length hi = xs.length
  · cases rx
    obtain ⟨its, r, ht, hz⟩ := I.tuple hx
    have hlen : its.toArray.size = xs.length := by rw [List.size_toArray]; exact r.length.symm
    have e : cutV xs lo hi = xs := by unfold cutV; rw [hw.1, hw.2]; simp
    exact ⟨"tuple", _, PyProof.Rows.slot_tuple_getitem.lookup, ht.typeIs, xg3 ht hs pl pu (by rw [hlen]; exact hw) ⟨.ref a, H, I, rfl, q1 e⟩⟩
  · exact wj6 pins s σ H _ v vl vu lo hi sl Q I rx hs pl pu ⟨a, xs, rfl, hx, hw, q2⟩
theorem wh5 : ∀ (n d : Nat) (o : Option Int), HT.sIx n d o = sIx3 n d o
  | _, _, none => rfl
  | _, _, some _ => rfl
theorem RelDs.cut {K : Fg} {H : Hp} {l : List D} {vs : List V} (r : RelDs K H l vs) (lo hi : Option Int) : RelDs K H (cut3 l lo hi) (cutV vs lo hi) := by
  unfold cut3 cutV
  rw [← r.length]
  simp only [wh5]
  exact (r.drop _).take _
noncomputable def RdP (K : Fg) (tv : TO) (t : TO3) : Prop := ∀ σ H Q ρ μ Q3, RSt K H ρ σ → RelM K μ H → t ρ μ Q3 → (∀ o μ' H', Q3 o μ' → Kp H H' → RelM K μ' H' → Q o H') → tv σ H Q
noncomputable def RP (X : Cx) (e : Option Expr) (t : TO3) : Prop := ∃ tv, PO X e tv ∧ RdP X.K tv t
theorem yn1 : RP X none np3 := ⟨_, xm5, fun σ H Q ρ μ Q3 s m h k => k _ _ _ h (Kp.refl _) m⟩
theorem xn1 {e : Expr} {te : TE3} (h : RE X e te) : RP X (some e) (pt3 te) := by
  obtain ⟨tv, p, r⟩ := h
  refine ⟨_, wl5 p, fun σ H Q ρ μ Q3 s m h k => r σ H _ ρ μ _ s m h fun d μ1 v H1 h1 k1 r1 m1 => ?_⟩
  cases r1 with
  | int i => exact ⟨i, rfl, k _ _ _ h1 k1 m1⟩
  | _ => exact False.elim h1
noncomputable def RL (X : Cx) (r3 : D → Option Int → Option Int → Mu → VK3 → Prop) : Prop := ∃ r, SlR X r ∧ ∀ x v lo hi H Q μ Q3, RelM X.K μ H → RelD X.K H x v → r3 x lo hi μ Q3 → Ks X.K H Q3 Q → r v lo hi H Q
noncomputable def rSlS : V → Option Int → Option Int → Hp → VK → Prop := fun x lo hi H Q => ∃ z : Str, x = .str z ∧ z.length ≤ sizeLine ∧ Q (.str ⟨(cut3 z.cps.toList lo hi).toArray⟩) H
theorem yj6 (lo hi : Option Int) (n : Nat) : Builtin.Str.strSliceIndices lo hi 1 n = sliceRange ((sIx3 n 0 lo : Nat) : Int) ((sIx3 n n hi : Nat) : Int) 1 := by
  unfold Builtin.Str.strSliceIndices
  have a1 : ∀ (d : Nat) (v : Option Int), (match v with | none => ((d : Nat) : Int) | some i => (if (1 : Int) > 0 then max 0 (min (if i < 0 then i + (n : Int) else i) (n : Int)) else max (-1) (min (if i < 0 then i + (n : Int) else i) ((n : Int) - 1)))) = ((sIx3 n d v : Nat) : Int) := fun d v => by
    cases v with
    | none => rfl
    | some i =>
      simp only [sIx3, show (1 : Int) > 0 by decide, if_true]
      by_cases h : i < 0
      · simp only [h, if_true]; omega
      · simp only [h, if_false]; omega
  have e1 := a1 0 lo
  have e2 := a1 n hi
  simp only [show (1 : Int) > 0 by decide, if_true] at e1 e2 ⊢
  rw [← e1, ← e2]
  cases lo <;> cases hi <;> rfl
theorem yk6 (n : Nat) (o : Option Int) : sIx3 n n o ≤ n := by
  cases o with
  | none => exact Nat.le_refl _
  | some v =>
    show (if v < 0 then (v + (n : Int)).toNat else min v.toNat n) ≤ n
    split <;> omega
theorem xk6 : SlR X rSlS := by
  intro pins s σ H x v vl vu lo hi sl Q I rx hs pl pu h
  obtain ⟨z, rfl, hz, q⟩ := h
  obtain ⟨t, rfl⟩ := rx
  refine ⟨"str", _, F.slot_str_getitem.lookup, typeIs_str _ _ _, ?_⟩
  have hl : ∃ l : Option (Int × Tok), partValue l = vl ∧ l.map (·.1) = lo := by
    cases pl with
    | none => exact ⟨none, rfl, rfl⟩
    | int i t => exact ⟨some (i, t), rfl, rfl⟩
  have hu : ∃ u : Option (Int × Tok), partValue u = vu ∧ u.map (·.1) = hi := by
    cases pu with
    | none => exact ⟨none, rfl, rfl⟩
    | int i t => exact ⟨some (i, t), rfl, rfl⟩
  obtain ⟨l, rfl, rfl⟩ := hl
  obtain ⟨u, rfl, rfl⟩ := hu
  refine wpAny_getItem_str_slice (l := l) (u := u) (st := none) hs rfl ?_
  have e : (slicePicked z l u none).filterMap (z.cps[·]?) = cut3 z.cps.toList (l.map (·.1)) (u.map (·.1)) := by
    unfold slicePicked
    show (Builtin.Str.strSliceIndices _ _ 1 z.length).filterMap (z.cps[·]?) = _
    rw [yj6, sliceRange_one, pick_run]
    unfold cut3
    rw [Array.length_toList]
    rfl
  unfold sliceMade
  split
  · next hw =>
    have hlen : (slicePicked z l u none).length = z.length := by
      rw [Bool.and_eq_true] at hw
      simpa using hw.2
    have ez : cut3 z.cps.toList (l.map (·.1)) (u.map (·.1)) = z.cps.toList := by
      have h1 : (Builtin.Str.strSliceIndices (l.map (·.1)) (u.map (·.1)) 1 z.length).length = z.length := hlen
      rw [yj6, sliceRange_one, List.length_map, List.length_range] at h1
      have h2 := yk6 z.length (u.map (·.1))
      have hs : z.length = z.cps.size := rfl
      unfold cut3
      rw [Array.length_toList, ← hs]
      rcases Nat.eq_zero_or_pos z.length with h0 | h0
      · have : z.cps.toList = [] := List.eq_nil_of_length_eq_zero (by rw [Array.length_toList, ← hs]; exact h0)
        rw [this]; simp
      · have ha : sIx3 z.length 0 (l.map (·.1)) = 0 := by omega
        rw [ha, List.drop_zero]
        exact List.take_of_length_le (by rw [Array.length_toList, ← hs]; omega)
    rw [ez] at q
    exact ⟨.str z, H, I, ⟨t, rfl⟩, q⟩
  · rw [e]
    refine ⟨?_, .str _, H, I.tok _, ⟨_, rfl⟩, q⟩
    refine Nat.le_trans ?_ hz
    show (cut3 z.cps.toList (l.map (·.1)) (u.map (·.1))).toArray.size ≤ z.cps.size
    rw [List.size_toArray]
    unfold cut3
    rw [List.length_take, List.length_drop, Array.length_toList]
    omega
theorem q_sl : RL X slR := by
  refine ⟨_, (sl_tupA.or zg5).or xk6, fun x v lo hi H Q μ Q3 m rx h k => ?_⟩
  cases rx with
  | str z => exact .inr ⟨z, rfl, h.1, k _ _ _ _ h.2 (Kp.refl _) (.str _) m⟩
  | tup hq rs =>
    refine .inl <| .inl ⟨_, _, rfl, hq, fun e => ?_, fun p hp => k _ _ _ _ h (Kp.new hp) (.tup (SqT.of wf0) ((rs.cut lo hi).mono (Kp.new hp))) (m.newT hp)⟩
    refine k _ _ _ _ h (Kp.refl _) (.tup hq ?_) m
    have := rs.cut lo hi
    rw [e] at this
    exact this
  | fls hq rs => exact .inl <| .inr ⟨_, _, rfl, hq.l, fun p hp => k _ _ _ _ (h p (m.free hp)) (Kp.new hp) (.ref p) (m.newL hp (rs.cut lo hi))⟩
  | ref p =>
    dsimp only [slR] at h
    cases e : μ p with
    | none => rw [e] at h; exact h.elim
    | some oo =>
      cases oo with
      | ins _ _ => rw [e] at h; exact h.elim
      | dct _ => rw [e] at h; exact h.elim
      | lst l =>
        rw [e] at h
        obtain ⟨vs, hv, rs⟩ := m p l e
        exact .inl <| .inr ⟨p, vs, rfl, SqL.of hv, fun t ht => k _ _ _ _ (h t (m.free ht)) (Kp.new ht) (.ref t) (m.newL ht (rs.cut lo hi))⟩
  | _ => exact False.elim h
theorem xz0 {e : Expr} {te : TE3} {lo hi : Option Expr} {tl th : TO3} {pos p2 : Pos} {r3 : D → Option Int → Option Int → Mu → VK3 → Prop} (hr : RL X r3) (he : RE X e te) (hl : RP X lo tl) (hu : RP X hi th) : RE X (.Subscript e (.Slice lo hi none p2) pos) (sl3 r3 te tl th) := by
  obtain ⟨r, pr, rr⟩ := hr
  obtain ⟨va, pa, ra⟩ := he
  obtain ⟨vb, pb, rb⟩ := hl
  obtain ⟨vc, pc, rc⟩ := hu
  exact ⟨_, xi4 pr pa pb pc, fun σ H Q ρ μ Q3 s m h k => ra σ H _ ρ μ _ s m h fun x μ1 v H1 h1 k1 r1 m1 => rb σ H1 _ ρ μ1 _ (s.mono k1) m1 h1 fun l μ2 H2 h2 k2 m2 => rc σ H2 _ ρ μ2 _ ((s.mono k1).mono k2) m2 h2 fun u μ3 H3 h3 k3 m3 =>
    rr x v l u H3 Q μ3 Q3 m3 (r1.mono (k2.trans k3)) h3 (k.after (k1.trans (k2.trans k3)))⟩
theorem wz3 {K : Fg} {H : Hp} : ∀ {l : List D} {vs : List V} {bs : List Bool}, RelDs K H l vs → bls? l = some bs → vs = bs.map V.bl
  | _, _, bs, .nil, e => by simp [bls?] at e; subst e; rfl
  | _, _, bs, .cons h r, e => by
    cases h with
    | bl x =>
      simp only [bls?] at e
      split at e
      · next ys e1 =>
        simp only [Option.some.injEq] at e
        subst e
        rw [wz3 r e1]; rfl
      · cases e
    | _ => simp [bls?] at e
theorem wk2 : ∀ {bs : List Bool} {us : List Value}, Vals (bs.map V.bl) us → us = bs.map Value.bool
  | [], _, r => by cases r; rfl
  | b :: bs, _, r => by
    cases r with
    | cons r1 r2 => cases r1; rw [wk2 r2]; rfl
theorem yg3 (prog : Program) (w : World) (A : Around) (bs : List Bool) : TruthOf prog w A (fun i v => (bs.map Value.bool).toArray[i]? = some v) (fun i => bs.getD i false) := by
  intro i v s Q E hP hQ
  have hP' : (bs.map Value.bool)[i]? = some v := by simpa using hP
  rw [List.getElem?_map] at hP'
  cases e : bs[i]? with
  | none => rw [e] at hP'; cases hP'
  | some b =>
    rw [e] at hP'
    simp only [Option.map_some, Option.some.injEq] at hP'
    subst hP'
    refine wpAny_truthy_bool ?_
    have : bs.getD i false = b := by rw [List.getD_eq_getElem?_getD, e]; rfl
    dsimp only at hQ
    rw [this] at hQ
    exact hQ
theorem wm3 (bs : List Bool) : (List.range bs.length).any (fun i => bs.getD i false) = bs.any id := by
  rw [Bool.eq_iff_iff, List.any_eq_true, List.any_eq_true]
  constructor
  · rintro ⟨i, hi, h⟩
    have hi' := List.mem_range.mp hi
    rw [List.getD_eq_getElem?_getD, List.getElem?_eq_getElem hi'] at h
    exact ⟨_, List.getElem_mem hi', h⟩
  · rintro ⟨x, hx, h⟩
    obtain ⟨i, hi, rfl⟩ := List.mem_iff_getElem.mp hx
    refine ⟨i, List.mem_range.mpr hi, ?_⟩
    rw [List.getD_eq_getElem?_getD, List.getElem?_eq_getElem hi]
    exact h
theorem zz3 (hc : X.calm = true) : CallR X (.builtin "any") (fun xs H Q => ∃ (p : Addr) (bs : List Bool), xs = [.ref p] ∧ SqL X.K H p (bs.map V.bl) ∧ Q (.bl (bs.any id)) H) := by
  intro pins s σ H xs us Q I r h
  obtain ⟨p, bs, rfl, hq, q⟩ := h
  obtain ⟨u, rfl, rx⟩ := zf3 r
  cases rx
  obtain ⟨its, r', pl, hz⟩ := I.list hq
  have eu := wk2 r'
  subst eu
  refine call_any_walk (wpAny_pyIter_list pl.isList ?_)
  have hlt : p < s.heap.objs.size := by obtain ⟨o, ho, _⟩ := pl.isList; exact Heap.lt_size ho
  refine ⟨_, _, _, _, _, _, _, rfl, Walks.list (A := X.A.in1) (I.ok.hd hc) _ p (Nat.ne_of_lt hlt) _, ⟨⟨_, Heap.get?_push_size _ rfl, rfl, rfl⟩, pl.isList.at fun o e => Heap.get?_push_of_some _ e⟩, yg3 _ _ _ bs, fun h' tk hk => ?_⟩
  have e : (bs.map Value.bool).toArray.size = bs.length := by simp
  rw [e, wm3]
  refine ⟨.bl _, H, I.kept (t' := tk) fun b o eb => hk b o ?_ (Heap.get?_push_of_some _ eb), rfl, q⟩
  intro z
  rw [List.mem_singleton] at z
  rw [z] at eb
  exact absurd (Heap.lt_size eb) (Nat.lt_irrefl _)
theorem RdC.bools {K : Fg} {f : List Bool → Bool} {r3 : C3} (hr : ∀ ds μ Q3, r3 ds μ Q3 → ∃ p l bs, ds = [.ref p] ∧ μ p = some (.lst l) ∧ bls? l = some bs ∧ Q3 (.bl (f bs)) μ) :
    RdC K (fun xs H Q => ∃ (p : Addr) (bs : List Bool), xs = [.ref p] ∧ SqL K H p (bs.map V.bl) ∧ Q (.bl (f bs)) H) r3 := fun xs vs H Q μ Q3 m r h k => by
  obtain ⟨p, l, bs, rfl, e, e1, q⟩ := hr _ _ _ h
  cases r with
  | cons r1 r2 =>
    cases r2
    cases r1
    obtain ⟨us, hv, rs⟩ := m p l e
    have ev := wz3 rs e1
    subst ev
    exact ⟨p, bs, rfl, SqL.of hv, k _ _ _ _ q (Kp.refl _) (.bl _) m⟩
theorem ze8 (hc : X.calm = true := by rfl) : RC X (.builtin "any") anyR := by
  refine ⟨_, zz3 hc, RdC.bools fun ds μ Q3 h => ?_⟩
  unfold anyR at h
  split at h
  · split at h
    · next p _ l e =>
      split at h
      · next bs e1 => exact ⟨p, l, bs, rfl, e, e1, h⟩
      · exact h.elim
    · exact h.elim
  · exact h.elim
end
end Pv

namespace Pv
open PySem PySem.Spec PyProof.Rows L2
open PySem.AutoSeq1 (wpAny_loadPart')
section
variable {prog : Program} {w : World} {A : Around} {E : Value → Shared → Prop} {s : Shared}
end

section
variable {X : Cx} {tg a : Expr} {ta : TE3} {pos p : Pos}
end
end Pv

namespace Pv
open PySem PySem.Spec PyProof.Rows L2
open PySem.AutoSeq1 (wpAny_loadPart')
theorem wp5 (p q : Addr) (a b c d : Int) (t1 t2 t3 t4 : Tok) (n m : Nat) (dd dd2 : Option Addr) (sl sl2 : Array (Option Value)) :
    Meets (Builtin.«tuple.__lt__» ⟨[.ref p, .ref q], []⟩) (fun A R s => s.heap.get? p = some { cls := .type "tuple", dict := dd, data := .seq #[.int a t1, .int b t2] n, slots := sl } ∧ s.heap.get? q = some { cls := .type "tuple", dict := dd2, data := .seq #[.int c t3, .int d t4] m, slots := sl2 } ∧
      R (.ok (.ret (.bool (ltP a b c d)))) s) :=
  .of_wp fun prog w A R s h => by
    obtain ⟨hp, g, dr, tk, os⟩ := s; obtain ⟨hl, hb, h⟩ := h
    have f2 := AutoSeq1.sub_tuple_tuple
    have lt : ∀ (x y : Int) (tx ty : Tok) {Q : Value → Shared → Prop} {E : Value → Shared → Prop} {A : Around} {s : Shared}, Q (.bool (decide (x < y))) s → wpAny (model prog w) A (richCompare .Lt (.int x tx) (.int y ty)) Q E s := fun x y tx ty Q E A s hq => wpAny_lt_int hq
    have eqb : ∀ (x y : Int) (tx ty : Tok) {Q : Bool → Shared → Prop} {E : Value → Shared → Prop} {A : Around} {s : Shared}, Q (x == y) s → wpAny (model prog w) A (eqBool (.int x tx) (.int y ty)) Q E s := fun x y tx ty Q E A s hq => wpAny_eqBool_int hq
    wp_walk using wpAny_loadPart' hl, wpAny_loadPart' hb, eqb a c t1 t3
    by_cases h1 : a = c
    · rw [show (a == c) = true by simpa using h1]
      wp_walk using eqb b d t2 t4
      by_cases h2 : b = d
      · rw [show (b == d) = true by simpa using h2]
        wp_walk
        have h' : R (.ok (.ret (.bool false))) ⟨hp, g, dr, tk, os⟩ := by simpa [ltP, h1, h2] using h
        exact ⟨_, rfl, h'⟩
      · rw [show (b == d) = false by simpa using h2]
        wp_walk using lt b d t2 t4
        exact ⟨_, rfl, by simpa [ltP, h1] using h⟩
    · rw [show (a == c) = false by simpa using h1]
      wp_walk using lt a c t1 t3
      exact ⟨_, rfl, by simpa [ltP, h1] using h⟩
section
variable {prog : Program} {w : World} {A : Around} {R : Result → Shared → Prop} {I : Addr} {fp wr : List Addr} {n : Nat} {P : Nat → Value → Prop} {St : Nat → Heap → Prop}
theorem wm4 : (toString "min" ++ toString ".loop" : String) = "min.loop" := by decide
theorem ww4 (W : Walks prog w A.in1 I fp wr n P St) (S : Addr) (hSf : S ∉ fp) (s : Shared) (vb : Value) (c : Nat) (hst : St n s.heap)
    (hS : s.heap.get? S = some { cls := .type "list", dict := none, data := .seq #[vb, vb] c, slots := #[] })
    (hR : ∀ h' tk, (∀ b o, b ∉ wr → b ≠ S → s.heap.get? b = some o → h'.get? b = some o) → R (.ok (.ret vb)) { s with heap := h', toks := tk }) :
    codeAny (model prog w) A (.builtin "min.loop" ⟨[.ref I, .none, .ref S], []⟩) R s := by
  have hSw : S ∉ wr := fun h => hSf (W.sub _ h)
  refine codeAny_builtin F.entry_min_loop ?_
  rw [Around.under_plainId F.plain_min_loop _]
  show wpAny _ A.in1 (seqItems? (.ref S) >>= _) _ _ s
  refine wpAny_bind (wpAny_seqItems hS rfl ?_)
  show wpAny _ A.in1 (tryCatch (pyNext (.ref I)) _ >>= _) _ _ s
  refine wpAny_bind (wpAny_tryCatch (W.done s _ _ hst fun h' tk hk' => ?_))
  have hS' := hk' S _ hSw hS
  show wpAny _ A.in1 (updateSeq S (fun _ => #[]) >>= _) _ _ _
  refine wpAny_bind ?_
  refine wpAny_updateSeq hS' rfl (wpAny_bind (wpAny_letGo (wpAny_pure ?_)))
  exact hR _ tk fun b o hbw hbS e => (Heap.get?_update_other _ _ (Ne.symm hbS)).trans (hk' b o hbw e)
theorem zp5 (W : Walks prog w A.in1 I fp wr n P St) (S : Addr) (hSf : S ∉ fp) (s : Shared) (vb v0 : Value) (r : Bool) (c j : Nat) (hlt : j < n) (hj : j + 1 = n) (hst : St j s.heap) (hv : ∀ v, P j v → v = v0)
    (hcmp : ∀ (h' : Heap) (tk : Nat) (Q : Value → Shared → Prop) (E : Value → Shared → Prop), (∀ b o, b ∉ wr → s.heap.get? b = some o → h'.get? b = some o) → Q (.bool r) { s with heap := h', toks := tk } → wpAny (model prog w) A.in1 (richCompare .Lt v0 vb) Q E { s with heap := h', toks := tk })
    (hS : s.heap.get? S = some { cls := .type "list", dict := none, data := .seq #[vb, vb] c, slots := #[] })
    (hR : ∀ h' tk, (∀ b o, b ∉ wr → b ≠ S → s.heap.get? b = some o → h'.get? b = some o) → R (.ok (.ret (if r then v0 else vb))) { s with heap := h', toks := tk }) :
    codeAny (model prog w) A (.builtin "min.loop" ⟨[.ref I, .none, .ref S], []⟩) R s := by
  have hSw : S ∉ wr := fun h => hSf (W.sub _ h)
  refine codeAny_builtin F.entry_min_loop ?_
  rw [Around.under_plainId F.plain_min_loop _]
  show wpAny _ A.in1 (seqItems? (.ref S) >>= _) _ _ s
  refine wpAny_bind (wpAny_seqItems hS rfl ?_)
  show wpAny _ A.in1 (tryCatch (pyNext (.ref I)) _ >>= _) _ _ s
  refine wpAny_bind (wpAny_tryCatch (W.item j s _ _ hlt hst fun v h' tk hP hst' hk' => ?_))
  obtain rfl := hv v hP
  have hS' := hk' S _ hSw hS
  show wpAny _ A.in1 (tryCatch (holding [v, v] (richCompare .Lt v vb >>= _)) _ >>= _) _ _ _
  refine wpAny_bind (wpAny_tryCatch (wpAny_holding (wpAny_bind (hcmp h' tk _ _ hk' ?_))))
  refine wpAny_bind (wpAny_holding (wpAny_truthy_bool ?_))
  refine wpAny_bind (wpAny_letGo (wpAny_pure ?_))
  cases r with
  | true =>
    simp only [if_true]
    refine wpAny_bind ?_
    refine wpAny_updateSeq hS' rfl (wpAny_bind (wpAny_letGo ?_))
    rw [wm4]
    refine wpAny_pure ⟨plainId_quiet F.plain_min_loop _, ww4 W S hSf _ v _ (hj ▸ W.frame _ _ _ hst' fun b hbf o e => ?_) (Heap.get?_update_self _ hS' rfl) fun h'' tk'' hk'' => ?_⟩
    · exact (Heap.get?_update_other _ _ (fun h : S = b => hSf (by rw [h]; exact hbf))).trans e
    · exact hR h'' tk'' fun b o hbw hbS e => hk'' b o hbw hbS ((Heap.get?_update_other _ _ (Ne.symm hbS)).trans (hk' b o hbw e))
  | false =>
    simp only [Bool.false_eq_true, if_false]
    refine wpAny_bind (wpAny_letGo ?_)
    rw [wm4]
    refine wpAny_pure ⟨plainId_quiet F.plain_min_loop _, ww4 W S hSf _ vb c (hj ▸ hst') hS' fun h'' tk'' hk'' => ?_⟩
    exact hR h'' tk'' fun b o hbw hbS e => hk'' b o hbw hbS (hk' b o hbw e)
theorem yi7 (W : Walks prog w A.in1 I fp wr 2 P St) (S : Addr) (hSf : S ∉ fp) (s : Shared) (va vb : Value) (r : Bool) (c : Nat) (hst : St 0 s.heap) (hva : ∀ v, P 0 v → v = va) (hvb : ∀ v, P 1 v → v = vb)
    (hcmp : ∀ (h' : Heap) (tk : Nat) (Q : Value → Shared → Prop) (E : Value → Shared → Prop), (∀ b o, b ∉ wr → b ≠ S → s.heap.get? b = some o → h'.get? b = some o) → Q (.bool r) { s with heap := h', toks := tk } → wpAny (model prog w) A.in1 (richCompare .Lt vb va) Q E { s with heap := h', toks := tk })
    (hS : s.heap.get? S = some { cls := .type "list", dict := none, data := .seq #[] c, slots := #[] })
    (hR : ∀ h' tk, (∀ b o, b ∉ wr → b ≠ S → s.heap.get? b = some o → h'.get? b = some o) → R (.ok (.ret (if r then vb else va))) { s with heap := h', toks := tk }) :
    codeAny (model prog w) A (.builtin "min.loop" ⟨[.ref I, .none, .ref S], []⟩) R s := by
  have hSw : S ∉ wr := fun h => hSf (W.sub _ h)
  refine codeAny_builtin F.entry_min_loop ?_
  rw [Around.under_plainId F.plain_min_loop _]
  show wpAny _ A.in1 (seqItems? (.ref S) >>= _) _ _ s
  refine wpAny_bind (wpAny_seqItems hS rfl ?_)
  show wpAny _ A.in1 (tryCatch (pyNext (.ref I)) _ >>= _) _ _ s
  refine wpAny_bind (wpAny_tryCatch (W.item 0 s _ _ (by decide) hst fun v h' tk hP hst' hk' => ?_))
  obtain rfl := hva v hP
  have hS' := hk' S _ hSw hS
  show wpAny _ A.in1 (updateSeq S (fun _ => #[v, v]) >>= _) _ _ _
  refine wpAny_bind ?_
  refine wpAny_updateSeq hS' rfl ?_
  rw [wm4]
  have up : ∀ (f : Obj → Obj) b o, b ∉ wr → b ≠ S → s.heap.get? b = some o → Heap.get? (h'.update S f) b = some o := fun f b o hbw hbS e => (Heap.get?_update_other _ _ (Ne.symm hbS)).trans (hk' b o hbw e)
  refine wpAny_pure ⟨plainId_quiet F.plain_min_loop _, zp5 W S hSf _ v vb r _ 1 (by decide) rfl (W.frame _ _ _ hst' fun b hbf o e => ?_) hvb (fun h2 tk2 Q E hk2 hq => ?_) (Heap.get?_update_self _ hS' rfl) fun h'' tk'' hk'' => ?_⟩
  · exact (Heap.get?_update_other _ _ (fun h : S = b => hSf (by rw [h]; exact hbf))).trans e
  · exact hcmp h2 tk2 Q E (fun b o hbw hbS e => hk2 b o hbw (up _ b o hbw hbS e)) hq
  · exact hR h'' tk'' fun b o hbw hbS e => hk'' b o hbw hbS (up _ b o hbw hbS e)
end
section
variable {prog : Program} {w : World} {A : Around} {E : Value → Shared → Prop} {s : Shared}
theorem zc3 {va vb : Value} {r : Bool} {Q : Value → Shared → Prop} (hh : A.handled = none)
    (hcmp : ∀ (h' : Heap) (tk : Nat) (Q : Value → Shared → Prop) (E : Value → Shared → Prop), (∀ b o, s.heap.get? b = some o → h'.get? b = some o) → Q (.bool r) { s with heap := h', toks := tk } → wpAny (model prog w) A.in1 (richCompare .Lt vb va) Q E { s with heap := h', toks := tk })
    (h : ∀ h' tk, (∀ c o, s.heap.get? c = some o → h'.get? c = some o) → Q (if r then vb else va) { s with heap := h', toks := tk }) :
    wpAny (model prog w) A (call (.builtin "min") [va, vb]) Q E s := by
  refine call_function_tree F.kind_min F.plain_min F.entry_min (F.args_min2 _ _) ?_
  show wpAny _ A.in1 (Builtin.Builtins.bindParams "min" ["key", "default"] 0 ⟨[], []⟩ >>= _) _ _ s
  refine wpAny_bind (wpAny_of_eq (show Builtin.Builtins.bindParams "min" ["key", "default"] 0 ⟨[], []⟩ = pure [none, none] from rfl) ?_)
  show wpAny _ A.in1 (newTuple [va, vb] >>= _) _ _ s
  refine wpAny_bind (wpAny_newObj_type ?_)
  have hT : (s.heap.push { cls := .type "tuple", data := .seq #[va, vb] }).IsTuple s.heap.objs.size #[va, vb] := ⟨_, Heap.get?_push_size _ rfl, rfl, 0, rfl⟩
  refine wpAny_bind (wpAny_pyIter_tuple (s := { s with heap := s.heap.push { cls := .type "tuple", data := .seq #[va, vb] } }) hT ?_)
  have hsz : (s.heap.push { cls := .type "tuple", data := .seq #[va, vb] }).objs.size = s.heap.objs.size + 1 := Heap.size_push ..
  refine wpAny_bind (wpAny_newObj_type ?_)
  rw [wm4]
  have hsz2 : ((s.heap.push { cls := .type "tuple", data := .seq #[va, vb] }).push { cls := .type "tuple_iterator", data := .fields #[.ref s.heap.objs.size, .int 0 0] }).objs.size = s.heap.objs.size + 2 := by rw [Heap.size_push, hsz]
  have keep : ∀ c o, s.heap.get? c = some o → Heap.get? (((s.heap.push { cls := .type "tuple", data := .seq #[va, vb] }).push { cls := .type "tuple_iterator", data := .fields #[.ref s.heap.objs.size, .int 0 0] }).push { cls := .type "list", data := .seq #[] }) c = some o := fun c o e => Heap.get?_push_of_some _ (Heap.get?_push_of_some _ (Heap.get?_push_of_some _ e))
  have off : ∀ (c : Addr) (o : Obj), s.heap.get? c = some o → c ∉ [(s.heap.push { cls := .type "tuple", data := .seq #[va, vb] }).objs.size] ∧ c ≠ ((s.heap.push { cls := .type "tuple", data := .seq #[va, vb] }).push { cls := .type "tuple_iterator", data := .fields #[.ref s.heap.objs.size, .int 0 0] }).objs.size := fun c o e => by
    have h1 := Heap.lt_size e
    rw [hsz2, hsz]
    refine ⟨fun hm => ?_, Nat.ne_of_lt (Nat.lt_succ_of_lt (Nat.lt_succ_of_lt h1))⟩
    rw [List.mem_singleton.mp hm] at h1
    exact absurd h1 (Nat.not_lt.mpr (Nat.le_succ _))
  refine wpAny_pure ⟨plainId_quiet F.plain_min_loop _, yi7 (Walks.tuple (A := A.in1) hh _ s.heap.objs.size (by rw [hsz]; exact Nat.ne_of_lt (Nat.lt_succ_self _)) #[va, vb]) _ ?_ _ va vb r _ ?_ (fun v hP => by simpa using hP.symm) (fun v hP => by simpa using hP.symm) ?_ (Heap.get?_push_size _ rfl) ?_⟩
  · rw [hsz2, hsz]
    simp
  · exact ⟨⟨_, Heap.get?_push_of_some _ (Heap.get?_push_size _ rfl), rfl, rfl⟩, (hT.push _).push _⟩
  · intro h' tk Q E hk hq
    exact hcmp h' tk Q E (fun c o e => hk c o (off c o e).1 (off c o e).2 (keep c o e)) hq
  · intro h' tk hk
    exact h h' tk fun c o e => hk c o (off c o e).1 (off c o e).2 (keep c o e)
theorem zj4 {p q : Addr} {a b c d : Int} {t1 t2 t3 t4 : Tok} {Q : Value → Shared → Prop} (hh : A.handled = none) (hu : A.units + 64 < cLine) (hp : IsTup s.heap p #[.int a t1, .int b t2]) (hq : IsTup s.heap q #[.int c t3, .int d t4])
    (h : ∀ h' tk, (∀ c o, s.heap.get? c = some o → h'.get? c = some o) → Q (if ltP c d a b then .ref q else .ref p) { s with heap := h', toks := tk }) :
    wpAny (model prog w) A (call (.builtin "min") [.ref p, .ref q]) Q E s := by
  refine zc3 hh (fun h' tk Q E hk hq' => ?_) h
  obtain ⟨⟨cp, dp, datp, slp⟩, ep, hcp, np, hdp⟩ := hp
  obtain ⟨⟨cq, dq, datq, slq⟩, eq, hcq, nq, hdq⟩ := hq
  dsimp only at hcp hdp hcq hdq
  subst hcp hdp hcq hdq
  refine richCompare_meets_room (T := "tuple") (s := { s with heap := h', toks := tk }) ⟨_, hk _ _ eq, rfl⟩ ⟨_, hk _ _ ep, rfl⟩ F.slot_tuple_lt F.entry_tuple_lt (F.args_tuple_lt_2 _ _) (wp5 q p c d a b t3 t4 t1 t2 nq np dq dp slq slp) ⟨hk _ _ eq, hk _ _ ep, by simp, hq'⟩ ?_
  have : A.in1.units = A.units + 1 := rfl
  omega
end
section
variable {X : Cx}
theorem yz3 (hc : X.calm = true) (hu : X.A.units + 64 < cLine) : CallR X (.builtin "min") (fun xs H Q => ∃ p q a b c d, xs = [.ref p, .ref q] ∧ SqT X.K H p [.int a, .int b] ∧ SqT X.K H q [.int c, .int d] ∧ Q (.ref (if ltP c d a b then q else p)) H) := by
  intro pins s σ H xs us Q I r h
  obtain ⟨p, q, a, b, c, d, rfl, hp, hq, k⟩ := h
  obtain ⟨u, w', rfl, e1, e2⟩ := wc4 r
  cases e1
  cases e2
  obtain ⟨its, rv, pp, hz⟩ := I.tuple hp
  obtain ⟨its2, rv2, pp2, hz2⟩ := I.tuple hq
  obtain ⟨v1, v2, rfl, ⟨t1, rfl⟩, ⟨t2, rfl⟩⟩ := wc4 rv
  obtain ⟨v3, v4, rfl, ⟨t3, rfl⟩, ⟨t4, rfl⟩⟩ := wc4 rv2
  refine zj4 (I.ok.hd hc) hu pp pp2 fun h' tk kk => ⟨_, H, I.kept kk, ?_, k⟩
  cases ltP c d a b
  · exact rfl
  · exact rfl
theorem ye8 (hc : X.calm = true) (hu : X.A.units + 64 < cLine) : RC X (.builtin "min") minR := by
  refine ⟨_, yz3 hc hu, fun xs vs H Q μ Q3 m r h k => ?_⟩
  unfold minR at h
  split at h
  · next a b c d =>
    cases r with
    | cons r1 r2 =>
      cases r2 with
      | cons r2 r3 =>
        cases r3
        cases r1 with
        | tup hq rs =>
          cases r2 with
          | tup hq2 rs2 =>
            cases rs with
            | cons x1 y1 =>
              cases y1 with
              | cons x2 y2 =>
                cases y2
                cases x1
                cases x2
                cases rs2 with
                | cons x3 y3 =>
                  cases y3 with
                  | cons x4 y4 =>
                    cases y4
                    cases x3
                    cases x4
                    rename_i p q
                    refine ⟨p, q, a, b, c, d, rfl, hq, hq2, k _ _ _ _ h (Kp.refl _) ?_ m⟩
                    cases ltP c d a b
                    · exact .tup hq (.cons (.int _) (.cons (.int _) .nil))
                    · exact .tup hq2 (.cons (.int _) (.cons (.int _) .nil))
  · exact h.elim
end
end Pv

namespace Pv
open PySem PySem.Spec PyProof.Rows L2
noncomputable def xx0 (cells : List (Str × Addr)) : List (Str × NameKind) → List (Str × Addr) → List (Str × Addr)
  | [], acc => acc
  | (n, k) :: r, acc => if k == .free then xx0 cells r ((n, (cells.lookup n).getD 0) :: acc) else xx0 cells r acc
theorem xt1 {scope : Scope} {env : Env} (h : ∀ y ∈ scope.names, y.2 = .free → (env.cells.lookup y.1).isSome = true) : closureFor scope env = pure (xx0 env.cells scope.names []) := by
  unfold closureFor
  have key : ∀ (l : List (Str × NameKind)) (acc : List (Str × Addr)), (∀ y ∈ l, y.2 = .free → (env.cells.lookup y.1).isSome = true) →
      (forIn l acc (fun x r => if (x.2 == NameKind.free) = true then do let c ← cellOf env x.1; pure (ForInStep.yield ((x.1, c) :: r)) else pure (ForInStep.yield r)) : Sem (List (Str × Addr))) = pure (xx0 env.cells l acc) := by
    intro l
    induction l with
    | nil => intro acc _; rfl
    | cons y r ih =>
      intro acc hl
      obtain ⟨n, k⟩ := y
      rw [List.forIn_cons]
      have ih' := fun a => ih a fun z hz => hl z (List.mem_cons_of_mem _ hz)
      by_cases hk : k = .free
      · subst hk
        have hs := hl (n, .free) (List.mem_cons_self ..) rfl
        obtain ⟨c, hc⟩ := Option.isSome_iff_exists.mp hs
        have ec : cellOf env n = pure c := by unfold cellOf; rw [hc]
        simp only [xx0, ec, pure_bind, beq_self_eq_true, if_true, hc, Option.getD_some]
        exact ih' _
      · have hk' : (k == NameKind.free) = false := by simpa using hk
        simp only [xx0, hk', Bool.false_eq_true, if_false, pure_bind]
        exact ih' _
  have := key scope.names [] h
  refine Eq.trans ?_ this
  refine Eq.trans (bind_pure (forIn scope.names ([] : List (Str × Addr)) _ : Sem (List (Str × Addr)))) ?_
  congr 1
theorem zf1 {cells : List (Str × Addr)} {x : Str} {c : Addr} : ∀ (l : List (Str × NameKind)) (acc : List (Str × Addr)), (∀ y ∈ l, y.2 = .free → (cells.lookup y.1).isSome = true) → (acc.lookup x = some c → cells.lookup x = some c) →
    (xx0 cells l acc).lookup x = some c → cells.lookup x = some c
  | [], acc, _, ha, h => ha h
  | (n, k) :: r, acc, hl, ha, h => by
    unfold xx0 at h
    split at h
    · next hk =>
      refine zf1 r _ (fun z hz => hl z (List.mem_cons_of_mem _ hz)) (fun h2 => ?_) h
      rw [List.lookup_cons] at h2
      split at h2
      · next e =>
        have e' : x = n := eq_of_beq e
        subst e'
        obtain ⟨c', hc⟩ := Option.isSome_iff_exists.mp (hl (x, k) (List.mem_cons_self ..) (eq_of_beq hk))
        rw [hc] at h2
        simp only [Option.getD_some, Option.some.injEq] at h2
        rw [hc, h2]
      · exact ha h2
    · exact zf1 r acc (fun z hz => hl z (List.mem_cons_of_mem _ hz)) ha h
theorem wf1 {cells : List (Str × Addr)} {x : Str} : ∀ (l : List (Str × NameKind)) (acc : List (Str × Addr)), ((∃ c, acc.lookup x = some c) ∨ (x, NameKind.free) ∈ l) → ∃ c, (xx0 cells l acc).lookup x = some c
  | [], acc, h => by
    rcases h with h | h
    · exact h
    · cases h
  | (n, k) :: r, acc, h => by
    unfold xx0
    split
    · next hk =>
      refine wf1 r _ ?_
      by_cases e : x = n
      · subst e
        left
        exact ⟨(cells.lookup x).getD 0, by rw [List.lookup_cons]; simp⟩
      · rcases h with ⟨c, h⟩ | h
        · left
          refine ⟨c, ?_⟩
          rw [List.lookup_cons]
          have : (x == n) = false := by simpa using e
          rw [this]; exact h
        · right
          rcases List.mem_cons.mp h with h | h
          · exact absurd (congrArg Prod.fst h) e
          · exact h
    · next hk =>
      refine wf1 r acc ?_
      rcases h with h | h
      · exact .inl h
      · rcases List.mem_cons.mp h with h | h
        · cases h; exact absurd rfl hk
        · exact .inr h
theorem CompSc.free {X : Cx} {NN : List Str} {scope : Scope} {js : List (Option Nat)} (hcell : ∀ y ∈ scope.names, y.2 ≠ .cell) (hk : scope.kind = .function) (hfn : X.env.scope.kind = .function)
    (hn : ∀ y ∈ scope.names, y.2 = .local → scope.names.lookup y.1 = some .local) (hfree : ∀ y ∈ scope.names, y.2 = .free → X.env.scope.names.lookup y.1 = some .cell) (hlook : ∀ y ∈ scope.names, y.2 = .free → scope.names.lookup y.1 = some .free)
    (hcl : ∀ x, X.env.scope.names.lookup x = some .cell → (X.env.cells.lookup x).isSome = true) (len : js.length = NN.length)
    (hout : ∀ i ∈ List.range js.length, ∀ j, js.getD i none = some j → ∃ x, NN[i]? = some x ∧ X.N[j]? = some x ∧ scope.names.lookup x = some .free) :
    CompSc X NN scope (xx0 X.env.cells scope.names []) js where
  clos := xt1 fun y hy e => hcl _ (hfree y hy e)
  cell := hcell
  kind := hk
  names := hn
  sub := fun x c h => zf1 scope.names [] (fun y hy e => hcl _ (hfree y hy e)) (fun h => by simp at h) h
  has := fun x h => by
    refine wf1 scope.names [] (.inr ?_)
    have hm : ∃ k, (x, k) ∈ scope.names ∧ (k = .free ∨ k = .cell) := by
      have key : ∀ kk, (relabel scope X.env).names.lookup x = some kk → (kk = .cell ∨ kk = .free) → ∃ k, (x, k) ∈ scope.names ∧ (k = .free ∨ k = .cell) := fun kk hkk hc => by
        have hmem := wm0 hkk
        obtain ⟨⟨n, k⟩, hy, e⟩ := List.mem_map.mp hmem
        dsimp only at e
        split at e
        · next hq =>
          cases e
          simp only [Bool.and_eq_true] at hq
          exact ⟨k, hy, .inl (by simpa using hq.1.1)⟩
        · cases e
          exact ⟨kk, hy, hc.symm⟩
      rcases h with h | h
      · exact key _ h (.inl rfl)
      · exact key _ h (.inr rfl)
    obtain ⟨k, hk1, hk2⟩ := hm
    rcases hk2 with rfl | rfl
    · exact hk1
    · exact absurd rfl (hcell _ hk1)
  len := len
  out := fun i j h => by
    have hi : i < js.length := by
      rcases Nat.lt_or_ge i js.length with z | z
      · exact z
      · rw [List.getElem?_eq_none z] at h; cases h
    obtain ⟨x, e1, e2, e3⟩ := hout i (List.mem_range.mpr hi) j (by rw [List.getD_eq_getElem?_getD, h]; rfl)
    have hf := hfree (x, .free) (wm0 e3) rfl
    refine ⟨x, e1, e2, .inr (.inl hf), by rw [hf]; simp, ?_⟩
    left
    have key : ∀ (l : List (Str × NameKind)), l.lookup x = some .free → (l.map fun (n, k) => if (k == NameKind.free && X.env.scope.kind == .function && X.env.kindOf n == some .cell) then (n, NameKind.cell) else (n, k)).lookup x = some .cell := fun l => by
      induction l with
      | nil => intro h; simp at h
      | cons y r ih =>
        obtain ⟨n, k⟩ := y
        intro h
        rw [List.lookup_cons] at h
        rw [List.map_cons, List.lookup_cons]
        by_cases e : x = n
        · subst e
          simp only [beq_self_eq_true, Option.some.injEq] at h
          subst h
          have hkind : (X.env.kindOf x == some NameKind.cell) = true := by
            show (X.env.scope.names.lookup x == some NameKind.cell) = true
            rw [hf]; rfl
          simp [hfn, hkind]
        · have e' : (x == n) = false := by simpa using e
          rw [e'] at h
          have ih' := ih h
          by_cases hq : (k == NameKind.free && X.env.scope.kind == ScopeKind.function && X.env.kindOf n == some NameKind.cell) = true
          · simp only [hq, if_true, e']; exact ih'
          · simp only [hq, Bool.false_eq_true, if_false, e']; exact ih'
    exact key _ e3
theorem yu5 {CX : CXT} {P : Program} {w : World} {K : Fg} {mg : Str → Option Value} {base : Heap} {N : List Str} {qual : Str} {sc : Scope} {f : Addr} {cdv : Value} {A : Around} {outer : List Env} {s : Shared} {H : Hp} {E : XK} {NN : List Str} {scope : Scope} {js : List (Option Nat)}
    (hcell : ∀ y ∈ scope.names, y.2 ≠ .cell := by decide +kernel) (hk : scope.kind = .function := by rfl) (hfn : sc.kind = .function := by rfl)
    (hn : ∀ y ∈ scope.names, y.2 = .local → scope.names.lookup y.1 = some .local := by decide +kernel) (hfree : ∀ y ∈ scope.names, y.2 = .free → sc.names.lookup y.1 = some .cell := by decide +kernel)
    (hlook : ∀ y ∈ scope.names, y.2 = .free → scope.names.lookup y.1 = some .free := by decide +kernel) (len : js.length = NN.length := by rfl)
    (hout : ∀ i ∈ List.range js.length, ∀ j ∈ (js.getD i none).toList, ∃ x ∈ NN[i]?.toList, N[j]? = some x ∧ scope.names.lookup x = some .free := by decide +kernel) :
    CompSc (cxOf CX P w K mg base N qual sc f cdv A outer s H E).nox NN scope (xx0 (cxOf CX P w K mg base N qual sc f cdv A outer s H E).nox.env.cells scope.names []) js :=
  CompSc.free (X := (cxOf CX P w K mg base N qual sc f cdv A outer s H E).nox) hcell hk hfn hn hfree hlook (fun x h => by
    obtain ⟨c, hc⟩ := yz0 (n := _) h
    exact Option.isSome_iff_exists.mpr ⟨c, hc⟩) len fun i hi j hj => by
      obtain ⟨x, h1, h2, h3⟩ := hout i hi j (by rw [hj]; simp)
      exact ⟨x, by simpa using h1, h2, h3⟩
end Pv

namespace Pv
open PySem
noncomputable def isN : D → Bool
  | .non => true
  | _ => false
noncomputable def isNR (neg : Bool) : R3 := fun x y μ Q => match y with
  | .non => Q (.bl (if neg then !isN x else isN x)) μ
  | _ => False
end Pv

namespace Pv
open PySem PySem.Spec PyProof.Rows L2
section
variable {X : Cx}
theorem zi8 {K : Fg} {H : Hp} {x : D} {v : V} (r : RelD K H x v) : decide (v = .non) = isN x := by
  cases r <;> simp [isN]
theorem zq2 : RO X (compareOp .IsNot) (isNR true) := by
  refine ⟨_, zo5, fun x y v u H Q μ Q3 m rx ry h k => ?_⟩
  cases ry with
  | non =>
    refine ⟨rfl, ?_⟩
    rw [zi8 rx]
    exact k _ _ _ _ h (Kp.refl _) (.bl _) m
  | _ => exact False.elim h
end
end Pv

namespace Pv
open PySem
noncomputable abbrev XE3 := Str → Mu → Prop
noncomputable def yq2 (XE : XE3) (x : Str) (t : TA3) : TS3 := fun _ ρ μ => t ρ μ fun ds μ1 => ds.length ≤ sizeLine ∧ XE x μ1
noncomputable def isx3 (t : TE3) (sub : Str → Option Bool) : TE3 := fun ρ μ Q => t ρ μ fun d μ1 => match d with
  | .exc c => match sub c with
    | some b => Q (.bl b) μ1
    | _ => False
  | _ => False
noncomputable def try3 (i : Nat) (spx : XE3 → Sp3) (st : D → St3 → St3) (ok : Str → Bool) (ta : TA3) (ts : TS3) : TS3 := fun D' ρ μ => ta ρ μ fun ds μ1 =>
  spx (fun c μ2 => ok c = true ∧ ts { nx := fun ρ' μ' => D'.nx (ρ'.set i none) μ', rt := fun _ _ => False } (ρ.set i (some (.exc c))) μ2) ds μ1 (fun d μ2 => D'.nx (st d ρ) μ2)
noncomputable def NX : XE3 := fun _ _ => False
noncomputable def wy4 : D → St3 → St3 := fun _ ρ => ρ
end Pv

namespace Pv
open PySem PySem.Spec PyProof.Rows L2
section
variable {X : Cx}
theorem RC.or {f : Value} {R1 R2 : C3} (h1 : RC X f R1) (h2 : RC X f R2) : RC X f (fun ds μ Q => R1 ds μ Q ∨ R2 ds μ Q) := by
  obtain ⟨c1, p1, r1⟩ := h1
  obtain ⟨c2, p2, r2⟩ := h2
  exact ⟨fun xs H Q => c1 xs H Q ∨ c2 xs H Q, fun pins s σ H xs us Q I r h => h.elim (p1 pins s σ H xs us Q I r) (p2 pins s σ H xs us Q I r),
    fun xs vs H Q μ Q3 m r h k => h.elim (fun h => .inl (r1 xs vs H Q μ Q3 m r h k)) fun h => .inr (r2 xs vs H Q μ Q3 m r h k)⟩
end
section
variable {X : Cx} {e : Expr} {te : TE3} {p p2 pos pos2 : Pos}
end
end Pv

namespace Pv
open PySem PySem.Spec PyProof.Rows L2
section
variable {prog : Program} {w : World} {A : Around} {E : Value → Shared → Prop} {s : Shared} {R : Result → Shared → Prop} {I l : Addr} {items : Array Value}
end
section
variable {X : Cx} {e : Expr} {te : TE3} {p p2 pos pos2 : Pos}
variable {o : Expr} {es : List Expr} {to : TE3} {t : TA3} {apos cpos : Pos}
end
end Pv

namespace Pv
open PySem PySem.Spec PyProof.Rows L2
noncomputable def CXn (P : Program) (w : World) : CXT := fun outer H s E e s' => ∃ (ea : Addr) (cls a0 : Value) (H' : Hp) (B : Heap), e = .ref ea ∧ s'.os = s.os ∧ AllBare s'.gens ∧ Un (frs outer) [] H H' s.heap s'.heap ∧ HOk P w H' s'.heap ∧
  Heap.FlyingW B outer ea cls a0 s'.heap ∧ H' ea = none ∧ (∀ b o, s'.heap.get? b = some o → b ∉ frs outer → (∃ o', s.heap.get? b = some o') → B.get? b = some o) ∧ (∀ b, H' b ≠ none → ∃ o, s'.heap.get? b = some o ∧ B.get? b = some o) ∧ E cls none H'
theorem wi4 {P : Program} {w : World} {K : Fg} {mg : Str → Option Value} {base : Heap} {N : List Str} {qual : Str} {scope : Scope} {f : Addr} {cd : Value} {A : Around} {outer : List Env} {s0 : Shared} {H0 : Hp} {E : XK} :
    wd2 (CXn P w) (cxOf (CXn P w) P w K mg base N qual scope f cd A outer s0 H0 E) E := by
  intro pins σ H s e s' I h
  obtain ⟨ea, cls, a0, H', B, rfl, os, bare, u2, hok, fl, hea, cov1, cov2, hE⟩ := h
  have u1 : Un (frs outer) [] H0 H s0.heap s.heap := I.base
  have habove : s0.heap.objs.size ≤ (envOfC qual scope s0.heap.objs.size f cd).locals := I.ok.above
  have hloc : ∀ {b : Addr} {o : Obj}, s0.heap.get? b = some o → b ≠ (envOfC qual scope s0.heap.objs.size f cd).locals := fun {b o} q z => by
    have := Heap.lt_size q
    rw [z] at this
    exact absurd this (Nat.not_lt.mpr habove)
  have hfs : frs ((envOfC qual scope s0.heap.objs.size f cd) :: outer) = (envOfC qual scope s0.heap.objs.size f cd).locals :: frs outer := rfl
  have hfn : ∀ {b : Addr} {o : Obj}, s0.heap.get? b = some o → b ∉ frs outer → b ∉ frs ((envOfC qual scope s0.heap.objs.size f cd) :: outer) := fun {b o} q z hm => by
    rw [hfs] at hm
    rcases List.mem_cons.mp hm with hm | hm
    · exact hloc q hm
    · exact z hm
  show wpAny (model P w) (A.deeper (envOfC qual scope s0.heap.objs.size f cd)) (leaving (envOfC qual scope s0.heap.objs.size f cd) (.ref ea)) _ _ s'
  refine wpAny_leaves_onW I.ok.frames rfl fl fun h' fl' up => ?_
  -- an object of s0 that is no frame
  have far : ∀ b o, s0.heap.get? b = some o → b ∉ frs outer → ∃ o', s'.heap.get? b = some o' ∧ B.get? b = some o' ∧ h'.get? b = some o' := fun b o q hb => by
    obtain ⟨o1, e1⟩ := u1.there b o q (by simp)
    obtain ⟨o2, e2⟩ := u2.there b o1 e1 (by simp)
    have e3 := cov1 b o2 e2 (hfn q hb) ⟨o1, e1⟩
    exact ⟨o2, e2, e3, fl'.1 b o2 e3⟩
  have frm : ∀ b o, s'.heap.get? b = some o → b ∈ frs outer → ∃ sl, h'.get? b = some { o with slots := sl } := fun b o q hb => by
    have hm : b ∈ ((envOfC qual scope s0.heap.objs.size f cd) :: outer).filterMap (·.frame) := by
      show b ∈ frs _
      rw [hfs]; exact List.mem_cons_of_mem _ hb
    obtain ⟨_, o', ho, hnf⟩ := fl.2.2.1.mem hm
    rw [q] at ho; cases ho
    exact up b o q hnf
  refine ⟨ea, cls, a0, H', B, rfl, os.trans I.os, bare, ?_, ?_, fl', hea, ?_, ?_, hE⟩
  · refine ⟨fun b o q n hb _ => ?_, fun b o q n hb _ => ?_, fun b o q n _ => ?_, fun b o q _ => ?_, fun b xs q => u2.tups b xs (u1.tups b xs q), fun b o u q => u2.frzs b o u (u1.frzs b o u q), fun b ps q => ?_⟩
    · have e1 := u1.keep b o q n hb (by simp)
      have e2 := u2.keep b o e1 (u1.free b o q n (by simp)) (hfn q hb) (by simp)
      obtain ⟨o', e3, _, e5⟩ := far b o q hb
      rw [e2] at e3; cases e3
      exact e5
    · obtain ⟨sl, e1⟩ := u1.slot b o q n hb (by simp)
      obtain ⟨sl2, e2⟩ := u2.slot b _ e1 (u1.free b o q n (by simp)) (by show b ∈ frs ((envOfC qual scope s0.heap.objs.size f cd) :: outer); rw [hfs]; exact List.mem_cons_of_mem _ hb) (by simp)
      obtain ⟨sl3, e3⟩ := frm b _ e2 hb
      exact ⟨sl3, e3⟩
    · obtain ⟨o1, e1⟩ := u1.there b o q (by simp)
      exact u2.free b o1 e1 (u1.free b o q n (by simp)) (by simp)
    · by_cases hb : b ∈ frs outer
      · obtain ⟨o1, e1⟩ := u1.there b o q (by simp)
        obtain ⟨o2, e2⟩ := u2.there b o1 e1 (by simp)
        obtain ⟨sl, e3⟩ := frm b o2 e2 hb
        exact ⟨_, e3⟩
      · obtain ⟨o', _, _, e5⟩ := far b o q hb
        exact ⟨o', e5⟩
    · obtain ⟨m1, e1⟩ := u1.tbls b ps q
      obtain ⟨m2, e2⟩ := u2.tbls b _ e1
      exact ⟨m1 ++ m2, by rw [e2, Array.append_assoc]⟩
  · refine fun a o e => (hok a o e).stay (fun b u hb q => ?_) (fun _ h => h) (fun _ _ h => h)
    have hne : H' b ≠ none := by
      rcases hb with rfl | hb
      · rw [e]; simp
      · rw [hb]; simp
    obtain ⟨o', e1, e2⟩ := cov2 b hne
    rw [q] at e1; cases e1
    exact fl'.1 b _ e2
  · intro b o q hb ⟨o', q'⟩
    obtain ⟨o2, _, e4, e5⟩ := far b o' q' hb
    have q2 : h'.get? b = some o := q
    rw [e5] at q2; cases q2
    exact e4
  · intro b hb
    obtain ⟨o, e1, e2⟩ := cov2 b hb
    exact ⟨o, fl'.1 b o e2, e2⟩
theorem zc1 {P : Program} {w : World} {H : Hp} {h : Heap} {a : Addr} {o : HO} (x : ObjOk P w H h a o) : ∃ ob, h.get? a = some ob := by
  induction o with
  | lst xs => obtain ⟨z, its, n, r, e⟩ := x; exact ⟨_, e⟩
  | tup xs => obtain ⟨z, its, r, ob, e, c⟩ := x; exact ⟨_, e⟩
  | dK kvs => obtain ⟨z, y, vs, r, ob, es, ep, e, c⟩ := x; exact ⟨_, e⟩
  | dT kvs => obtain ⟨z, y, xs, r, ob, es, ep, e, c⟩ := x; exact ⟨_, e⟩
  | set S n => obtain ⟨ob, es, ep, t, e, c⟩ := x; exact ⟨_, e⟩
  | ins C dx fs => obtain ⟨d, z, ne, e, mA, _, r⟩ := x; exact ⟨_, e⟩
  | own y => obtain ⟨ob, e⟩ := x; exact ⟨_, e⟩
  | xd fs => obtain ⟨mA, ⟨od, es, ep, e, c⟩, r⟩ := x; exact ⟨_, e⟩
  | rng lo hi => obtain ⟨t, u, v, e⟩ := x; exact ⟨_, e⟩
  | frz ob u ih => obtain ⟨e, q⟩ := x; exact ⟨_, e⟩
  | tbl ps => exact ⟨_, x⟩
  | met f y => exact ⟨_, x⟩
  | ext φ => obtain ⟨p, ⟨o, e⟩, st⟩ := x; exact ⟨_, e⟩
section
variable {P : Program} {w : World} {K : Fg} {mg : Str → Option Value} {base : Heap} {N : List Str} {qual : Str} {scope : Scope} {f : Addr} {cd : Value} {A : Around} {outer : List Env} {s0 : Shared} {H0 : Hp} {E : XK}
theorem wa7 {pins : List (Addr × Obj)} {σ : L2.St} {H : Hp} {s : Shared} {h1 : Heap} {e : Addr} {cls : Value} {us : List Value} (I : L2.Inv (cxOf (CXn P w) P w K mg base N qual scope f cd A outer s0 H0 E) pins σ H s) (hx : Heap.MadeExcOf s.heap h1 e cls us) (hE : E cls none H) :
    (cxOf (CXn P w) P w K mg base N qual scope f cd A outer s0 H0 E).xe (.ref e) { s with heap := h1 } := by
  have u1 : Un (frs outer) [] H0 H s0.heap s.heap := I.base
  have e0 := I.env0
  have habove : s0.heap.objs.size ≤ (envOfC qual scope s0.heap.objs.size f cd).locals := I.ok.above
  have hfs : frs ((envOfC qual scope s0.heap.objs.size f cd) :: outer) = (envOfC qual scope s0.heap.objs.size f cd).locals :: frs outer := rfl
  have hfn : ∀ {b : Addr} {o : Obj}, s0.heap.get? b = some o → b ∉ frs outer → b ∉ frs ((envOfC qual scope s0.heap.objs.size f cd) :: outer) := fun {b o} q z hm => by
    rw [hfs] at hm
    rcases List.mem_cons.mp hm with hm | hm
    · have := Heap.lt_size q
      rw [hm] at this
      exact absurd this (Nat.not_lt.mpr habove)
    · exact z hm
  have hin : ∀ env ∈ ((envOfC qual scope s0.heap.objs.size f cd) :: outer), ∀ b, env.frame = some b → b ∈ frs ((envOfC qual scope s0.heap.objs.size f cd) :: outer) := fun env he b hb => List.mem_filterMap.mpr ⟨env, he, hb⟩
  have hfun : s.heap.FunFrames base ((envOfC qual scope s0.heap.objs.size f cd) :: outer) := e0.funs
  have hl := PySem.W.funFrames_hide hfun hin
  show wpAny (model P w) (A.deeper (envOfC qual scope s0.heap.objs.size f cd)) (leaving (envOfC qual scope s0.heap.objs.size f cd) (.ref e)) _ _ _
  refine wpAny_leaves_madeW (s := { s with heap := h1 }) (base := PySem.W.hideAll s.heap (frs ((envOfC qual scope s0.heap.objs.size f cd) :: outer))) I.ok.frames rfl (fun b o q => PySem.W.of_hideAll _ q) hl hx fun h' t fl htup ht up => ?_
  have inB : ∀ b o, s.heap.get? b = some o → b ∉ frs ((envOfC qual scope s0.heap.objs.size f cd) :: outer) → (PySem.W.hideAll s.heap (frs ((envOfC qual scope s0.heap.objs.size f cd) :: outer))).get? b = some o := fun b o q hb => PySem.W.hideAll_get _ q hb
  have trk : ∀ b, H b ≠ none → ∃ o, s.heap.get? b = some o ∧ b ∉ frs ((envOfC qual scope s0.heap.objs.size f cd) :: outer) := fun b hb => by
    cases q : H b with
    | none => exact absurd q hb
    | some ho =>
      obtain ⟨o, eo⟩ := zc1 (I.hok b ho q)
      refine ⟨o, eo, fun hm => ?_⟩
      have := e0.frf b hm
      rw [q] at this; cases this
  have frm : ∀ b o, s.heap.get? b = some o → b ∈ frs outer → ∃ sl, h'.get? b = some { o with slots := sl } := fun b o q hb => by
    have hm : b ∈ ((envOfC qual scope s0.heap.objs.size f cd) :: outer).filterMap (·.frame) := by
      show b ∈ frs _
      rw [hfs]; exact List.mem_cons_of_mem _ hb
    obtain ⟨_, o', ho, hnf⟩ := hfun.mem hm
    rw [q] at ho; cases ho
    exact up b o (hx.keeps b o q) hnf
  refine ⟨e, cls, .ref t, H, _, rfl, I.os, I.bare, ?_, ?_, fl, ?_, ?_, ?_, hE⟩
  · refine ⟨fun b o q n hb _ => ?_, fun b o q n hb _ => ?_, fun b o q n _ => u1.free b o q n (by simp), fun b o q _ => ?_, fun b xs q => u1.tups b xs q, fun b o u q => u1.frzs b o u q, fun b ps q => u1.tbls b ps q⟩
    · exact fl.1 b o (inB b o (u1.keep b o q n hb (by simp)) (hfn q hb))
    · obtain ⟨sl, e1⟩ := u1.slot b o q n hb (by simp)
      obtain ⟨sl2, e2⟩ := frm b _ e1 hb
      exact ⟨sl2, e2⟩
    · obtain ⟨o1, e1⟩ := u1.there b o q (by simp)
      by_cases hb : b ∈ frs outer
      · obtain ⟨sl, e2⟩ := frm b o1 e1 hb
        exact ⟨_, e2⟩
      · exact ⟨o1, fl.1 b o1 (inB b o1 e1 (hfn q hb))⟩
  · refine fun a o ha => (I.hok a o ha).stay (fun b u hb q => ?_) (fun _ h => h) (fun _ _ h => h)
    have hne : H b ≠ none := by
      rcases hb with rfl | hb
      · rw [ha]; simp
      · rw [hb]; simp
    obtain ⟨o', e1, e2⟩ := trk b hne
    exact fl.1 b u (inB b u q e2)
  · cases q : H e with
    | none => rfl
    | some ho =>
      obtain ⟨o, eo⟩ := zc1 (I.hok e ho q)
      rw [hx.new] at eo; cases eo
  · intro b o q hb ⟨o', q'⟩
    obtain ⟨o1, e1⟩ := u1.there b o' q' (by simp)
    have e2 := inB b o1 e1 (hfn q' hb)
    have e3 := fl.1 b o1 e2
    have q2 : h'.get? b = some o := q
    rw [e3] at q2; cases q2
    exact e2
  · intro b hb
    obtain ⟨o, e1, e2⟩ := trk b hb
    exact ⟨o, fl.1 b o (inB b o e1 e2), inB b o e1 e2⟩
noncomputable def yi6 (E : XK) (C : Addr) (ta : TA) : TS := fun _ σ H => ta σ H fun vs H1 => vs.length ≤ sizeLine ∧ E (.ref C) none H1
theorem yh4 {x : Str} {C : Addr} {Bn B newId inN nid initId : String} {bm bmN : List Value} {e₀ : Expr} {rest : List Expr} {np cpos pos : Pos} {ta : TA}
    (O : OwnCls x C bm newId mg base) (Fn : ExcBaseFacts Bn newId inN bmN) (hBn : bm.contains (.type Bn) = true) (FB : ExcBaseFacts B nid initId bm)
    (hg : Gl (cxOf (CXn P w) P w K mg base N qual scope f cd A outer s0 H0 E) x) (ha : PA (cxOf (CXn P w) P w K mg base N qual scope f cd A outer s0 H0 E) (e₀ :: rest) ta)
    (he : starEach (e₀ :: rest) (envOfC qual scope s0.heap.objs.size f cd) = (false, eval e₀ (envOfC qual scope s0.heap.objs.size f cd)) :: starEach rest (envOfC qual scope s0.heap.objs.size f cd) := by rfl)
    (hplain : (backTo cpos (starEach rest (envOfC qual scope s0.heap.objs.size f cd))).any (·.1) = false := by rfl) (hd : (x == ("__debug__" : Str)) = false := by decide) :
    PS (cxOf (CXn P w) P w K mg base N qual scope f cd A outer s0 H0 E) (.Raise (some (.Call (.Name x np) (e₀ :: rest) [] cpos)) none pos) (yi6 E C ta) := by
  intro pins s σ H D I h
  obtain ⟨tl, NN, nm, q, bs, hdct, sn, sub, ab, col, dd, k0, k1, k2, k3, k5, mN, hC, hN, hni, T⟩ := O.obj
  refine wpAny_Raise_call_subU (C := C) (nm := nm) (q := q) (N := NN) (bs := bs) (bm := tl) (hdct := hdct) (sn := sn) (sub := sub) (ab := ab) (col := col) (dd := dd) (k0 := k0) (k1 := k1) (k2 := k2) (k3 := k3) (k5 := k5)
    Fn hBn FB (mN := mN) (T.hasType FB.hasBase) (I.ok.hd rfl) (by
      show (backTo cpos (starEach (e₀ :: rest) (envOfC qual scope s0.heap.objs.size f cd))).any (·.1) = false
      rw [he]; show (false || (backTo cpos (starEach rest (envOfC qual scope s0.heap.objs.size f cd))).any (·.1)) = false; rw [hplain]; rfl) hni (wr0 I hg O.bound ⟨rfl, ?_⟩ hd)
  have hA := ha cpos pins s σ H _ I h
  have he' : starEach (e₀ :: rest) (cxOf (CXn P w) P w K mg base N qual scope f cd A outer s0 H0 E).env = _ := he
  rw [he'] at hA ⊢
  refine Calls.evalArgs_plain (thn hA fun us s2 ⟨vs, H2, I2, r2, q2⟩ => ⟨rfl, ?_, I2.bk _ _ hC, hN.keeps I2.bk, T.keeps I2.bk, fun h' e hx => wa7 I2 hx q2.2⟩)
  rw [← r2.length]; exact q2.1
noncomputable def EXok (K : Fg) (mg : Str → Option Value) (XE : XE3) (E : XK) : Prop := ∀ x C μ' H', XE x μ' → mg x = some (.ref C) → RelM K μ' H' → E (.ref C) none H'
noncomputable def zj7 (K : Fg) (mg : Str → Option Value) (spx : XE3 → Sp3) : Sp := fun vs H Q E => ∃ ds μ Q3 XE, RelDs K H ds vs ∧ RelM K μ H ∧ spx XE ds μ Q3 ∧ Ks K H Q3 Q ∧ EXok K mg XE E
noncomputable def CalX (P : Program) (w : World) (K : Fg) (mg : Str → Option Value) (base : Heap) (k : Nat) (x : Str) (ps : List Str) (spx : XE3 → Sp3) : Prop :=
  ∃ f fd, FnOk P w K mg base (CXn P w) k f fd ps (zj7 K mg spx) ∧ mg x = some (.ref f) ∧ PySem.W.keepIn K (.ref f) = true ∧ Binds K fd ps []
theorem CalX.mono {j k : Nat} {x : Str} {ps : List Str} {spx : XE3 → Sp3} (c : CalX P w K mg base j x ps spx) (h : j ≤ k) : CalX P w K mg base k x ps spx := by
  obtain ⟨f, fd, F, r⟩ := c
  exact ⟨f, fd, F.mono h, r⟩
variable {XE : XE3}
theorem zo2 {x : Str} {C : Addr} {Bn B newId inN nid initId : String} {bm bmN : List Value} {e₀ : Expr} {rest : List Expr} {np cpos pos : Pos} {ta : TA3} (EX : EXok K mg XE E)
    (O : OwnCls x C bm newId mg base) (Fn : ExcBaseFacts Bn newId inN bmN) (hBn : bm.contains (.type Bn) = true) (FB : ExcBaseFacts B nid initId bm)
    (ha : RA (cxOf (CXn P w) P w K mg base N qual scope f cd A outer s0 H0 E) (e₀ :: rest) ta) (hg : Gl (cxOf (CXn P w) P w K mg base N qual scope f cd A outer s0 H0 E) x := by rfl)
    (he : starEach (e₀ :: rest) (envOfC qual scope s0.heap.objs.size f cd) = (false, eval e₀ (envOfC qual scope s0.heap.objs.size f cd)) :: starEach rest (envOfC qual scope s0.heap.objs.size f cd) := by rfl)
    (hplain : (backTo cpos (starEach rest (envOfC qual scope s0.heap.objs.size f cd))).any (·.1) = false := by rfl) (hd : (x == ("__debug__" : Str)) = false := by decide) :
    RS (cxOf (CXn P w) P w K mg base N qual scope f cd A outer s0 H0 E) (.Raise (some (.Call (.Name x np) (e₀ :: rest) [] cpos)) none pos) (yq2 XE x ta) := by
  obtain ⟨va, pa, ra⟩ := ha
  exact ⟨_, yh4 O Fn hBn FB hg pa he hplain hd, fun σ H D ρ μ D3 s m h k => ra σ H _ ρ μ _ s m h fun ds μ1 vs H1 h1 k1 r1 m1 => ⟨by rw [← r1.length]; exact h1.1, EX x C μ1 H1 h1.2 O.bound m1⟩⟩
theorem wc0 {k : Nat} {ps : List Str} {spx : XE3 → Sp3} {x : Str} {e : Expr} {es : List Expr} {p pos : Pos} {t : TA3} (EX : EXok K mg XE E) (c : CalX P w K mg base k x ps spx) (hr : Room k (A.deeper (envOfC qual scope s0.heap.objs.size f cd)))
    (ha : RA (cxOf (CXn P w) P w K mg base N qual scope f cd A outer s0 H0 E) (e :: es) t) (hg : Gl (cxOf (CXn P w) P w K mg base N qual scope f cd A outer s0 H0 E) x := by rfl) (hdb : (x == ("__debug__" : Str)) = false := by decide)
    (he : starEach (e :: es) (envOfC qual scope s0.heap.objs.size f cd) = (false, eval e (envOfC qual scope s0.heap.objs.size f cd)) :: starEach es (envOfC qual scope s0.heap.objs.size f cd) := by rfl) (hpl : (backTo pos (starEach es (envOfC qual scope s0.heap.objs.size f cd))).any (·.1) = false := by rfl) :
    RE (cxOf (CXn P w) P w K mg base N qual scope f cd A outer s0 H0 E) (.Call (.Name x p) (e :: es) [] pos) (call3 (spx XE) t) := by
  obtain ⟨g, fd, F, hm, hk, hb⟩ := c
  obtain ⟨va, pa, ra⟩ := ha
  refine ⟨_, yh2 (X := cxOf (CXn P w) P w K mg base N qual scope f cd A outer s0 H0 E) F hr hg hm hk hb .nil wi4 pa hdb he hpl, fun σ H Q ρ μ Q3 s m h k => ra σ H _ ρ μ _ s m h fun ds μ1 vs H1 h1 k1 r1 m1 => ?_⟩
  rw [List.append_nil]
  exact ⟨ds, μ1, Q3, XE, r1, m1, h1, k.after k1, EX⟩
theorem yh0 {x : Str} {st : Stmt} {g : Addr} {fd : FuncData} {NN ps : List Str} {k : Nat} {spx : XE3 → Sp3} {t : XE3 → TS3} (F : Fun K x x st g fd) (hm : mg x = some (.ref g)) (hb : Binds K fd ps []) (S : FnScope NN ps (za0 st))
    (len : ∀ XE ds μ Q, spx XE ds μ Q → ds.length = ps.length)
    (body : ∀ (cdv : Value) (A : Around) (outer : List Env) (s : Shared) (H : Hp) (E : XK) (XE : XE3), Room k (A.deeper (envOfC x (za0 st) s.heap.objs.size g cdv)) → EXok K mg XE E →
      RSs (cxOf (CXn P w) P w K mg base NN x (za0 st) g cdv A outer s H E) (yc0 st) (t XE))
    (rd : ∀ XE ds μ Q, spx XE ds μ Q → t XE { nx := fun _ μ' => Q .non μ', rt := Q } (start3 NN ds) μ) : CalX P w K mg base (k + 1) x ps spx := by
  refine ⟨g, fd, ?_, hm, F.kp, hb⟩
  obtain ⟨oc, od, kV, doc, pm, an, cdv, ct, osl, rfl, lk, hcd⟩ := F.ex
  refine zn7 lk hcd S (fun vs H Q E h => ?_) fun A outer s H vs Q E hr h => ?_
  · obtain ⟨ds, μ, Q3, XE, r, m, q, ks, ex⟩ := h
    rw [← r.length]; exact len _ _ _ _ q
  · obtain ⟨ds, μ, Q3, XE, r, m, q, ks, ex⟩ := h
    obtain ⟨tv, p, rt⟩ := body cdv A outer s H E XE hr ex
    exact ⟨tv, p, rt _ H _ _ μ _ (RSt.start NN r) m (rd XE ds μ Q3 q) ⟨fun ρ μ' σ H' h' k' s' m' => ks _ _ _ _ h' k' .non m', fun ρ μ' σ H' h' => False.elim h', fun ρ μ' σ H' h' => False.elim h', ks⟩⟩
end
end Pv

namespace Pv
open PySem PySem.Spec PyProof.Rows L2 PySem.Calls
section
variable {prog : Program} {w : World} {A : Around} {E : Value → Shared → Prop} {s : Shared} {K : PySem.W.Frag} {x D : Addr} {ox : Obj}
structure ExcK (K : PySem.W.Frag) (D : Addr) : Prop where
  ga : PySem.W.findIn K (.ref D) "__getattribute__" = some (some (.builtin "BaseException.__getattribute__"))
  no : PySem.W.findIn K (.ref D) "__getattr__" = some none
  be : PySem.W.mroIn K D (.type "BaseException") = some true
  cd : (PySem.W.clsIn K D).isSome = true
  ca : PySem.W.findIn K (.ref D) "__class__" = some (some (.builtin "object.__class__"))
  gt : PySem.W.specialIn K (.builtin "object.__class__") "__get__" = some (some (.builtin "getset_descriptor.__get__"))
  tk : PySem.W.takesIn K (.builtin "object.__class__") = some true
  ob : PySem.W.mroIn K D (.type "object") = some true
noncomputable def ExcAt (x D : Addr) (h : Heap) : Prop := ∃ ob, h.get? x = some ob ∧ ob.cls = .ref D
theorem ExcAt.type {M : Model} {h : Heap} (I : ExcAt x D h) : PySem.W.Looks M h (typeOf (.ref x)) (.ref D) := by
  obtain ⟨ob, h1, h2⟩ := I
  exact h2 ▸ (PySem.W.Looks.ld h1).andThen .now
theorem xo4 {M : Model} {h : Heap} (Z : ExcK K D) (X : K.In h) : PySem.W.Looks M h (Builtin.ObjectAttr.find (.ref x) (.ref D) "__class__") (.bind (.builtin "getset_descriptor.__get__") (.builtin "object.__class__")) := by
  have L1 := PySem.W.looks_findIn (M := M) X Z.ca
  have L2 := PySem.W.looks_specialIn (M := M) X Z.gt
  have L3 := PySem.W.looks_takesIn (M := M) X Z.tk
  refine L1.andThen (PySem.W.Looks.andThen (show PySem.W.Looks M h (Builtin.ObjectAttr.getOf (some (.builtin "object.__class__"))) (some (.builtin "getset_descriptor.__get__")) from L2) ?_)
  exact (show PySem.W.Looks M h (Builtin.ObjectAttr.dataDescriptor? (some (.builtin "object.__class__")) (some (.builtin "getset_descriptor.__get__"))) (some (.builtin "getset_descriptor.__get__", .builtin "object.__class__")) from L3.andThen .now).andThen (PySem.W.Looks.tag .now)
theorem ys5 {R : Result → Shared → Prop} {tp : Value} (Z : ExcK K D) (X : K.In s.heap) (I : ExcAt x D s.heap)
    (h : R (.ok (.ret (.ref D))) s) : codeAny (model prog w) A (.call (.builtin "getset_descriptor.__get__") ⟨[.builtin "object.__class__", .ref x, tp], []⟩) R s := by
  obtain ⟨ob, h1, h2⟩ := I
  obtain ⟨hh, g, dr, t, os⟩ := s
  have L0 := ExcAt.type (M := model prog w) (x := x) (D := D) (h := hh) ⟨ob, h1, h2⟩
  have L1 := PySem.W.looks_mroIn (M := model prog w) X Z.ob
  refine codeAny_call_builtin PySem.W.KF.slot_gs.plain PySem.W.KF.entry_gs (PySem.W.KF.slot_gs.check _ _ _ _ _ _ _ _ PySem.W.KF.type_class (PySem.W.KF.args_gs _ _ _) ?_)
  unfold Builtin.«getset_descriptor.__get__» Builtin.Getset_descriptor.descrGet
  rw [PySem.W.dga_obj]
  refine wpAny_bind (wpAny_pure ?_)
  unfold Builtin.Getset_descriptor.descrGetter Builtin.Getset_descriptor.descrCheckInstance Builtin.Getset_descriptor.descrNameAndClass isInstance
  simp only [PySem.W.KF.owner_class]
  repeat lk
  refine ⟨Code.quiet_builtin _ (by decide +kernel), codeAny_builtin PySem.W.KF.entry_class ?_⟩
  unfold Builtin.«object.__class__» shownTypeOf
  repeat lk
  exact h
theorem wv3 {Q : Option Value → Shared → Prop} (Z : ExcK K D) (X : K.In s.heap) (I : ExcAt x D s.heap) (h : Q (some (.ref D)) { s with toks := s.toks + 1 }) : wpAny (model prog w) A (getAttr? (.ref x) "__class__") Q E s := by
  obtain ⟨hh, g, d, t, os⟩ := s
  have L0 := I.type (M := model prog w)
  have L1 := PySem.W.looks_findIn (M := model prog w) X Z.ga
  have L2 := PySem.W.looks_findIn (M := model prog w) X Z.no
  have L3 := xo4 (M := model prog w) (x := x) Z X
  have L4 := PySem.W.looks_mroIn (M := model prog w) X Z.be
  unfold getAttr? getAttrBy? getAttrBy
  refine wpAny_bind (wpAny_mkText (wpAny_bind (wpAny_attempt (wpAny_holding (wpAny_bind (L0.at (wpAny_bind (L1.at ?_))))))))
  have hx2 : (Value.builtin "BaseException.__getattribute__" == Value.builtin "object.__getattribute__") = false := by decide +kernel
  simp only [hx2, Bool.and_false, Bool.false_eq_true, if_false]
  unfold getAttrByItsOwn hookBefore
  have hh1 : onTheHeap (Value.ref D) = true := rfl
  simp only [hh1, if_true]
  refine wpAny_bind (L2.at (wpAny_bind (wpAny_attempt (wpAny_holding ?_))))
  unfold callGetattribute boundAndCalled
  simp only [Bool.false_and, Bool.false_eq_true, if_false]
  have hb : bindSpecial (.builtin "BaseException.__getattribute__") (.ref x) = pure (.builtin "BaseException.__getattribute__", [.ref x]) := PySem.F.attr_ValueError.ga.bind _
  rw [hb]
  refine wpAny_bind (wpAny_pure ?_)
  refine wpAny_call (codeAny_call_builtin PySem.F.attr_ValueError.ga.plain F.entry_bexc_ga ?_)
  have hk : builtinKind "BaseException.__getattribute__" = some .slot := by decide +kernel
  have hsplit : splitId "BaseException.__getattribute__" = some ("BaseException", "__getattribute__") := by decide +kernel
  have ha := F.args_bexc_ga (.ref x) (.str "__class__" t)
  simp only [checkBuiltinCall, hk, hsplit]
  refine wpAny_bind ?_
  · unfold isInstance
    refine wpAny_bind (L0.at (L4.at ?_))
    simp only [Bool.not_true, Bool.false_eq_true, if_false]
    obtain ⟨ob, I1, I2⟩ := id I
    dsimp only at I1
    repeat (any_goals (first | assumption | (with_reducible refine wpAny_loadPart_at I1 ?_; rw [I2]) | with_reducible refine L3.at ?_ | wp_step))
    refine ys5 (s := ⟨hh, g, d, t + 1, os⟩) Z X I (wpAny_pure ?_)
    exact PySem.W.handed_on rfl (wpAny_pure h)
theorem wk4 (Z : ExcK K D) : PySem.W.KitX K (.ref x) (.ref D) (ExcAt x D) where
  ty := fun _ _ _ I => I.type
  it := fun _ _ X _ => by
    obtain ⟨cdD, hcD⟩ := Option.isSome_iff_exists.mp Z.cd
    unfold PySem.W.clsIn at hcD
    split at hcD
    · rename_i c' d' cd' sl' ho
      intro A' Q' E' s' k q
      unfold isType loadHead
      exact wpAny_bind (wpAny_loadPart (k _ _ (X _ _ ho)) (wpAny_pure q))
    · cases hcD
  ne := fun h tp dd its n sl X htp => by
    obtain ⟨cdD, hcD⟩ := Option.isSome_iff_exists.mp Z.cd
    refine Bool.eq_false_iff.mpr fun q => ?_
    have e : D = tp := Value.ref.inj (beq_iff_eq.mp q)
    subst e
    unfold PySem.W.clsIn at hcD
    split at hcD
    · rename_i c' d' cd' sl' ho
      have z := (X _ _ ho).symm.trans htp
      cases z
    · cases hcD
  ca := fun X I k => wv3 Z X I k
end
section
variable {X : Cx} {e : Expr} {te : TE3} {p p2 pos : Pos}
theorem xs5 {P : Program} {w : World} {H : Hp} {h : Heap} (hok : HOk P w H h) {a : Addr} {ob : Obj} {u : HO} (e : H a = some (.frz ob u)) : h.get? a = some ob := (show ObjOk P w H h a (.frz ob u) from hok a _ e).1
theorem zp4 {cV : V} {cv : Value} (rc : ∀ u, RelV cV u → u = cv) : CallR X (.builtin "isinstance") (fun xs H Q => ∃ a C ob u b, xs = [.ref a, cV] ∧ H a = some (.frz ob u) ∧ ob.cls = .ref C ∧ ExcK X.K C ∧ PySem.W.kitOne X.K (.ref C) cv = some b ∧ Q (.bl b) H) := by
  intro pins s σ H xs us Q I r h
  obtain ⟨a, C, ob, u, b, rfl, ha, h1, Z, hk, q⟩ := h
  obtain ⟨u1, u2, rfl, r1, r2⟩ := wc4 r
  cases r1
  cases rc _ r2
  have hg := xs5 I.hok ha
  have hi : ExcAt a C s.heap := ⟨ob, hg, h1⟩
  exact PySem.W.kia_one (wk4 Z) I.kIn hi hk (fun z => nomatch z) fun tk => ⟨.bl b, H, I.tok tk, rfl, q⟩
theorem zj1 {y : Str} {C : Addr} (hg : Gl X y) (hm : X.mg y = some (.ref C)) (hd : (y == ("__debug__" : Str)) = false := by decide) : PE X (.Name y p2) (fun _ H Q => Q (.ref C) H) := fun pins s σ H Q I h => wr0 I hg hm ⟨.ref C, H, I, rfl, h⟩ hd
theorem wb1 {y : Str} {cV : V} {cv : Value} {sub : Str → Option Bool} (he : RE X e te) (hc : PE X (.Name y p2) (fun _ H Q => Q cV H)) (rc : ∀ u, RelV cV u → u = cv)
    (hsub : ∀ c C b, sub c = some b → PySem.W.nsIn X.K mainGlobals c = some (some (.ref C)) → ExcK X.K C ∧ PySem.W.kitOne X.K (.ref C) cv = some b)
    (hm : X.mg "isinstance" = none) (hg : Gl X "isinstance" := by rfl)
    (hs : starEach [e, .Name y p2] X.env = (false, eval e X.env) :: starEach [.Name y p2] X.env := by rfl) (hs2 : starEach [.Name y p2] X.env = (false, eval (.Name y p2) X.env) :: starEach [] X.env := by rfl)
    (hpl : (backTo pos (starEach [.Name y p2] X.env)).any (·.1) = false := by rfl) :
    RE X (.Call (.Name "isinstance" p) [e, .Name y p2] [] pos) (isx3 te sub) := by
  obtain ⟨va, pa, ra⟩ := he
  refine ⟨_, xr2 (zp4 rc) hg hm zt1 (zh2 pa (zh2 hc xw4 hs2) hs) (by decide) (by decide) hs hpl, fun σ H Q ρ μ Q3 s m h k => ra σ H _ ρ μ _ s m h fun d μ1 v H1 h1 k1 r1 m1 => ?_⟩
  cases r1 with
  | exc a1 a2 a3 =>
    dsimp only at h1
    split at h1
    · next b eb =>
      obtain ⟨z1, z2⟩ := hsub _ _ b eb a3
      exact ⟨_, _, _, _, b, rfl, a1, a2, z1, z2, k _ _ _ _ h1 k1 (.bl _) m1⟩
    · exact h1.elim
  | _ => exact False.elim h1
end
end Pv

namespace Pv
open PySem PySem.Spec PyProof.Rows L2 PySem.Calls
section
variable {X : Cx} {pins : List (Addr × Obj)} {σ : L2.St} {H H' : Hp} {s s' : Shared}
noncomputable abbrev mark (X : Cx) (e : Value) : Cx := { X with A := X.A.mark (some e), calm := false, xe := fun _ _ => False }
theorem ws2 (I : Inv X pins σ H s) (e : Value) : Inv (mark X e) pins σ H s :=
  ⟨⟨I.ok.mod, I.ok.kind, I.ok.glob, I.ok.blt, I.ok.above, I.ok.inj, I.ok.has, I.ok.cab, (fun z => Bool.noConfusion z), I.ok.frames, I.ok.stk, I.ok.exf, I.ok.bs, I.ok.bsz, I.ok.noex, I.ok.exfs, I.ok.funs, I.ok.frf⟩, I.os, I.bare, I.base, I.loc, I.cell, I.free, I.freeC, I.pin, I.hok, I.len⟩
theorem wd3 {e : Value} (ok : X.Ok) (I : Inv (mark X e) pins σ H s) : Inv X pins σ H s :=
  ⟨ok, I.os, I.bare, I.base, I.loc, I.cell, I.free, I.freeC, I.pin, I.hok, I.len⟩
theorem wb2 {B h5 : Heap} {ea : Addr} {cls a0 : Value} (u2 : Un (frs X.stack) [] H H' s.heap s'.heap)
    (cov1 : ∀ b o, s'.heap.get? b = some o → b ∉ frs X.stack → (∃ o', s.heap.get? b = some o') → B.get? b = some o)
    (fl : Heap.FlyingW B X.stack ea cls a0 s'.heap) (st : ∀ b o, B.get? b = some o → h5.get? b = some o) (up : s'.heap.UpToSlots h5) : Un (frs X.stack) [] H H' s.heap h5 := by
  have frm : ∀ b o, s'.heap.get? b = some o → b ∈ frs X.stack → ∃ sl, h5.get? b = some { o with slots := sl } := fun b o q hb => by
    obtain ⟨_, o', ho, hnf⟩ := fl.2.2.1.mem hb
    rw [q] at ho; cases ho
    exact up b o q hnf
  refine ⟨fun b o q n hb _ => ?_, fun b o q n hb _ => ?_, fun b o q n hx => u2.free b o q n hx, fun b o q hx => ?_, u2.tups, u2.frzs, u2.tbls⟩
  · exact st b o (cov1 b o (u2.keep b o q n hb (by simp)) hb ⟨o, q⟩)
  · obtain ⟨sl, e1⟩ := u2.slot b o q n hb (by simp)
    obtain ⟨sl2, e2⟩ := frm b _ e1 hb
    exact ⟨sl2, e2⟩
  · obtain ⟨o1, e1⟩ := u2.there b o q hx
    by_cases hb : b ∈ frs X.stack
    · obtain ⟨sl, e2⟩ := frm b o1 e1 hb
      exact ⟨_, e2⟩
    · exact ⟨o1, st b o1 (cov1 b o1 e1 hb ⟨o, q⟩)⟩
theorem xl1 {B h5 : Heap} {P : Program} {w : World} (hok : HOk P w H' s'.heap) (cov2 : ∀ b, H' b ≠ none → ∃ o, s'.heap.get? b = some o ∧ B.get? b = some o) (st : ∀ b o, B.get? b = some o → h5.get? b = some o) : HOk P w H' h5 := by
  refine fun a o e => (hok a o e).stay (fun b u hb q => ?_) (fun _ h => h) (fun _ _ h => h)
  have hne : H' b ≠ none := by
    rcases hb with rfl | hb
    · rw [e]; simp
    · rw [hb]; simp
  obtain ⟨o', e1, e2⟩ := cov2 b hne
  rw [q] at e1; cases e1
  exact st b _ e2
theorem wb6 {fs : List Addr} {h h5 : Heap} {ea : Addr} {o : HO} (u : Un fs [] H H' h h5) (he : H' ea = none) (hn : h.get? ea = none) : Un fs [] H (upd H' ea o) h h5 := by
  have ne : ∀ {b ob}, h.get? b = some ob → b ≠ ea := fun {b ob} q z => by subst z; rw [hn] at q; cases q
  have ne2 : ∀ {b u}, H' b = some u → b ≠ ea := fun {b u} q z => by subst z; rw [he] at q; cases q
  refine ⟨u.keep, u.slot, fun b ob q n hx => ?_, u.there, fun b xs q => ?_, fun b ob v q => ?_, fun b ps q => ?_⟩
  · rw [yd0 (ne q)]; exact u.free b ob q n hx
  · have := u.tups b xs q; rw [yd0 (ne2 this)]; exact this
  · have := u.frzs b ob v q; rw [yd0 (ne2 this)]; exact this
  · obtain ⟨m, e⟩ := u.tbls b ps q; exact ⟨m, by rw [yd0 (ne2 e)]; exact e⟩
theorem zd5 {P : Program} {w : World} {h5 : Heap} {ea : Addr} {oe : Obj} (hok : HOk P w H' h5) (he : H' ea = none) (hg : h5.get? ea = some oe) : HOk P w (upd H' ea (.frz oe (.own 0))) h5 := by
  have ne2 : ∀ {b u}, H' b = some u → b ≠ ea := fun {b u} q z => by subst z; rw [he] at q; cases q
  intro a o e
  by_cases ha : a = ea
  · subst ha
    rw [wf0] at e
    cases e
    exact ⟨hg, ⟨_, hg⟩⟩
  · rw [yd0 ha] at e
    exact (hok a o e).stay (fun b u hb q => q) (fun b q => by rw [yd0 (ne2 q)]; exact q) (fun b xs q => by rw [yd0 (ne2 q)]; exact q)
theorem wj2 {M : Model} {A : Around} {E : Value → Shared → Prop} {K : PySem.W.Frag} {ea C Pc : Addr} {ob : Obj} {Q : Bool → Shared → Prop} (Z : K.In s.heap) (h1 : s.heap.get? ea = some ob) (h2 : ob.cls = .ref C)
    (k1 : PySem.W.kitCls K (.ref C) (.ref Pc) = some true) (k2 : PySem.W.kitCls K (.ref Pc) (.type "BaseException") = some true) (k3 : PySem.W.kitCls K (.type "type") (.type "tuple") = some false) (hq : Q true s) : wpAny M A (excMatches (.ref ea) (.ref Pc)) Q E s := by
  obtain ⟨a1, a2, a3⟩ := PySem.W.kit_cls (M := M) Z k1
  obtain ⟨b1, b2, b3⟩ := PySem.W.kit_cls (M := M) Z k2
  obtain ⟨c1, c2, c3⟩ := PySem.W.kit_cls (M := M) Z k3
  have L0 := ExcAt.type (M := M) (x := ea) (D := C) (h := s.heap) ⟨ob, h1, h2⟩
  obtain ⟨hh, g, d, t, os⟩ := s
  unfold excMatches isInstance
  refine wpAny_bind (wpAny_bind (a1.at (c3.at ?_)))
  dsimp only
  simp only [Bool.false_eq_true, if_false, pure_bind, List.forIn_cons, List.forIn_nil]
  unfold isExcClass
  repeat (any_goals (first | assumption | with_reducible refine L0.at ?_ | with_reducible refine a3.at ?_ | with_reducible refine b3.at ?_ | with_reducible refine a2.at ?_ | with_reducible refine a1.at ?_ | wp_step))
theorem yp4 {e : Value} {E' : XK} {n x : Str} {i : Nat} {Pc : Addr} {b₀ : Stmt} {suite : List Stmt} {np pos : Pos} {Q : Flow → Shared → Prop} {EE : Value → Shared → Prop}
    (I : Inv X pins σ H s) (hst : X.stack = X.env :: X.outer) (hfr : X.env.frame = some X.env.locals) (h : CXn X.prog X.w X.stack H s E' e s')
    (hN : X.N.Nodup) (hi : X.N[i]? = some n) (hloc : X.env.scope.names.lookup n = some .local) (hg : Gl X x) (hm : X.mg x = some (.ref Pc)) (hd : (x == ("__debug__" : Str)) = false)
    (hcls : ∀ cls H', E' cls none H' → ∃ C, cls = .ref C ∧ PySem.W.kitCls X.K (.ref C) (.ref Pc) = some true) (k2 : PySem.W.kitCls X.K (.ref Pc) (.type "BaseException") = some true) (k3 : PySem.W.kitCls X.K (.type "type") (.type "tuple") = some false)
    (k : ∀ ea C H' ob s6, Kp H H' → E' (.ref C) none H' → H' ea = none → ob.cls = .ref C → Inv (mark X (.ref ea)) pins (σ.set i (some (.ref ea))) (upd H' ea (.frz ob (.own 0))) s6 →
      wpAny (model X.prog X.w) (X.A.mark (some (.ref ea))) (execs (b₀ :: suite) X.env) (fun f s₄ => wpAny (model X.prog X.w) X.A (do bindName X.env n .none; unbindBehindTheSuite X.env n pos) (fun _ s₅ => Q f s₅) EE s₄) (fun _ _ => False) s6) :
    wpAny (model X.prog X.w) X.A (noteFrame e X.env) (fun _ s₂ => wpAny (model X.prog X.w) X.A (setFlight e none) (fun _ s₃ =>
      wpAny (model X.prog X.w) X.A (handleBy e X.env [.ExceptHandler (some (.Name x np)) (some n) (b₀ :: suite) pos]) Q EE s₃) EE s₂) EE s' := by
  obtain ⟨ea, cls, a0, H', B, rfl, os, bare, u2, hok, fl, hea, cov1, cov2, hE⟩ := h
  obtain ⟨C, rfl, k1⟩ := hcls _ _ hE
  have fl0 := fl
  rw [hst] at fl
  refine wpAny_looks_onW (by rw [← hst]; exact I.ok.frames) hfr fl fun h4 held4 sm4 => ?_
  refine wpAny_landsW held4 fun h5 fl5 sm5 => ?_
  have I5 : Inv X pins σ H' { s' with heap := h5 } := I.call' (s' := { s' with heap := h5 }) (ch := []) os (wb2 u2 cov1 fl0 fl5.1 (sm4.trans sm5)) (xl1 hok cov2 fl5.1) bare (fun b z => absurd z (by simp))
  obtain ⟨ob5, hob5, hc5⟩ := fl5.there
  refine wpAny_handleBy_cons (codeAny_handlers_test (wr0 (ws2 I5 (.ref ea)) hg hm ?_ hd)) (by intro q; cases q)
  refine wj2 I5.kIn hob5 hc5 k1 k2 k3 ?_
  refine codeAny_handlers_suite_as ?_
  refine lands_againW (s := { s' with heap := h5 }) fl5 fun h6 fl6 sm6 => ?_
  obtain ⟨oe, ws, hoe, hoec, hoed, hoe0⟩ := fl6.first
  have hsn : s.heap.get? ea = none := by
    cases q : s.heap.get? ea with
    | none => rfl
    | some o =>
      exfalso
      obtain ⟨o1, e1⟩ := u2.there ea o q (by simp)
      by_cases hb : ea ∈ frs X.stack
      · obtain ⟨_, o', ho, hnf⟩ := fl0.2.2.1.mem hb
        obtain ⟨oe0, vs0, he0, _, hd0, _⟩ := fl0.first
        rw [he0] at ho; cases ho
        exact hnf _ hd0
      · have := cov1 ea o1 e1 hb ⟨o, q⟩
        rw [fl0.2.1] at this; cases this
  have I7 : Inv X pins σ (upd H' ea (.frz oe (.own 0))) { s' with heap := h6 } := I.call' (s' := { s' with heap := h6 }) (ch := []) os (wb6 (wb2 u2 cov1 fl0 fl6.1 ((sm4.trans sm5).trans sm6)) hea hsn) (zd5 (xl1 hok cov2 fl6.1) hea hoe) bare (fun b z => absurd z (by simp))
  refine zl1 I7 hN hi (.inl hloc) (v := .ref ea) (u := .ref ea) rfl (fun s8 I8 => ?_) (.inr hloc)
  exact wpAny_mono (k ea C H' oe s8 ⟨u2.tups, u2.frzs⟩ hE hea hoec (ws2 I8 (.ref ea))) (fun f s4 z => z) (fun _ _ z => z.elim)
theorem zr5 {M : Model} {A : Around} {E : Value → Shared → Prop} {i : Nat} {n : Str} {pos : Pos} {Q : Unit → Shared → Prop} (I : Inv X pins σ H s) (hN : X.N.Nodup) (hi : X.N[i]? = some n) (hk : X.env.scope.names.lookup n = some .local)
    (h : ∀ s', Inv X pins (σ.set i none) H s' → Q () s') : wpAny M A (do bindName X.env n .none; unbindBehindTheSuite X.env n pos) Q E s := by
  obtain ⟨m, hn, hl⟩ := id I.loc
  have hcls : (X.env.scope.kind == .class || (X.env.scope.kind == .module && X.env.locals != X.env.globals)) = false := by rw [I.ok.kind]; rfl
  have hiσ : i < σ.length := by rw [I.len]; exact (List.getElem?_eq_some_iff.mp hi).1
  have cne := I.cne
  have tracked : ∀ {a : Addr} {h' : Heap}, (∃ o, s.heap.get? a = some o ∧ H a = none) → Heap.SameBut a s.heap h' → HOk X.prog X.w H h' := fun {a h'} ha hs b ob e => by
    obtain ⟨_, _, hfree⟩ := ha
    refine (I.hok b ob e).stay (fun c w' hc q => (hs.2 c ?_).trans q) (fun _ q => q) fun _ _ q => q
    rintro rfl
    rcases hc with rfl | hc
    · rw [hfree] at e; cases e
    · rw [hfree] at hc; cases hc
  refine wpAny_nameGoes_keeps hk hn hcls fun h' v hn' hs => ?_
  obtain ⟨oL, _, _, hoL, _⟩ := id hn
  refine h _ ⟨I.ok, I.os, I.bare, ⟨fun b o e n hb hx => ?_, fun b o e n hb hx => ?_, I.base.free, fun b o e hx => ?_, I.base.tups, I.base.frzs, I.base.tbls⟩, ⟨_, hn', fun j y v' e1 e2 e3 => ?_⟩, fun y c e => ?_, I.free, I.freeC, fun p hp => ?_, tracked ⟨oL, hoL, I.free⟩ hs, by simpa using I.len⟩
  · exact (hs.2 b (Nat.ne_of_lt (Nat.lt_of_lt_of_le (Heap.lt_size e) I.ok.above))).trans (I.base.keep b o e n hb hx)
  · obtain ⟨sl, e1⟩ := I.base.slot b o e n hb hx
    exact ⟨sl, (hs.2 b (Nat.ne_of_lt (Nat.lt_of_lt_of_le (Heap.lt_size e) I.ok.above))).trans e1⟩
  · obtain ⟨o', e1⟩ := I.base.there b o e hx
    exact ⟨o', (hs.2 b (Nat.ne_of_lt (Nat.lt_of_lt_of_le (Heap.lt_size e) I.ok.above))).trans e1⟩
  · by_cases hj : j = i
    · subst hj
      rw [List.getElem?_set_self hiσ] at e2
      cases e2
    · rw [List.getElem?_set_ne (Ne.symm hj)] at e2
      obtain ⟨u', r', q⟩ := hl j y v' e1 e2 e3
      refine ⟨u', r', ?_⟩
      rcases q with ⟨k, e⟩ | ⟨k, c, e, z⟩
      · refine .inl ⟨k, ?_⟩
        have : y ≠ n := fun e => hj (yp1 hN e1 (e ▸ hi))
        simp [this, e]
      · exact .inr ⟨k, c, e, z.sameBut hs (cne y c e)⟩
  · obtain ⟨w', z⟩ := I.cell y c e
    exact ⟨w', z.sameBut hs (cne y c e)⟩
  · obtain ⟨e, n, ne, nf, d⟩ := I.pin p hp
    exact ⟨(hs.2 p.1 ne).trans e, n, ne, nf, d⟩
noncomputable def tTry (K : Fg) (Pc : Addr) (i : Nat) (sp : Sp) (st : V → L2.St → L2.St) (ta : TA) (ts : Addr → TS) : TS := fun D σ H => ta σ H fun vs H1 => sp vs H1 (fun v H2 => D.nx (st v σ) H2)
  (fun cls _ H2 => ∃ C, cls = .ref C ∧ PySem.W.kitCls K (.ref C) (.ref Pc) = some true ∧ (Kp H1 H2 → ∀ ea ob, H2 ea = none → ob.cls = .ref C →
    ts ea { nx := fun σ' H' => D.nx (σ'.set i none) H', rt := fun _ _ => False, bk := fun _ _ => False, ct := fun _ _ => False } (σ.set i (some (.ref ea))) (upd H2 ea (.frz ob (.own 0)))))
variable {k : Nat} {f : Addr} {fd : FuncData} {ps : List Str} {sp : Sp} {fx n x : Str} {i : Nat} {Pc : Addr} {e : Expr} {es : List Expr} {b₀ : Stmt} {suite : List Stmt} {p cpos np hpos pos epos : Pos} {ta : TA} {ts : Addr → TS}
theorem xd4 {st : V → L2.St → L2.St} {QV : Value → Shared → Prop} {D : Ends} (F : FnOk X.prog X.w X.K X.mg X.base (CXn X.prog X.w) k f fd ps sp) (hr : Room k X.A) (hgf : Gl X fx) (hmf : X.mg fx = some (.ref f)) (hkf : PySem.W.keepIn X.K (.ref f) = true) (hb : Binds X.K fd ps []) (ha : PA X (e :: es) ta)
    (hsu : ∀ ea, PSs (mark X (.ref ea)) (b₀ :: suite) (ts ea))
    (hN : X.N.Nodup) (hi : X.N[i]? = some n) (hloc : X.env.scope.names.lookup n = some .local) (hg : Gl X x) (hm : X.mg x = some (.ref Pc)) (hd : (x == ("__debug__" : Str)) = false)
    (k2 : PySem.W.kitCls X.K (.ref Pc) (.type "BaseException") = some true) (k3 : PySem.W.kitCls X.K (.type "type") (.type "tuple") = some false) (hst : X.stack = X.env :: X.outer) (hfr : X.env.frame = some X.env.locals)
    (hxe : ∀ v s, X.xe v s → False)
    (hdb : (fx == ("__debug__" : Str)) = false) (he : starEach (e :: es) X.env = (false, eval e X.env) :: starEach es X.env) (hpl : (backTo cpos (starEach es X.env)).any (·.1) = false)
    (I : Inv X pins σ H s) (h : tTry X.K Pc i sp st ta ts D σ H) (kv : ∀ v u H2 s2, RelV v u → Inv X pins σ H2 s2 → D.nx (st v σ) H2 → QV u s2) :
    wpAny (model X.prog X.w) X.A (eval (.Call (.Name fx p) (e :: es) [] cpos) X.env) QV
      (fun ex s₁ => wpAny (model X.prog X.w) X.A (noteFrame ex X.env) (fun _ s₂ => wpAny (model X.prog X.w) X.A (setFlight ex none) (fun _ s₃ => wpAny (model X.prog X.w) X.A (handleBy ex X.env [.ExceptHandler (some (.Name x np)) (some n) (b₀ :: suite) hpos]) (SP X pins D) X.xe s₃) X.xe s₂) X.xe s₁) s := by
  refine wpAny_Call_Name_kw (wr0 I hgf hmf ?_ hdb)
  refine PySem.W.callWith_K (h₀ := X.base) I.ok.mod.kin hkf (wpAny_mono (ha cpos pins s σ H _ I h) (fun us s1 ⟨vs, H1, I1, r, q⟩ => ⟨I1.kIn, ?_⟩) fun _ _ z => (hxe _ _ z).elim) he hpl
  have hl : (us ++ []).length = ps.length := by rw [List.append_nil, ← r.length]; exact F.len _ _ _ _ q
  have hbb := hb s1 us I1.kIn hl
  rw [List.append_nil] at hbb
  refine wpAny_call (codeAny_mono (F.run X.A X.stack s1 H1 ⟨us, []⟩ us vs _ _ hr I1.env0 hbb r q) fun rr s' hq => ?_)
  cases rr with
  | error ex =>
    dsimp only [CR] at hq
    refine yp4 I1 hst hfr hq hN hi hloc hg hm hd (fun cls H' hE => ?_) k2 k3 fun ea C H' ob s6 hkp hE hea hob I6 => ?_
    · obtain ⟨C, e1, e2, _⟩ := hE
      exact ⟨C, e1, e2⟩
    · obtain ⟨C', e1, e2, e3⟩ := hE
      cases e1
      refine wpAny_mono (hsu ea pins s6 _ _ _ I6 (e3 hkp ea ob hea hob)) (fun fl s4 z => ?_) fun _ _ z => z
      cases fl with
      | next =>
        obtain ⟨σ', H4, I4, q4⟩ := z
        exact zr5 (wd3 I1.ok I4) hN hi hloc fun s5 I5 => ⟨_, H4, I5, q4⟩
      | brk => obtain ⟨_, _, _, z⟩ := z; exact z.elim
      | cont => obtain ⟨_, _, _, z⟩ := z; exact z.elim
      | ret _ => obtain ⟨_, _, _, _, _, z⟩ := z; exact z.elim
  | ok fl =>
    cases fl with
    | ret u =>
      obtain ⟨v, H2, I2, rv, q2⟩ := I1.after hq
      exact kv v u H2 _ rv I2 q2
    | next => exact False.elim hq
    | brk => exact False.elim hq
    | cont => exact False.elim hq
theorem xl5 (F : FnOk X.prog X.w X.K X.mg X.base (CXn X.prog X.w) k f fd ps sp) (hr : Room k X.A) (hgf : Gl X fx) (hmf : X.mg fx = some (.ref f)) (hkf : PySem.W.keepIn X.K (.ref f) = true) (hb : Binds X.K fd ps []) (ha : PA X (e :: es) ta)
    (hsu : ∀ ea, PSs (mark X (.ref ea)) (b₀ :: suite) (ts ea))
    (hN : X.N.Nodup) (hi : X.N[i]? = some n) (hloc : X.env.scope.names.lookup n = some .local) (hg : Gl X x) (hm : X.mg x = some (.ref Pc)) (hd : (x == ("__debug__" : Str)) = false)
    (k2 : PySem.W.kitCls X.K (.ref Pc) (.type "BaseException") = some true) (k3 : PySem.W.kitCls X.K (.type "type") (.type "tuple") = some false) (hst : X.stack = X.env :: X.outer) (hfr : X.env.frame = some X.env.locals)
    (hxe : ∀ v s, X.xe v s → False)
    (hdb : (fx == ("__debug__" : Str)) = false) (he : starEach (e :: es) X.env = (false, eval e X.env) :: starEach es X.env) (hpl : (backTo cpos (starEach es X.env)).any (·.1) = false)
    (hs : swapsWith (.Call (.Name fx p) (e :: es) [] cpos) none epos.line X.env = pure false) :
    PS X (.Try [.Expr (.Call (.Name fx p) (e :: es) [] cpos) epos] [.ExceptHandler (some (.Name x np)) (some n) (b₀ :: suite) hpos] [] [] pos) (tTry X.K Pc i sp (fun _ σ => σ) ta ts) := by
  intro pins s σ H D I h
  refine wpAny_Try_except (wpAny_execs_cons (wpAny_Expr_any ?_ I.quiet hs))
  exact xd4 F hr hgf hmf hkf hb ha hsu hN hi hloc hg hm hd k2 k3 hst hfr hxe hdb he hpl I h (fun v u H2 s2 rv I2 q => wpAny_execs_nil (wpAny_execs_nil ⟨σ, H2, I2, q⟩))
end
end Pv

namespace Pv
open PySem PySem.Spec PyProof.Rows L2 PySem.Calls
theorem RSt.unset {K : Fg} {H : Hp} {ρ : St3} {σ : L2.St} (i : Nat) (s : RSt K H ρ σ) : RSt K H (ρ.set i none) (σ.set i none) := by
  refine ⟨by simp [s.len], fun j e h => ?_⟩
  rw [zq1] at h
  split at h
  · cases h
  · next c =>
    obtain ⟨v, h1, r⟩ := s.at' j e h
    by_cases hj : i = j
    · exfalso
      apply c
      refine ⟨hj, ?_⟩
      rw [s.len, hj]
      exact (List.getElem?_eq_some_iff.mp h1).1
    · exact ⟨v, by rw [List.getElem?_set_ne hj]; exact h1, r⟩
theorem RelM.newF {K : Fg} {μ : Mu} {H : Hp} (m : RelM K μ H) {p : Addr} {o : HO} (h : H p = none) : RelM K μ (upd H p o) := m.newT h
section
variable {X : Cx} {k : Nat} {ps : List Str} {spx : XE3 → Sp3} {fx n x : Str} {i : Nat} {Pc : Addr} {e : Expr} {es : List Expr} {b₀ : Stmt} {suite : List Stmt} {p cpos np hpos pos epos : Pos} {ta : TA3} {ts : TS3} {ok : Str → Bool}
theorem wu6 {f : Addr} {va : TA} {tv : Addr → TS} {st : V → L2.St → L2.St} {st3 : D → St3 → St3} (hstp : ∀ {H : Hp} {ρ : St3} {σ : L2.St} {d : D} {v : V}, RSt X.K H ρ σ → RelD X.K H d v → RSt X.K H (st3 d ρ) (st v σ))
    (ra : RdA X.K va ta) (rt : ∀ ea, RdS X.K (tv ea) ts) (hok : ∀ c, ok c = true → ∃ C, PySem.W.nsIn X.K mainGlobals c = some (some (.ref C)) ∧ X.mg c = some (.ref C) ∧ PySem.W.kitCls X.K (.ref C) (.ref Pc) = some true) :
    RdS X.K (tTry X.K Pc i (zj7 X.K X.mg spx) st va tv) (try3 i spx st3 ok ta ts) := by
  intro σ H D ρ μ D3 s m h kd
  refine ra σ H _ ρ μ _ s m h fun ds μ1 vs H1 h1 k1 r1 m1 => ?_
  refine ⟨ds, μ1, _, _, r1, m1, h1, fun d μ2 v H2 h2 k2 r2 m2 => ?_, fun c C μ2 H2 hX hmc m2 => ?_⟩
  · exact kd.nx _ _ _ _ h2 (k1.trans k2) (hstp (s.mono (k1.trans k2)) r2) m2
  · obtain ⟨o1, o2⟩ := hX
    obtain ⟨C', z1, z2, z3⟩ := hok c o1
    rw [hmc] at z2
    cases z2
    refine ⟨C, rfl, z3, fun kp ea ob hea hob => ?_⟩
    have kn : Kp H2 (upd H2 ea (.frz ob (.own 0))) := Kp.new hea
    refine rt ea _ _ _ _ _ _ ((((s.mono (k1.trans kp)).mono kn)).set i (.exc wf0 hob z1)) (m2.newF hea) o2 ⟨fun ρ' μ' σ' H' q k' s' m' => ?_, fun _ _ _ _ q => False.elim q, fun _ _ _ _ q => False.elim q, fun _ _ _ _ q => False.elim q⟩
    exact kd.nx _ _ _ _ q (k1.trans (kp.trans (kn.trans k'))) (s'.unset i) m'
theorem xi5 (c : CalX X.prog X.w X.K X.mg X.base k fx ps spx) (hr : Room k X.A) (ha : RA X (e :: es) ta) (hsu : ∀ ea, RSs (mark X (.ref ea)) (b₀ :: suite) ts) (hN : X.N.Nodup)
    (hm : X.mg x = some (.ref Pc)) (k2 : PySem.W.kitCls X.K (.ref Pc) (.type "BaseException") = some true) (k3 : PySem.W.kitCls X.K (.type "type") (.type "tuple") = some false)
    (hok : ∀ c, ok c = true → ∃ C, PySem.W.nsIn X.K mainGlobals c = some (some (.ref C)) ∧ X.mg c = some (.ref C) ∧ PySem.W.kitCls X.K (.ref C) (.ref Pc) = some true)
    (hi : X.N[i]? = some n := by rfl) (hloc : X.env.scope.names.lookup n = some .local := by rfl) (hg : Gl X x := by rfl) (hgf : Gl X fx := by rfl) (hd : (x == ("__debug__" : Str)) = false := by decide)
    (hst : X.stack = X.env :: X.outer := by rfl) (hfr : X.env.frame = some X.env.locals := by rfl) (hxe : ∀ v s, X.xe v s → False := by intro _ _ h; exact h)
    (hdb : (fx == ("__debug__" : Str)) = false := by decide) (he : starEach (e :: es) X.env = (false, eval e X.env) :: starEach es X.env := by rfl) (hpl : (backTo cpos (starEach es X.env)).any (·.1) = false := by rfl)
    (hs : swapsWith (.Call (.Name fx p) (e :: es) [] cpos) none epos.line X.env = pure false := by rfl) :
    RS X (.Try [.Expr (.Call (.Name fx p) (e :: es) [] cpos) epos] [.ExceptHandler (some (.Name x np)) (some n) (b₀ :: suite) hpos] [] [] pos) (try3 i spx wy4 ok ta ts) := by
  obtain ⟨f, fd, F, hmf, hkf, hb⟩ := c
  obtain ⟨va, pa, ra⟩ := ha
  exact ⟨_, xl5 F hr hgf hmf hkf hb pa (ts := fun ea => (hsu ea).choose) (fun ea => (hsu ea).choose_spec.1) hN hi hloc hg hm hd k2 k3 hst hfr hxe hdb he hpl hs, wu6 (f := f) (fun s _ => s) ra (fun ea => (hsu ea).choose_spec.2) hok⟩
end
end Pv

namespace Pv
open PySem PySem.Spec PyProof.Rows L2 PySem.Calls
structure RoomM (k : Nat) (A : Around) : Prop where
  dp : A.depth + 3 * k + 5 < recursionLimit
  un : A.units + 16 * k + 200 < cLine
theorem RoomM.mono {j k : Nat} {A : Around} (r : RoomM k A) (h : j ≤ k) : RoomM j A := ⟨by have := r.dp; omega, by have := r.un; omega⟩
theorem RoomM.deeper {k : Nat} {A : Around} (r : RoomM (k + 1) A) (env : Env) : RoomM k (A.deeper env) :=
  ⟨by have := r.dp; show A.depth + 1 + 3 * k + 5 < _; omega, by have := r.un; show A.units + 3 + 16 * k + 200 < _; omega⟩
theorem RoomM.of {k : Nat} {A : Around} (r : Room k A) (e : Option Value) : RoomM k (A.mark e) := ⟨r.dp, r.un⟩
structure FnOkM (P : Program) (w : World) (K : PySem.W.Frag) (mg : Str → Option Value) (base : Heap) (CX : CXT) (k : Nat) (f : Addr) (fd : FuncData) (ps : List Str) (sp : Sp) : Prop where
  len : ∀ vs H Q E, sp vs H Q E → vs.length = ps.length
  run : ∀ (A : Around) (outer : List Env) (s : Shared) (H : Hp) (args : Args) (us : List Value) (vs : List V) (Q : VK) (E : XK), RoomM k A → Env0 P w K mg base A outer s H → BindsTo s fd args (ps.zip us) → Vals vs us → sp vs H Q E →
    codeAny (model P w) A (.call (.ref f) args) (CR CX outer P w H s Q E) s
noncomputable abbrev cxM (CX : CXT) (P : Program) (w : World) (K : PySem.W.Frag) (mg : Str → Option Value) (base : Heap) (N : List Str) (qual : Str) (scope : Scope) (f : Addr) (cd : Value) (A : Around) (outer : List Env) (s : Shared) (H : Hp) (E : XK) : Cx :=
  { cxOf CX P w K mg base N qual scope f cd A outer s H E with calm := false }
theorem xe3 {CX : CXT} {P : Program} {w : World} {K : PySem.W.Frag} {mg : Str → Option Value} {base : Heap} {N ps : List Str} {qual : Str} {scope : Scope} {f : Addr} {cd : Value} {A : Around} {outer : List Env} {s s1 : Shared} {H : Hp} {E : XK} {us : List Value} {vs : List V}
    (S : FnScope N ps scope) (e0 : Env0 P w K mg base A outer s H) (hl : vs.length = ps.length) (r : Vals vs us)
    (x : InCallC s s.heap.objs.size (bindL (envOfC qual scope s.heap.objs.size f cd).kindOf (ps.zip us) fun _ => none) (cellsFrom (s.heap.objs.size + 1) scope.names []) (bindC (envOfC qual scope s.heap.objs.size f cd).kindOf (ps.zip us) fun _ => none) s1) :
    Inv (cxM CX P w K mg base N qual scope f cd A outer s H E) [] (start N vs) H s1 := by
  have I := wz1 (CX := CX) (P := P) (w := w) (K := K) (mg := mg) (base := base) (E := E) (A := { A with handled := none }) (outer := outer) S rfl ⟨e0.frames, e0.mod, e0.bs, e0.bsz, e0.funs, e0.frf, e0.hok, e0.bare⟩ hl r x
  exact ⟨⟨I.ok.mod, I.ok.kind, I.ok.glob, I.ok.blt, I.ok.above, I.ok.inj, I.ok.has, I.ok.cab, (fun z => Bool.noConfusion z), Around.frames_deeper e0.frames, I.ok.stk, I.ok.exf, I.ok.bs, I.ok.bsz, I.ok.noex, I.ok.exfs, I.ok.funs, I.ok.frf⟩, I.os, I.bare, I.base, I.loc, I.cell, I.free, I.freeC, I.pin, I.hok, I.len⟩
theorem yn7 {CX : CXT} {P : Program} {w : World} {K : PySem.W.Frag} {mg : Str → Option Value} {base : Heap} {k : Nat} {f : Addr} {name qual : Str} {params : Arguments} {body : List Stmt} {scope : Scope} {dV kV doc pm cdv ct oc : Value} {an od : Option Addr}
    {osl : Array (Option Value)} {N ps : List Str} {sp : Sp} (lk : K.lookup f = some ⟨oc, od, .func (PySem.W.fnOf name qual params body scope dV kV doc pm an cdv ct), osl⟩) (hcd : PySem.W.codeIn K cdv qual = true) (S : FnScope N ps scope)
    (len : ∀ vs H Q E, sp vs H Q E → vs.length = ps.length)
    (hbody : ∀ (A : Around) (outer : List Env) (s : Shared) (H : Hp) (vs : List V) (Q : VK) (E : XK), RoomM k (A.deeper (envOfC qual scope s.heap.objs.size f cdv)) → sp vs H Q E →
      ∃ t, PSs (cxM CX P w K mg base N qual scope f cdv A outer s H E) body t ∧ t { nx := fun _ H' => Q .non H', rt := Q } (start N vs) H) :
    FnOkM P w K mg base CX (k + 1) f (PySem.W.fnOf name qual params body scope dV kV doc pm an cdv ct) ps sp := by
  refine ⟨len, fun A outer s H args us vs Q E hr e0 hb r hsp => ?_⟩
  have hl := len _ _ _ _ hsp
  have KX : K.In s.heap := e0.mod.kin.keeps fun b o e => (e0.bs b o e).1
  have lim : s.heap.NoLimit := e0.mod.nolimit.keeps fun b o e => (e0.bs b o e).1
  have hkind : ∀ y ∈ ps.zip us, scope.names.lookup y.1 = some .local ∨ (scope.names.lookup y.1 = some .cell ∧ ((cellsFrom (s.heap.objs.size + 1) scope.names []).lookup y.1).isSome = true) := fun ⟨n, v⟩ hy => by
    rcases S.par n (List.of_mem_zip hy).1 with q | q
    · exact .inl q
    · exact .inr ⟨q, PySem.W.cellsFrom_some _ _ _ (.inl q)⟩
  have hdep : A.depth < recursionLimit := by have := hr.dp; omega
  refine codeAny_call_function hdep (KX _ _ lk) rfl S.co S.gen rfl (PySem.W.codeRec_of KX hcd) (hb _ _ _ _ ?_)
  refine wpAny_newFunctionEnv_cells S.kind hkind fun env he s1 x => ?_
  subst he
  refine ⟨lim.keeps x.toInCall.keep, codeAny_func ?_⟩
  obtain ⟨t, ht, hq⟩ := hbody A outer s H vs Q E (hr.deeper _) hsp
  have I : Inv (cxM CX P w K mg base N qual scope f cdv A outer s H E) [] (start N vs) H s1 := xe3 S e0 hl r x
  refine wpAny_mono (ht [] s1 (start N vs) H _ I hq) (fun fl s' hs => ?_) fun e s' hs => hs
  have fin : ∀ {σ' : L2.St} {H' : Hp} {v : V} {u : Value}, Inv (cxM CX P w K mg base N qual scope f cdv A outer s H E) [] σ' H' s' → RelV v u → Q v H' → CE outer P w H s Q u s' :=
    fun {σ' H' v u} J rv q => ⟨v, H', J.os, J.bare, J.base, J.hok, rv, q⟩
  cases fl with
  | ret u =>
    obtain ⟨v, σ', H', J, rv, q⟩ := hs
    exact fin J rv q
  | next =>
    obtain ⟨σ', H', J, q⟩ := hs
    exact fin (v := V.non) (u := Value.none) J rfl q
  | brk =>
    obtain ⟨_, _, _, q⟩ := hs
    exact False.elim q
  | cont =>
    obtain ⟨_, _, _, q⟩ := hs
    exact False.elim q
noncomputable def CalM (P : Program) (w : World) (K : Fg) (mg : Str → Option Value) (base : Heap) (k : Nat) (x : Str) (ps : List Str) (sp : Sp3) : Prop :=
  ∃ f fd, FnOkM P w K mg base CX0 k f fd ps (lift K sp) ∧ mg x = some (.ref f) ∧ PySem.W.keepIn K (.ref f) = true ∧ Binds K fd ps []
theorem CalM.mono {P : Program} {w : World} {K : Fg} {mg : Str → Option Value} {base : Heap} {j k : Nat} {x : Str} {ps : List Str} {sp : Sp3} (c : CalM P w K mg base j x ps sp) (h : j ≤ k) : CalM P w K mg base k x ps sp := by
  obtain ⟨f, fd, F, r⟩ := c
  exact ⟨f, fd, ⟨F.len, fun A outer s H args us vs Q E hr => F.run A outer s H args us vs Q E (hr.mono h)⟩, r⟩
section
variable {X : Cx} {x : Str} {e : Expr} {es : List Expr} {p pos : Pos} {t : TA3}
theorem xg4 {k : Nat} {ps : List Str} {sp : Sp3} (c : CalM X.prog X.w X.K X.mg X.base k x ps sp) (hr : RoomM k X.A) (ha : RA X (e :: es) t) (hg : Gl X x := by rfl) (hdb : (x == ("__debug__" : Str)) = false := by decide)
    (he : starEach (e :: es) X.env = (false, eval e X.env) :: starEach es X.env := by rfl) (hpl : (backTo pos (starEach es X.env)).any (·.1) = false := by rfl) : RE X (.Call (.Name x p) (e :: es) [] pos) (call3 sp t) := by
  obtain ⟨f, fd, F, hm, hk, hb⟩ := c
  obtain ⟨va, pa, ra⟩ := ha
  refine ⟨xj6 (lift X.K sp) [] E0 va, fun pins s σ H Q I h => ?_, fun σ H Q ρ μ Q3 s m h k => ra σ H _ ρ μ _ s m h fun ds μ1 vs H1 h1 k1 r1 m1 => ?_⟩
  · refine wpAny_Call_Name_kw (wr0 I hg hm ?_ hdb)
    refine PySem.W.callWith_K (h₀ := X.base) I.ok.mod.kin hk (thn (pa pos pins s σ H _ I h) fun us s1 ⟨vs, H1, I1, r, q⟩ => ⟨I1.kIn, ?_⟩) he hpl
    dsimp only at q
    rw [List.append_nil] at q
    have hl : (us ++ []).length = ps.length := by rw [List.append_nil, ← r.length]; exact F.len _ _ _ _ q
    have hbb := hb s1 us I1.kIn hl
    rw [List.append_nil] at hbb
    refine wpAny_call (codeAny_mono (F.run X.A X.stack s1 H1 ⟨us, []⟩ us vs Q E0 hr I1.env0 hbb r q) fun rr s' hq => ?_)
    cases rr with
    | error ex => exact False.elim hq
    | ok fl =>
      cases fl with
      | ret u => exact I1.after hq
      | next => exact False.elim hq
      | brk => exact False.elim hq
      | cont => exact False.elim hq
  · rw [List.append_nil]
    exact ⟨ds, μ1, Q3, r1, m1, h1, k.after k1⟩
end
section
variable {P : Program} {w : World} {K : Fg} {mg : Str → Option Value} {base : Heap}
theorem xv5 {x : Str} {st : Stmt} {f : Addr} {fd : FuncData} {N ps : List Str} {k : Nat} {sp : Sp3} {t : TS3} (F : Fun K x x st f fd) (hm : mg x = some (.ref f)) (hb : Binds K fd ps []) (S : FnScope N ps (za0 st))
    (len : ∀ ds μ Q, sp ds μ Q → ds.length = ps.length)
    (body : ∀ (cdv : Value) (A : Around) (outer : List Env) (s : Shared) (H : Hp) (E : XK), RoomM k (A.deeper (envOfC x (za0 st) s.heap.objs.size f cdv)) → RSs (cxM CX0 P w K mg base N x (za0 st) f cdv A outer s H E).nox (yc0 st) t)
    (rd : ∀ ds μ Q, sp ds μ Q → t { nx := fun _ μ' => Q .non μ', rt := Q } (start3 N ds) μ) : CalM P w K mg base (k + 1) x ps sp := by
  refine ⟨f, fd, ?_, hm, F.kp, hb⟩
  obtain ⟨oc, od, kV, doc, pm, an, cdv, ct, osl, rfl, lk, hcd⟩ := F.ex
  refine yn7 lk hcd S (fun vs H Q E h => ?_) fun A outer s H vs Q E hr h => ?_
  · obtain ⟨ds, μ, Q3, r, m, q, ks⟩ := h
    rw [← r.length]; exact len _ _ _ q
  · obtain ⟨ds, μ, Q3, r, m, q, ks⟩ := h
    obtain ⟨tv, p, rt⟩ := body cdv A outer s H E hr
    exact ⟨tv, p.nox, rt _ H _ _ μ _ (RSt.start N r) m (rd ds μ Q3 q) ⟨fun ρ μ' σ H' h' k' s' m' => ks _ _ _ _ h' k' .non m', fun ρ μ' σ H' h' => False.elim h', fun ρ μ' σ H' h' => False.elim h', ks⟩⟩
end
end Pv

namespace Pv
open PySem PySem.Spec PyProof.Rows L2 PySem.Calls
theorem xg7 {K : Fg} {h : Heap} {mg : Str → Option Value} {x : Str} {C : Addr} {bs : List Value} {ni : String} (Z : K.In h) (G : h.Ns mainGlobals mg) (e : PySem.W.nsIn K mainGlobals x = some (some (.ref C))) (w : PySem.W.excIn K C bs ni = true) : OwnCls x C bs ni mg h := by
  refine ⟨PySem.W.mg_of Z G e, ?_⟩
  unfold PySem.W.excIn at w
  split at w
  case h_2 => cases w
  case h_1 d1 c1 s1 ho =>
    split at w
    case h_2 => cases w
    case h_1 C2 b1 z0 z1 z2 z3 id z5 hm hs =>
      simp only [Bool.and_eq_true, beq_iff_eq, Bool.not_eq_true'] at w
      obtain ⟨⟨⟨⟨⟨w1, w2⟩, w3⟩, w4⟩, w5⟩, w6⟩ := w
      subst w1 w2
      cases c1
      dsimp only at hm w3 w5 w6
      subst hm w3
      have es : s1 = #[z0, z1, z2, z3, some (.builtin id), z5] := by cases s1; simp only at hs; rw [hs]
      rw [es] at ho
      exact ⟨b1, _, _, _, _, _, _, _, _, _, d1, z0, z1, z2, z3, z5, _, Z _ _ ho, .of_isNs (PySem.W.isNs_of_in Z w5), PySem.W.nsMap_none_of_in Z w5 w6, PySem.W.tail_of_in Z w4⟩
theorem yx1 {X : Cx} {k : Nat} {ps : List Str} {spx : XE3 → Sp3} {x : Str} {e : Expr} {es : List Expr} {p pos : Pos} {t : TA3} (c : CalX X.prog X.w X.K X.mg X.base k x ps spx) (hr : Room k X.A)
    (ha : RA X (e :: es) t) (hg : Gl X x := by rfl) (hdb : (x == ("__debug__" : Str)) = false := by decide)
    (he : starEach (e :: es) X.env = (false, eval e X.env) :: starEach es X.env := by rfl) (hpl : (backTo pos (starEach es X.env)).any (·.1) = false := by rfl) :
    RE X (.Call (.Name x p) (e :: es) [] pos) (call3 (spx NX) t) := by
  obtain ⟨g, fd, F, hm, hk, hb⟩ := c
  obtain ⟨va, pa, ra⟩ := ha
  have ps : wd2 (CXn X.prog X.w) X (fun _ _ _ => False) := fun pins σ H s e s' I h => by
    obtain ⟨_, _, _, _, _, _, _, _, _, _, _, _, _, _, hE⟩ := h
    exact hE.elim
  refine ⟨_, yh2 F hr hg hm hk hb .nil ps pa hdb he hpl, fun σ H Q ρ μ Q3 s m h k => ra σ H _ ρ μ _ s m h fun ds μ1 vs H1 h1 k1 r1 m1 => ?_⟩
  rw [List.append_nil]
  exact ⟨ds, μ1, Q3, NX, r1, m1, h1, k.after k1, fun _ _ _ _ h => False.elim h⟩
section
variable {K : Fg} {C : Addr} {cd : ClassData} {t c : Value} {b : Bool} {T : String}
theorem xq0 (cl : PySem.W.clsIn K C = some cd) (tc : PySem.W.typeIn K (.ref C) = some (.type "type")) (sb : PySem.W.subIn K t (.ref C) = some b) : PySem.W.kitCls K t (.ref C) = some b := by
  unfold PySem.W.kitCls
  dsimp only
  rw [cl, tc, if_pos (by simp), sb]
theorem xj2 (hm : PySem.W.kitMeta T = true) (sb : PySem.W.subIn K t (.type T) = some b) : PySem.W.kitCls K t (.type T) = some b := by
  unfold PySem.W.kitCls
  dsimp only
  rw [if_pos hm, sb]
theorem zw0 (ne : (t == c) = false) (h : PySem.W.kitCls K t c = some b) : PySem.W.kitOne K t c = some b := by
  unfold PySem.W.kitOne
  rw [if_neg (by rw [ne]; decide), h]
theorem zs3 : PySem.W.kitOne K t t = some true := by
  unfold PySem.W.kitOne
  rw [if_pos (by simp)]
end
theorem wt1 : bootBuiltins "ValueError" = some (.type "ValueError") := by decide +kernel
end Pv

namespace Ms
open PySem.W PyProof.Rows
noncomputable def run (lt : Nat → Nat → Bool) {α : Type} : KasT α → α
  | .ret a => a
  | .ask i j k => run lt (k (lt i j))
theorem zp0 (lt : Nat → Nat → Bool) {α β : Type} (f : α → KasT β) : ∀ t : KasT α, run lt (t.bind f) = run lt (f (run lt t))
  | .ret _ => rfl
  | .ask i j k => zp0 lt f (k (lt i j))
structure Ord (lt : Nat → Nat → Bool) : Prop where
  ir : ∀ a, lt a a = false
  tr : ∀ a b c, lt a b = true → lt b c = true → lt a c = true
  ng : ∀ a b c, lt a c = true → lt a b = true ∨ lt b c = true
section
variable {lt : Nat → Nat → Bool} (O : Ord lt)
noncomputable abbrev at' (p : Array Nat) (i : Nat) : Nat := p.getD i 0
noncomputable def le (lt : Nat → Nat → Bool) (a b : Nat) : Prop := lt b a = false
include O
theorem le_rf (a : Nat) : le lt a a := O.ir a
theorem wh1 {a b c : Nat} (h : le lt a b) (k : le lt b c) : le lt a c := by
  unfold le at *
  cases e : lt c a with
  | false => rfl
  | true =>
    rcases O.ng c b a e with h1 | h1
    · rw [k] at h1; cases h1
    · rw [h] at h1; cases h1
theorem xs3 {a b : Nat} (h : lt a b = true) : le lt a b := by
  unfold le
  cases e : lt b a with
  | false => rfl
  | true => have := O.tr a b a h e; rw [O.ir] at this; cases this
omit O
noncomputable def Up (lt : Nat → Nat → Bool) (p : Array Nat) (n : Nat) : Prop := ∀ a b, a ≤ b → b < n → le lt (at' p a) (at' p b)
noncomputable def Dn (lt : Nat → Nat → Bool) (p : Array Nat) (n : Nat) : Prop := ∀ a b, a ≤ b → b < n → le lt (at' p b) (at' p a)
theorem xb4 {p q : Array Nat} {i j : Nat} (h : p[i]? = q[j]?) : at' p i = at' q j := by
  show p.getD i 0 = q.getD j 0
  rw [Array.getD_eq_getD_getElem?, Array.getD_eq_getD_getElem?, h]
theorem yg1 {p : Array Nat} {i j : Nat} (hj : j ≤ p.size) (k : Nat) : at' (kas_rev p i j) k = if i ≤ k ∧ k < j then at' p (i + j - 1 - k) else at' p k := by
  have h := getElem?_mirror_all (xs := p) (i := i) hj k
  split
  · next c => rw [if_pos c] at h; exact xb4 h
  · next c => rw [if_neg c] at h; exact xb4 h
theorem wc5 {p : Array Nat} {k l : Nat} (hk : k < p.size) (hl : l ≤ k) (i : Nat) : at' (bubble p k (k - l)) i = if i = l then at' p k else if l < i ∧ i ≤ k then at' p (i - 1) else at' p i := by
  have h := getElem?_bubble (xs := p) hk (k - l) (by omega) i
  rw [show k - (k - l) = l by omega] at h
  by_cases c : i = l
  · rw [if_pos c] at h ⊢; exact xb4 h
  · rw [if_neg c] at h ⊢
    by_cases c2 : l < i ∧ i ≤ k
    · rw [if_pos c2] at h ⊢; exact xb4 h
    · rw [if_neg c2] at h ⊢; exact xb4 h
include O
theorem xc6 (p : Array Nat) : Up lt p 1 := fun a b h1 h2 => by
  have e1 : a = 0 := by omega
  have e2 : b = 0 := by omega
  subst e1 e2
  exact le_rf O _
theorem wd5 {p : Array Nat} {n : Nat} (h : Up lt p n) (h1 : 1 ≤ n) (k : le lt (at' p (n - 1)) (at' p n)) : Up lt p (n + 1) := fun a b hab hb => by
  by_cases e : b = n
  · subst e
    by_cases e2 : a = b
    · subst e2; exact le_rf O _
    · exact wh1 O (h a (b - 1) (by omega) (by omega)) k
  · exact h a b hab (by omega)
theorem we1 {p : Array Nat} {n : Nat} (h : Dn lt p n) (h1 : 1 ≤ n) (k : le lt (at' p n) (at' p (n - 1))) : Dn lt p (n + 1) := fun a b hab hb => by
  by_cases e : b = n
  · subst e
    by_cases e2 : a = b
    · subst e2; exact le_rf O _
    · exact wh1 O k (h a (b - 1) (by omega) (by omega))
  · exact h a b hab (by omega)
theorem zb4 (p : Array Nat) : ∀ (f n : Nat), 1 ≤ n → Up lt p n → n ≤ run lt (kas_asc p f n) ∧ run lt (kas_asc p f n) ≤ n + f ∧ Up lt p (run lt (kas_asc p f n)) ∧ (run lt (kas_asc p f n) < n + f → lt (at' p (run lt (kas_asc p f n))) (at' p (run lt (kas_asc p f n) - 1)) = true)
  | 0, n, h1, h => ⟨Nat.le_refl _, Nat.le_refl _, h, fun z => absurd z (Nat.lt_irrefl _)⟩
  | f + 1, n, h1, h => by
    cases e : lt (at' p n) (at' p (n - 1)) with
    | true =>
      have r : run lt (kas_asc p (f + 1) n) = n := by
        show run lt (if lt (at' p n) (at' p (n - 1)) = true then .ret n else kas_asc p f (n + 1)) = n
        rw [e]; rfl
      rw [r]
      exact ⟨Nat.le_refl _, by omega, h, fun _ => e⟩
    | false =>
      have r : run lt (kas_asc p (f + 1) n) = run lt (kas_asc p f (n + 1)) := by
        show run lt (if lt (at' p n) (at' p (n - 1)) = true then .ret n else kas_asc p f (n + 1)) = _
        rw [e]; rfl
      rw [r]
      obtain ⟨a1, a2, a3, a4⟩ := zb4 p f (n + 1) (by omega) (wd5 O h h1 e)
      exact ⟨by omega, by omega, a3, fun z => a4 (by omega)⟩
omit O
noncomputable def Eqs (lt : Nat → Nat → Bool) (p : Array Nat) (n q : Nat) : Prop := ∀ a b, n - (q + 1) ≤ a → a < n → n - (q + 1) ≤ b → b < n → le lt (at' p a) (at' p b)
include O
theorem wl3 {p : Array Nat} {n q m : Nat} (hn : n ≤ p.size) (hq : q + 1 ≤ n) (h : Eqs lt p n q) (k : Nat) : le lt (at' (kas_rev p (n - (q + 1)) n) k) (at' p k) ∧ le lt (at' p k) (at' (kas_rev p (n - (q + 1)) n) k) := by
  rw [yg1 hn]
  split
  · next c => exact ⟨h _ _ (by omega) (by omega) c.1 c.2, h _ _ c.1 c.2 (by omega) (by omega)⟩
  · exact ⟨le_rf O _, le_rf O _⟩
theorem zw3 {p p' : Array Nat} {n : Nat} (h : Dn lt p n) (e : ∀ k, le lt (at' p' k) (at' p k) ∧ le lt (at' p k) (at' p' k)) : Dn lt p' n := fun a b hab hb =>
  wh1 O (e b).1 (wh1 O (h a b hab hb) (e a).2)
omit O
structure DOk (lt : Nat → Nat → Bool) (p0 : Array Nat) (N : Nat) (r : Array Nat × Nat × Nat) (n : Nat) : Prop where
  perm : r.1.Perm p0
  lo : n ≤ r.2.1
  hi : r.2.1 ≤ N
  dn : Dn lt r.1 r.2.1
  q : r.2.2 + 1 ≤ r.2.1
  eqs : Eqs lt r.1 r.2.1 r.2.2
include O
theorem zs1 (p0 : Array Nat) : ∀ (f : Nat) (p : Array Nat) (n q : Nat), p.Perm p0 → n + f ≤ p0.size → Dn lt p n → q + 1 ≤ n → Eqs lt p n q → DOk lt p0 (n + f) (run lt (kas_desc f p n q)) n
  | 0, p, n, q, hp, hs, h, hq, he => ⟨hp, Nat.le_refl _, Nat.le_refl _, h, hq, he⟩
  | f + 1, p, n, q, hp, hs, h, hq, he => by
    have hsz : p.size = p0.size := hp.size_eq
    cases e : lt (at' p n) (at' p (n - 1)) with
    | true =>
      have one : ∀ p' : Array Nat, Eqs lt p' (n + 1) 0 := fun p' a b a1 a2 b1 b2 => by
        have e1 : a = n := by omega
        have e2 : b = n := by omega
        subst e1 e2; exact le_rf O _
      by_cases c : q > 0
      · have r : run lt (kas_desc (f + 1) p n q) = run lt (kas_desc f (kas_rev p (n - (q + 1)) n) (n + 1) 0) := by
          show run lt (if lt (at' p n) (at' p (n - 1)) = true then (if q > 0 then kas_desc f (kas_rev p (n - (q + 1)) n) (n + 1) 0 else kas_desc f p (n + 1) 0) else _) = _
          rw [e, if_pos rfl, if_pos c]
        rw [r]
        have lk := wl3 O (m := 0) (by omega) hq he
        have d := zs1 p0 f (kas_rev p (n - (q + 1)) n) (n + 1) 0 ((mirror_perm _ _ _ _).trans hp) (by omega) (zw3 O (we1 O h (by omega) (xs3 O e)) lk) (by omega) (one _)
        exact ⟨d.perm, by have := d.lo; omega, by have := d.hi; omega, d.dn, d.q, d.eqs⟩
      · have r : run lt (kas_desc (f + 1) p n q) = run lt (kas_desc f p (n + 1) 0) := by
          show run lt (if lt (at' p n) (at' p (n - 1)) = true then (if q > 0 then kas_desc f (kas_rev p (n - (q + 1)) n) (n + 1) 0 else kas_desc f p (n + 1) 0) else _) = _
          rw [e, if_pos rfl, if_neg c]
        rw [r]
        have d := zs1 p0 f p (n + 1) 0 hp (by omega) (we1 O h (by omega) (xs3 O e)) (by omega) (one _)
        exact ⟨d.perm, by have := d.lo; omega, by have := d.hi; omega, d.dn, d.q, d.eqs⟩
    | false =>
      cases e2 : lt (at' p (n - 1)) (at' p n) with
      | true =>
        have r : run lt (kas_desc (f + 1) p n q) = (p, n, q) := by
          show run lt (if lt (at' p n) (at' p (n - 1)) = true then _ else (KasT.ask (at' p (n - 1)) (at' p n) fun d => if d = true then .ret (p, n, q) else kas_desc f p (n + 1) (q + 1))) = _
          rw [e, if_neg (by decide)]
          show run lt (if lt (at' p (n - 1)) (at' p n) = true then .ret (p, n, q) else kas_desc f p (n + 1) (q + 1)) = _
          rw [e2]; rfl
        rw [r]
        exact ⟨hp, Nat.le_refl _, by show n ≤ n + (f + 1); omega, h, hq, he⟩
      | false =>
        have r : run lt (kas_desc (f + 1) p n q) = run lt (kas_desc f p (n + 1) (q + 1)) := by
          show run lt (if lt (at' p n) (at' p (n - 1)) = true then _ else (KasT.ask (at' p (n - 1)) (at' p n) fun d => if d = true then .ret (p, n, q) else kas_desc f p (n + 1) (q + 1))) = _
          rw [e, if_neg (by decide)]
          show run lt (if lt (at' p (n - 1)) (at' p n) = true then .ret (p, n, q) else kas_desc f p (n + 1) (q + 1)) = _
          rw [e2, if_neg (by decide)]
        rw [r]
        have he' : Eqs lt p (n + 1) (q + 1) := fun a b a1 a2 b1 b2 => by
          by_cases ca : a = n
          · subst ca
            by_cases cb : b = a
            · subst cb; exact le_rf O _
            · exact wh1 O e2 (he (a - 1) b (by omega) (by omega) (by omega) (by omega))
          · by_cases cb : b = n
            · subst cb; exact wh1 O (he a (b - 1) (by omega) (by omega) (by omega) (by omega)) e
            · exact he a b (by omega) (by omega) (by omega) (by omega)
        have d := zs1 p0 f p (n + 1) (q + 1) hp (by omega) (we1 O h (by omega) e2) (by omega) he'
        exact ⟨d.perm, by have := d.lo; omega, by have := d.hi; omega, d.dn, d.q, d.eqs⟩
omit O
structure ROk (lt : Nat → Nat → Bool) (p0 : Array Nat) (N : Nat) (r : Nat × Array Nat) : Prop where
  perm : r.2.Perm p0
  lo : 1 ≤ r.1
  hi : r.1 ≤ N
  up : Up lt r.2 r.1
theorem wo7 {p : Array Nat} {n : Nat} (hn : n ≤ p.size) (h : Dn lt p n) : Up lt (kas_rev p 0 n) n := fun a b hab hb => by
  rw [yg1 hn, yg1 hn, if_pos ⟨by omega, by omega⟩, if_pos ⟨by omega, by omega⟩]
  exact h _ _ (by omega) (by omega)
include O
theorem wm2 {p0 p : Array Nat} {n N : Nat} (hp : p.Perm p0) (hN : N ≤ p0.size) (h1 : 1 ≤ n) (hn : n ≤ N) (h : Dn lt p n) : ROk lt p0 N (run lt (kas_tail3 n N p)) := by
  have hsz : p.size = p0.size := hp.size_eq
  have u := wo7 (by omega) h
  unfold kas_tail3
  rw [zp0]
  obtain ⟨a1, a2, a3, _⟩ := zb4 O (kas_rev p 0 n) (N - n) n h1 u
  exact ⟨(mirror_perm _ _ _ _).trans hp, by show 1 ≤ run lt _; omega, by show run lt _ ≤ N; omega, a3⟩
theorem xf1 {p0 p : Array Nat} {n N : Nat} (hp : p.Perm p0) (hN : N ≤ p0.size) (hn : n + 1 ≤ N) (h : Dn lt p (n + 1)) : ROk lt p0 N (run lt (kas_descPart n N p)) := by
  have hsz : p.size = p0.size := hp.size_eq
  unfold kas_descPart
  rw [zp0]
  have one : Eqs lt p (n + 1) 0 := fun a b a1 a2 b1 b2 => by
    have e1 : a = n := by omega
    have e2 : b = n := by omega
    subst e1 e2; exact le_rf O _
  have d := zs1 O p0 (N - (n + 1)) p (n + 1) 0 hp (by omega) h (by omega) one
  generalize run lt (kas_desc (N - (n + 1)) p (n + 1) 0) = r at d
  obtain ⟨p', n', q'⟩ := r
  have d1 := d.lo
  have d2 := d.hi
  have d3 := d.q
  dsimp only at d1 d2 d3
  have hs' : p'.size = p0.size := d.perm.size_eq
  show ROk lt p0 N (run lt (if q' > 0 then kas_tail3 n' N (kas_rev p' (n' - (q' + 1)) n') else kas_tail3 n' N p'))
  split
  · have lk := wl3 O (p := p') (n := n') (q := q') (m := 0) (by omega) d3 d.eqs
    exact wm2 O ((mirror_perm _ _ _ _).trans d.perm) hN (by omega) (by omega) (zw3 O d.dn lk)
  · exact wm2 O d.perm hN (by omega) (by omega) d.dn
theorem xp4 {p : Array Nat} {N : Nat} (hN : N ≤ p.size) (h1 : 1 ≤ N) : ROk lt p N (run lt (kas_count N p)) := by
  unfold kas_count
  rw [zp0]
  obtain ⟨a1, a2, a3, a4⟩ := zb4 O p (N - 1) 1 (Nat.le_refl _) (xc6 O p)
  generalize run lt (kas_asc p (N - 1) 1) = n at a1 a2 a3 a4
  by_cases c : n = N
  · rw [if_pos (by rw [c]; exact beq_self_eq_true _)]
    exact ⟨Array.Perm.refl _, by show 1 ≤ n; omega, by show n ≤ N; omega, a3⟩
  · rw [if_neg (by simpa using c)]
    have lt1 := a4 (by omega)
    by_cases c2 : n > 1
    · rw [if_pos c2]
      show ROk lt p N (run lt (if lt (at' p 0) (at' p (n - 1)) = true then .ret (n, p) else kas_descPart n N (kas_rev p 0 n)))
      cases e : lt (at' p 0) (at' p (n - 1)) with
      | true =>
        rw [if_pos rfl]
        exact ⟨Array.Perm.refl _, by show 1 ≤ n; omega, by show n ≤ N; omega, a3⟩
      | false =>
        rw [if_neg (by decide)]
        have eq : ∀ a b, a < n → b < n → le lt (at' p a) (at' p b) := fun a b ha hb => wh1 O (a3 a (n - 1) (by omega) (by omega)) (wh1 O e (a3 0 b (by omega) hb))
        refine xf1 O (mirror_perm _ _ _ _) hN (by omega) ?_
        have d0 : Dn lt (kas_rev p 0 n) n := fun a b hab hb => by
          rw [yg1 (by omega), yg1 (by omega), if_pos ⟨by omega, by omega⟩, if_pos ⟨by omega, by omega⟩]
          exact eq _ _ (by omega) (by omega)
        refine we1 O d0 (by omega) ?_
        rw [yg1 (by omega), yg1 (by omega), if_neg (by omega), if_pos ⟨by omega, by omega⟩]
        exact wh1 O (xs3 O lt1) (eq _ _ (by omega) (by omega))
    · rw [if_neg c2]
      have e1 : n = 1 := by omega
      subst e1
      refine xf1 O (Array.Perm.refl _) hN (by omega) ?_
      have d0 : Dn lt p 1 := fun a b h1 h2 => by
        have e1 : a = 0 := by omega
        have e2 : b = 0 := by omega
        subst e1 e2; exact le_rf O _
      exact we1 O d0 (Nat.le_refl _) (xs3 O lt1)
theorem yo1 {p : Array Nat} {k : Nat} (h : Up lt p k) : ∀ (f l r : Nat), l ≤ r → r ≤ k → r - l ≤ f → (∀ a, a < l → le lt (at' p a) (at' p k)) → (∀ b, r ≤ b → b < k → lt (at' p k) (at' p b) = true) →
    run lt (kas_place p k f l r) ≤ k ∧ (∀ a, a < run lt (kas_place p k f l r) → le lt (at' p a) (at' p k)) ∧ ∀ b, run lt (kas_place p k f l r) ≤ b → b < k → lt (at' p k) (at' p b) = true
  | 0, l, r, hlr, hrk, hf, h1, h2 => ⟨by show l ≤ k; omega, h1, fun b hb1 hb2 => h2 b (by have : l ≤ b := hb1; omega) hb2⟩
  | f + 1, l, r, hlr, hrk, hf, h1, h2 => by
    by_cases c : l ≥ r
    · have e : run lt (kas_place p k (f + 1) l r) = l := by
        show run lt (if l ≥ r then .ret l else _) = l
        rw [if_pos c]; rfl
      rw [e]
      exact ⟨by omega, h1, fun b hb1 hb2 => h2 b (by omega) hb2⟩
    · cases e : lt (at' p k) (at' p ((l + r) / 2)) with
      | true =>
        have e2 : run lt (kas_place p k (f + 1) l r) = run lt (kas_place p k f l ((l + r) / 2)) := by
          show run lt (if l ≥ r then .ret l else .ask (at' p k) (at' p ((l + r) / 2)) fun c => if c = true then kas_place p k f l ((l + r) / 2) else kas_place p k f ((l + r) / 2 + 1) r) = _
          rw [if_neg c]
          show run lt (if lt (at' p k) (at' p ((l + r) / 2)) = true then _ else _) = _
          rw [e, if_pos rfl]
        rw [e2]
        refine yo1 h f l ((l + r) / 2) (by omega) (by omega) (by omega) h1 fun b hb1 hb2 => ?_
        have z := h ((l + r) / 2) b hb1 hb2
        rcases O.ng (at' p k) (at' p b) (at' p ((l + r) / 2)) e with y | y
        · exact y
        · unfold le at z; rw [z] at y; cases y
      | false =>
        have e2 : run lt (kas_place p k (f + 1) l r) = run lt (kas_place p k f ((l + r) / 2 + 1) r) := by
          show run lt (if l ≥ r then .ret l else .ask (at' p k) (at' p ((l + r) / 2)) fun c => if c = true then kas_place p k f l ((l + r) / 2) else kas_place p k f ((l + r) / 2 + 1) r) = _
          rw [if_neg c]
          show run lt (if lt (at' p k) (at' p ((l + r) / 2)) = true then _ else _) = _
          rw [e, if_neg (by decide)]
        rw [e2]
        exact yo1 h f ((l + r) / 2 + 1) r (by omega) hrk (by omega) (fun a ha => wh1 O (h a ((l + r) / 2) (by omega) (by omega)) e) h2
theorem xc5 {p0 : Array Nat} : ∀ (f : Nat) (p : Array Nat) (k : Nat), p.Perm p0 → 1 ≤ k → k + f ≤ p0.size → Up lt p k → (run lt (kas_bin f p k)).Perm p0 ∧ Up lt (run lt (kas_bin f p k)) (k + f)
  | 0, p, k, hp, h1, hs, h => ⟨hp, h⟩
  | f + 1, p, k, hp, h1, hs, h => by
    have hsz : p.size = p0.size := hp.size_eq
    have e : run lt (kas_bin (f + 1) p k) = run lt (kas_bin f (bubble p k (k - run lt (kas_place p k k 0 k))) (k + 1)) := by
      show run lt ((kas_place p k k 0 k).bind fun l => kas_bin f (bubble p k (k - l)) (k + 1)) = _
      rw [zp0]
    rw [e]
    obtain ⟨b1, b2, b3⟩ := yo1 O h k 0 k (by omega) (Nat.le_refl _) (by omega) (fun a ha => absurd ha (Nat.not_lt_zero _)) (fun b hb1 hb2 => by omega)
    generalize run lt (kas_place p k k 0 k) = l at b1 b2 b3
    have u : Up lt (bubble p k (k - l)) (k + 1) := fun a b hab hb => by
      rw [wc5 (by omega) b1, wc5 (by omega) b1]
      by_cases ca : a = l
      · rw [if_pos ca]
        by_cases cb : b = l
        · rw [if_pos cb]; exact le_rf O _
        · rw [if_neg cb, if_pos ⟨by omega, by omega⟩]; exact xs3 O (b3 _ (by omega) (by omega))
      · rw [if_neg ca]
        by_cases cb : b = l
        · rw [if_pos cb, if_neg (by omega)]; exact b2 _ (by omega)
        · rw [if_neg cb]
          by_cases ca2 : l < a ∧ a ≤ k
          · rw [if_pos ca2, if_pos ⟨by omega, by omega⟩]; exact h _ _ (by omega) (by omega)
          · rw [if_neg ca2]
            by_cases cb2 : l < b ∧ b ≤ k
            · rw [if_pos cb2]; exact h _ _ (by omega) (by omega)
            · rw [if_neg cb2]; exact h _ _ (by omega) (by omega)
    have z := xc5 f (bubble p k (k - l)) (k + 1) ((bubble_perm _ _ _).trans hp) (by omega) (by omega) u
    rw [show k + 1 + f = k + (f + 1) by omega] at z
    exact z
theorem sort_ok {n : Nat} (hn : 1 ≤ n) : (run lt (kas_sort n)).Perm (List.toArray (List.range n)) ∧ Up lt (run lt (kas_sort n)) n := by
  have hs : (List.toArray (List.range n)).size = n := by simp
  unfold kas_sort
  rw [zp0]
  have c := xp4 O (p := List.toArray (List.range n)) (N := n) (by omega) hn
  generalize run lt (kas_count n (List.toArray (List.range n))) = r at c
  obtain ⟨m, p⟩ := r
  have c1 := c.lo
  have c2 := c.hi
  dsimp only at c1 c2
  show (run lt (if m < n then kas_bin (n - max m 1) p (max m 1) else .ret p)).Perm _ ∧ Up lt (run lt (if m < n then kas_bin (n - max m 1) p (max m 1) else .ret p)) n
  rw [show max m 1 = m by omega]
  by_cases e : m < n
  · rw [if_pos e]
    have z := xc5 O (n - m) p m c.perm c1 (by omega) c.up
    rw [show m + (n - m) = n by omega] at z
    exact z
  · rw [if_neg e]
    have e2 : m = n := by omega
    subst e2
    exact ⟨c.perm, c.up⟩
end
noncomputable def Bd (N : Nat) {α : Type} (P : α → Prop) : KasT α → Prop
  | .ret a => P a
  | .ask i j k => i < N ∧ j < N ∧ ∀ b, Bd N P (k b)
theorem Bd.bind {N : Nat} {α β : Type} {P : α → Prop} {R : β → Prop} {f : α → KasT β} (hf : ∀ a, P a → Bd N R (f a)) : ∀ t : KasT α, Bd N P t → Bd N R (t.bind f)
  | .ret a, h => hf a h
  | .ask i j k, h => ⟨h.1, h.2.1, fun b => Bd.bind hf (k b) (h.2.2 b)⟩
theorem Bd.wp {N : Nat} {lt : Nat → Nat → Bool} {cmp : Nat → Nat → (Bool → PySem.Shared → Prop) → PySem.Shared → Prop} {s : PySem.Shared} (hc : ∀ i j C, i < N → j < N → C (lt i j) s → cmp i j C s) {α : Type} {P : α → Prop} {Q : α → PySem.Shared → Prop} :
    ∀ t : KasT α, Bd N P t → Q (run lt t) s → t.kasWp cmp Q s
  | .ret _, _, q => q
  | .ask i j k, h, q => hc i j _ h.1 h.2.1 (Bd.wp hc (k (lt i j)) (h.2.2 _) q)
section
variable {N : Nat}
theorem wq0 {p : Array Nat} (hN : 1 ≤ N) (hp : p.Perm (List.toArray (List.range N))) (k : Nat) : at' p k < N := by
  show p.getD k 0 < N
  rw [Array.getD_eq_getD_getElem?]
  cases e : p[k]? with
  | none => exact hN
  | some x =>
    have h1 : x ∈ p := Array.mem_of_getElem? e
    have h2 : x ∈ List.toArray (List.range N) := hp.mem_iff.mp h1
    simpa using h2
theorem za4 (hN : 1 ≤ N) {p : Array Nat} (hp : p.Perm (List.toArray (List.range N))) : ∀ f n, Bd N (fun _ => True) (kas_asc p f n)
  | 0, _ => trivial
  | f + 1, n => ⟨wq0 hN hp _, wq0 hN hp _, fun b => by
    show Bd N _ (if b = true then .ret n else kas_asc p f (n + 1))
    split
    · trivial
    · exact za4 hN hp f (n + 1)⟩
theorem yu1 (hN : 1 ≤ N) : ∀ f (p : Array Nat) n q, p.Perm (List.toArray (List.range N)) → Bd N (fun r => r.1.Perm (List.toArray (List.range N))) (kas_desc f p n q)
  | 0, _, _, _, hp => hp
  | f + 1, p, n, q, hp => ⟨wq0 hN hp _, wq0 hN hp _, fun b => by
    show Bd N _ (if b = true then (if q > 0 then kas_desc f (kas_rev p (n - (q + 1)) n) (n + 1) 0 else kas_desc f p (n + 1) 0) else _)
    split
    · split
      · exact yu1 hN f _ _ _ ((mirror_perm _ _ _ _).trans hp)
      · exact yu1 hN f _ _ _ hp
    · refine ⟨wq0 hN hp _, wq0 hN hp _, fun d => ?_⟩
      show Bd N _ (if d = true then .ret (p, n, q) else kas_desc f p (n + 1) (q + 1))
      split
      · exact hp
      · exact yu1 hN f _ _ _ hp⟩
theorem yu2 (hN : 1 ≤ N) {p : Array Nat} {n m : Nat} (hp : p.Perm (List.toArray (List.range N))) : Bd N (fun r => r.2.Perm (List.toArray (List.range N))) (kas_tail3 n m p) := by
  have hr : (kas_rev p 0 n).Perm (List.toArray (List.range N)) := (mirror_perm _ _ _ _).trans hp
  unfold kas_tail3
  refine Bd.bind (P := fun _ => True) (f := fun m => .ret (m, kas_rev p 0 n)) (fun a _ => ?_) _ (za4 hN hr _ _)
  exact hr
theorem xg1 (hN : 1 ≤ N) {p : Array Nat} {n m : Nat} (hp : p.Perm (List.toArray (List.range N))) : Bd N (fun r => r.2.Perm (List.toArray (List.range N))) (kas_descPart n m p) := by
  refine Bd.bind (fun r hr => ?_) _ (yu1 hN _ _ _ _ hp)
  show Bd N _ (if r.2.2 > 0 then kas_tail3 r.2.1 m (kas_rev r.1 (r.2.1 - (r.2.2 + 1)) r.2.1) else kas_tail3 r.2.1 m r.1)
  split
  · exact yu2 hN ((mirror_perm _ _ _ _).trans hr)
  · exact yu2 hN hr
theorem yq4 (hN : 1 ≤ N) {p : Array Nat} {m : Nat} (hp : p.Perm (List.toArray (List.range N))) : Bd N (fun r => r.2.Perm (List.toArray (List.range N))) (kas_count m p) := by
  refine Bd.bind (fun n _ => ?_) _ (za4 hN hp _ _)
  split
  · exact hp
  · split
    · refine ⟨wq0 hN hp _, wq0 hN hp _, fun b => ?_⟩
      show Bd N _ (if b = true then .ret (n, p) else kas_descPart n m (kas_rev p 0 n))
      split
      · exact hp
      · exact xg1 hN ((mirror_perm _ _ _ _).trans hp)
    · exact xg1 hN hp
theorem xu1 (hN : 1 ≤ N) {p : Array Nat} {k : Nat} (hp : p.Perm (List.toArray (List.range N))) : ∀ f l r, Bd N (fun _ => True) (kas_place p k f l r)
  | 0, _, _ => trivial
  | f + 1, l, r => by
    show Bd N _ (if l ≥ r then .ret l else .ask (at' p k) (at' p ((l + r) / 2)) fun c => if c = true then kas_place p k f l ((l + r) / 2) else kas_place p k f ((l + r) / 2 + 1) r)
    split
    · trivial
    · refine ⟨wq0 hN hp _, wq0 hN hp _, fun b => ?_⟩
      show Bd N _ (if b = true then kas_place p k f l ((l + r) / 2) else kas_place p k f ((l + r) / 2 + 1) r)
      split
      · exact xu1 hN hp f _ _
      · exact xu1 hN hp f _ _
theorem yc5 (hN : 1 ≤ N) : ∀ f (p : Array Nat) k, p.Perm (List.toArray (List.range N)) → Bd N (fun _ => True) (kas_bin f p k)
  | 0, _, _, _ => trivial
  | f + 1, p, k, hp => Bd.bind (fun l _ => yc5 hN f _ _ ((bubble_perm _ _ _).trans hp)) _ (xu1 hN hp _ _ _)
theorem bd_sort (hN : 1 ≤ N) : Bd N (fun _ => True) (kas_sort N) := by
  refine Bd.bind (fun r hr => ?_) _ (yq4 hN (Array.Perm.refl _))
  split
  · exact yc5 hN _ _ _ hr
  · trivial
end
end Ms

namespace Pv
open PySem PySem.Spec PySem.W PyProof.Rows L2
noncomputable abbrev T3 := Int × Int × Int
noncomputable def lt3 (a b : T3) : Bool := decide (a.1 < b.1) || (a.1 == b.1 && (decide (a.2.1 < b.2.1) || (a.2.1 == b.2.1 && decide (a.2.2 < b.2.2))))
noncomputable def IsT3 (h : Heap) (v : Value) (t : T3) : Prop := ∃ a o t1 t2 t3 n, v = .ref a ∧ h.get? a = some o ∧ o.cls = .type "tuple" ∧ o.data = .seq #[.int t.1 t1, .int t.2.1 t2, .int t.2.2 t3] n
theorem zr3 (ts : List T3) : Ms.Ord fun i j => lt3 (ts.getD i (0, 0, 0)) (ts.getD j (0, 0, 0)) where
  ir := fun a => by simp [lt3]
  tr := fun a b c h k => by
    simp only [lt3, Bool.or_eq_true, Bool.and_eq_true, decide_eq_true_eq, beq_iff_eq] at h k ⊢
    omega
  ng := fun a b c h => by
    simp only [lt3, Bool.or_eq_true, Bool.and_eq_true, decide_eq_true_eq, beq_iff_eq] at h ⊢
    omega
section
variable {prog : Program} {w : World} {A : Around} {E : Value → Shared → Prop} {s : Shared}
theorem yv7 {x y : Value} {a b : T3} {Q : Bool → Shared → Prop} (hx : IsT3 s.heap x a) (hy : IsT3 s.heap y b) (h : Q (lt3 a b) s) : wpAny (model prog w) A (keyLt' (tuples' true) x y) Q E s := by
  obtain ⟨x, ox, t1, t2, t3, n, rfl, ex, _, dx⟩ := hx
  obtain ⟨y, oy, u1, u2, u3, m, rfl, ey, _, dy⟩ := hy
  obtain ⟨a1, a2, a3⟩ := a
  obtain ⟨b1, b2, b3⟩ := b
  refine kat_lt ex dx ey dy ?_
  refine kat_cons (wpAny_eqBool_int ?_)
  by_cases c1 : a1 = b1
  · rw [show (a1 == b1) = true from beq_iff_eq.mpr c1]
    refine kat_yes (kat_cons (wpAny_eqBool_int ?_))
    by_cases c2 : a2 = b2
    · rw [show (a2 == b2) = true from beq_iff_eq.mpr c2]
      refine kat_yes (kat_cons (wpAny_eqBool_int ?_))
      by_cases c3 : a3 = b3
      · rw [show (a3 == b3) = true from beq_iff_eq.mpr c3]
        refine kat_yes (kat_nil ?_)
        have e : lt3 (a1, a2, a3) (b1, b2, b3) = false := by subst c1 c2 c3; simp [lt3]
        rw [e] at h
        exact h
      · rw [show (a3 == b3) = false from by simpa using c3]
        have e : lt3 (a1, a2, a3) (b1, b2, b3) = decide (a3 < b3) := by subst c1 c2; simp [lt3]
        rw [e] at h
        exact kat_no (kat_one _ _ (lt_int h))
    · rw [show (a2 == b2) = false from by simpa using c2]
      have e : lt3 (a1, a2, a3) (b1, b2, b3) = decide (a2 < b2) := by subst c1; simp [lt3, c2]
      rw [e] at h
      exact kat_no (kat_one _ _ (lt_int h))
  · rw [show (a1 == b1) = false from by simpa using c1]
    have e : lt3 (a1, a2, a3) (b1, b2, b3) = decide (a1 < b1) := by simp [lt3, c1]
    rw [e] at h
    exact kat_no (oneLt_int h)
noncomputable def T3s (h : Heap) : List Value → List T3 → Prop
  | [], [] => True
  | v :: vs, t :: ts => IsT3 h v t ∧ T3s h vs ts
  | _, _ => False
theorem T3s.kept {h h' : Heap} (k : ∀ b o, h.get? b = some o → o.cls = .type "tuple" → h'.get? b = some o) : ∀ {vs : List Value} {ts : List T3}, T3s h vs ts → T3s h' vs ts
  | [], [], _ => trivial
  | [], _ :: _, i => i.elim
  | _ :: _, [], i => i.elim
  | v :: vs, t :: ts, i => by
    obtain ⟨⟨a, o, t1, t2, t3, n, e1, e2, e3, e4⟩, r⟩ := i
    exact ⟨⟨a, o, t1, t2, t3, n, e1, k _ _ e2 e3, e3, e4⟩, T3s.kept k r⟩
theorem T3s.get {h : Heap} : ∀ {vs : List Value} {ts : List T3}, T3s h vs ts → ∀ i, i < vs.length → IsT3 h (vs.getD i .none) (ts.getD i (0, 0, 0))
  | [], [], _, i, hi => absurd hi (Nat.not_lt_zero _)
  | [], _ :: _, z, _, _ => z.elim
  | _ :: _, [], z, _, _ => z.elim
  | v :: vs, t :: ts, z, 0, _ => z.1
  | v :: vs, t :: ts, z, i + 1, hi => T3s.get z.2 i (Nat.lt_of_succ_lt_succ hi)
theorem T3s.firsts {h : Heap} : ∀ {vs : List Value} {ts : List T3}, T3s h vs ts → ∃ fs, KatTups h vs fs ∧ fs.length = vs.length ∧ ∀ v ∈ fs, ∃ i t, v = Value.int i t
  | [], [], _ => ⟨[], trivial, rfl, fun _ hv => nomatch hv⟩
  | [], _ :: _, z => z.elim
  | _ :: _, [], z => z.elim
  | v :: vs, t :: ts, z => by
    obtain ⟨fs, f1, f2, f3⟩ := T3s.firsts z.2
    obtain ⟨a, o, t1, t2, t3, n, rfl, e2, e3, e4⟩ := z.1
    refine ⟨.int t.1 t1 :: fs, KatTups.cons e2 e3 e4 rfl f1, by rw [List.length_cons, List.length_cons, f2], fun x hx => ?_⟩
    rcases List.mem_cons.mp hx with rfl | hx
    · exact ⟨_, _, rfl⟩
    · exact f3 x hx
noncomputable abbrev ltI (ts : List T3) : Nat → Nat → Bool := fun i j => lt3 (ts.getD i (0, 0, 0)) (ts.getD j (0, 0, 0))
noncomputable abbrev outV (vs : List Value) (p : Array Nat) : List Value := p.toList.map fun i => vs.getD i Value.none
theorem xc3 (vs : List Value) : outV vs (List.toArray (List.range vs.length)) = vs := by
  apply List.ext_getElem
  · simp
  · intro i h1 h2
    simp [List.getD_eq_getElem?_getD, List.getElem?_eq_getElem h2]
theorem wh8 {vs : Array Value} {n : Nat} {C : Prop} (h : (seqObj "list" vs n).cls = Value.type "tuple") : C := by
  have h' : Value.type "list" = Value.type "tuple" := h
  injection h' with e
  exact absurd e (by decide)
theorem wp1 {a : Addr} {vs : List Value} {ts : List T3} {n : Nat} {P : PySem.Fin → Shared → Prop} (ho : s.heap.get? a = some (seqObj "list" vs.toArray n)) (ht : T3s s.heap vs ts) (h64 : vs.length < 64)
    (h : ∀ (p : Array Nat) (h' : Heap) (c : Nat), p.Perm (List.toArray (List.range vs.length)) → Ms.Up (ltI ts) p vs.length → (∀ b o, b ≠ a → s.heap.get? b = some o → h'.get? b = some o) →
      h'.get? a = some (seqObj "list" (outV vs p).toArray c) → P (.done (.ret .none)) { s with heap := h' }) :
    wpAny (model prog w) A (Builtin.«list.sort» ⟨[.ref a], []⟩) P E s := by
  have hz : vs.length ≤ sizeLine := by rw [sizeLine_eq]; omega
  have ha : a < s.heap.objs.size := Heap.lt_size ho
  obtain ⟨e1, ho1⟩ : ∃ e1, (s.heap.update a (Obj.mapSeq fun _ => (#[] : Array Value))).get? a = some (seqObj "list" #[] e1) := ⟨_, get?_update_seq ho fun _ => #[]⟩
  have kp : ∀ b o, b ≠ a → s.heap.get? b = some o → (((s.heap.update a (Obj.mapSeq fun _ => (#[] : Array Value))).push (seqObj "tuple" vs.toArray 0)).push (seqObj "list" #[] 0)).get? b = some o := fun b o hb e =>
    Heap.get?_push_of_some _ (Heap.get?_push_of_some _ (by rw [Heap.get?_update_ne _ _ _ _ hb]; exact e))
  have ht3 := T3s.kept (h' := ((s.heap.update a (Obj.mapSeq fun _ => (#[] : Array Value))).push (seqObj "tuple" vs.toArray 0)).push (seqObj "list" #[] 0)) (fun b o e ec => kp b o (by intro z; subst z; rw [ho] at e; cases e; exact wh8 ec) e) ht
  have hoN := Heap.get?_push_of_some (seqObj "list" #[] 0) (Heap.get?_push_of_some (seqObj "tuple" vs.toArray 0) ho1)
  generalize hN : ((s.heap.update a (Obj.mapSeq fun _ => (#[] : Array Value))).push (seqObj "tuple" vs.toArray 0)).push (seqObj "list" #[] 0) = hp3 at kp ht3 hoN
  have fin : ∀ (p : Array Nat), p.Perm (List.toArray (List.range vs.length)) → Ms.Up (ltI ts) p vs.length → P (.done (.ret .none)) { s with heap := hp3.update a (Obj.mapSeq fun _ => (outV vs p).toArray) } := fun p hp hu => by
    refine h p _ _ hp hu (fun b o hb e => by rw [Heap.get?_update_ne _ _ _ _ hb]; exact kp b o hb e) (get?_update_seq hoN fun _ => (outV vs p).toArray)
  have szO : ∀ p : Array Nat, p.Perm (List.toArray (List.range vs.length)) → (outV vs p).toArray.size ≤ sizeLine + 1 := fun p hp => by
    have := hp.size_eq
    simp at this
    simp
    omega
  rw [list_sort_plain]
  refine wpAny_bind (listItems_at ho rfl (wpAny_bind (listUpdate_at ho rfl ?_ (by simpa using hz) (Nat.zero_le _))))
  refine wpAny_bind (seqEpoch_at ho1 rfl (wpAny_bind (wpAny_newTuple ?_ (by simpa using hz))))
  refine wpAny_bind (wpAny_newList (wpAny_holding ?_) (Nat.zero_le _))
  show wpAny (model prog w) A _ P E { s with heap := ((s.heap.update a (Obj.mapSeq fun _ => (#[] : Array Value))).push (seqObj "tuple" vs.toArray 0)).push (seqObj "list" #[] 0) }
  rw [hN]
  dsimp only
  by_cases c : vs.toArray.size < 2
  · rw [if_pos c, if_pos c]
    refine wpAny_bind (wpAny_pure ?_)
    rw [StateT.run_pure]
    refine wpAny_bind (wpAny_pure ?_)
    have id1 : (arrOf (SortSt.mk' general' (vs.toArray.zip vs.toArray) #[] 7 none)).map (·.2) = (outV vs (List.toArray (List.range vs.length))).toArray := by
      rw [xc3]
      show (vs.toArray.zip vs.toArray).map (·.2) = vs.toArray
      apply Array.toList_inj.mp
      simp [List.map_snd_zip]
    dsimp only
    rw [id1]
    have pr := Array.Perm.refl (List.toArray (List.range vs.length))
    refine wpAny_bind (seqEpoch_at hoN rfl (wpAny_bind (listUpdate_at hoN rfl ?_ (Nat.zero_le _) (szO _ pr))))
    simp only [bne_self_eq_false, Bool.false_eq_true, if_false]
    refine wpAny_pure (fin _ pr ?_)
    intro x y hxy hy
    have : x = y := by simp at c; omega
    subst this
    exact Ms.le_rf (zr3 ts) _
  · rw [if_neg c, if_neg c]
    have c2 : 2 ≤ vs.length := by simp at c; omega
    obtain ⟨fs, f1, f2, f3⟩ := ht3.firsts
    refine wpAny_bind (kat_kind f1 (by omega) (T := .type "int") (fun v hv => ?_) (by decide) ?_)
    · obtain ⟨i, t, rfl⟩ := f3 v hv
      exact Looks.of_pure rfl
    show wpAny _ _ _ _ _ _
    rw [show (Value.type "int" != Value.type "tuple") = true by decide]
    have srt := Ms.sort_ok (zr3 ts) (n := vs.length) (by omega)
    refine wpAny_bind (wpAny_mono (kat_run (ks := vs) (Q := fun st' s' => s' = { s with heap := hp3 } ∧ ∃ p : Array Nat, arrOf st' = p.map (kas_item (vs.toArray.zip vs.toArray)) ∧ failedOf st' = none ∧ p = Ms.run (ltI ts) (kas_sort vs.length)) (G := fun p s' => s' = { s with heap := hp3 } ∧ p = Ms.run (ltI ts) (kas_sort vs.length)) rfl c2 h64
      (fun p st' s' _ b2 b3 b4 => ⟨b4.1, p, b2, b3, b4.2⟩) ?_) ?_ fun _ _ z => z)
    · refine Ms.Bd.wp (N := vs.length) (lt := ltI ts) (fun i j C hi hj hc => ?_) _ (Ms.bd_sort (by omega)) ⟨rfl, rfl⟩
      exact yv7 (ht3.get i hi) (ht3.get j hj) hc
    · rintro ⟨⟨⟩, st'⟩ s' ⟨rfl, p, hp1, hp2, rfl⟩
      dsimp only
      rw [kat_snds rfl hp1]
      refine wpAny_bind (seqEpoch_at hoN rfl (wpAny_bind (listUpdate_at hoN rfl ?_ (Nat.zero_le _) (szO _ srt.1))))
      rw [hp2]
      simp only [bne_self_eq_false, Bool.false_eq_true, if_false]
      exact wpAny_pure (fin _ srt.1 srt.2)
end
end Pv

namespace Pv
open PySem PySem.Spec PySem.W PyProof.Rows L2
section
variable {prog : Program} {w : World} {A : Around} {E : Value → Shared → Prop} {s : Shared}
theorem yi3 {l : Addr} {vs : List Value} {ts : List T3} {Q : Value → Shared → Prop} (hl : s.heap.IsList l vs.toArray) (ht : T3s s.heap vs ts) (h64 : vs.length < 64)
    (h : ∀ (p : Array Nat) (h' : Heap) (c : Nat), p.Perm (List.toArray (List.range vs.length)) → Ms.Up (ltI ts) p vs.length → (∀ b o, s.heap.get? b = some o → h'.get? b = some o) →
      h'.get? (s.heap.objs.size + 1) = some (seqObj "list" (outV vs p).toArray c) → Q (.ref (s.heap.objs.size + 1)) { s with heap := h' }) :
    wpAny (model prog w) A (call (.builtin "sorted") [.ref l]) Q E s := by
  have hz : vs.length ≤ sizeLine := by rw [sizeLine_eq]; omega
  refine Calls.call_function_entry kind_sorted plain_sorted entry_sorted (args_sorted1 _) ?_
  unfold Builtin.«sorted»
  refine wpAny_bind (m := checkCount "sorted" 1 1 _) (wpAny_pure (wpAny_bind (collect_list hl ?_ hz)))
  refine wpAny_bind (wpAny_newList ?_ hz)
  have z1 : ((s.heap.push (seqObj "list" #[] 0)).update s.heap.objs.size (Obj.mapSeq (· ++ vs.toArray))).objs.size = s.heap.objs.size + 1 := by
    rw [Heap.size_update, size_push']
  have kp : ∀ b o, s.heap.get? b = some o → (((s.heap.push (seqObj "list" #[] 0)).update s.heap.objs.size (Obj.mapSeq (· ++ vs.toArray))).push (seqObj "list" vs.toArray 0)).get? b = some o := fun b o q => by
    have hb : b < s.heap.objs.size := Heap.lt_size q
    exact Heap.get?_push_of_some _ (by rw [Heap.get?_update_ne _ _ _ _ (Nat.ne_of_lt hb)]; exact Heap.get?_push_of_some _ q)
  have zo : (((s.heap.push (seqObj "list" #[] 0)).update s.heap.objs.size (Obj.mapSeq (· ++ vs.toArray))).push (seqObj "list" vs.toArray 0)).get? (s.heap.objs.size + 1) = some (seqObj "list" vs.toArray 0) := by
    have q := Heap.get?_push_size ((s.heap.push (seqObj "list" #[] 0)).update s.heap.objs.size (Obj.mapSeq (· ++ vs.toArray))) (o := seqObj "list" vs.toArray 0) rfl
    rw [z1] at q
    exact q
  show wpAny _ _ _ _ _ { s with heap := ((s.heap.push (seqObj "list" #[] 0)).update s.heap.objs.size (Obj.mapSeq (· ++ vs.toArray))).push (seqObj "list" vs.toArray 0) }
  rw [z1]
  have tt := T3s.kept (fun b o e _ => kp b o e) ht
  generalize ((s.heap.push (seqObj "list" #[] 0)).update s.heap.objs.size (Obj.mapSeq (· ++ vs.toArray))).push (seqObj "list" vs.toArray 0) = hp at kp zo tt
  refine wpAny_bind (wpAny_holding (wpAny_call_entry slot_list_sort ⟨_, zo, rfl⟩ entry_list_sort (wp1 (s := { s with heap := hp }) zo tt h64 fun p h' c a1 a2 a3 a4 => ⟨_, rfl, ?_⟩) (args_list_sort _)))
  refine wpAny_pure ⟨_, rfl, h p h' c a1 a2 (fun b o q => a3 b o (Nat.ne_of_lt (Nat.lt_succ_of_lt (Heap.lt_size q))) (kp b o q)) a4⟩
end
noncomputable def V3s (K : Fg) (H : Hp) : List V → List T3 → Prop
  | [], [] => True
  | v :: vs, t :: ts => (∃ a, v = .ref a ∧ SqT K H a [.int t.1, .int t.2.1, .int t.2.2]) ∧ V3s K H vs ts
  | _, _ => False
section
variable {X : Cx}
theorem ws0 {pins : List (Addr × Obj)} {σ : L2.St} {H : Hp} {s : Shared} (I : Inv X pins σ H s) : ∀ {vs : List V} {ts : List T3} {us : List Value}, V3s X.K H vs ts → Vals vs us → T3s s.heap us ts
  | [], [], _, _, .nil => trivial
  | [], _ :: _, _, z, _ => z.elim
  | _ :: _, [], _, z, _ => z.elim
  | v :: vs, t :: ts, _, z, .cons r rs => by
    obtain ⟨⟨a, rfl, hq⟩, z⟩ := z
    refine ⟨?_, ws0 I z rs⟩
    cases r
    obtain ⟨its, rv, ⟨o, p1, p2, n, p3⟩, _⟩ := I.tuple hq
    cases rv with
    | cons r1 rv =>
      cases rv with
      | cons r2 rv =>
        cases rv with
        | cons r3 rv =>
          cases rv
          obtain ⟨t1, rfl⟩ := r1
          obtain ⟨t2, rfl⟩ := r2
          obtain ⟨t3, rfl⟩ := r3
          exact ⟨a, o, t1, t2, t3, n, rfl, p1, p2, p3⟩
theorem zs0 {vs : List V} {us : List Value} (r : Vals vs us) : ∀ (l : List Nat), (∀ i ∈ l, i < vs.length) → Vals (l.map fun i => vs.getD i .non) (l.map fun i => us.getD i Value.none)
  | [], _ => .nil
  | i :: l, h => by
    refine .cons ?_ (zs0 r l fun j hj => h j (List.mem_cons_of_mem _ hj))
    have hi := h i (List.mem_cons_self ..)
    obtain ⟨u, e, z⟩ := Vals.get r (i := i) (x := vs.getD i .non) (by rw [List.getD_eq_getElem?_getD, List.getElem?_eq_getElem hi]; rfl)
    dsimp only
    rw [show us.getD i Value.none = u by rw [List.getD_eq_getElem?_getD, e]; rfl]
    exact z
noncomputable def xd8 (K : Fg) : List V → Hp → VK → Prop := fun xs H Q => ∃ p vs ts, xs = [.ref p] ∧ SqL K H p vs ∧ V3s K H vs ts ∧ vs.length < 64 ∧
  ∀ q : Array Nat, q.Perm (List.toArray (List.range vs.length)) → Ms.Up (ltI ts) q vs.length → ∀ r, H r = none → Q (.ref r) (upd H r (.lst (q.toList.map fun i => vs.getD i .non)))
theorem xz3 : CallR X (.builtin "sorted") (xd8 X.K) := by
  intro pins s σ H xs us Q I r h
  obtain ⟨p, vs, ts, rfl, hq, h3, h64, k⟩ := h
  cases r with
  | cons r rr =>
    cases rr
    cases r
    obtain ⟨its, rv, pl, hz⟩ := I.list hq
    have hl := rv.length
    refine yi3 pl.isList (ws0 I h3 rv) (by omega) fun q h' c a1 a2 a3 a4 => ?_
    have a1' : q.Perm (List.toArray (List.range vs.length)) := by rw [hl]; exact a1
    have lt' : ∀ i ∈ q.toList, i < vs.length := fun i hi => by
      have e : i ∈ List.toArray (List.range vs.length) := a1'.mem_iff.mp (by simpa using hi)
      simpa using e
    have sz : q.toList.length = vs.length := by have := a1'.size_eq; simpa using this
    have nw : s.heap.objs.size ≤ s.heap.objs.size + 1 := Nat.le_succ _
    refine ⟨.ref _, _, I.laid (t' := s.toks) a3 nw (show ObjOk X.prog X.w _ h' _ (.lst (q.toList.map fun i => vs.getD i .non)) from ⟨by rw [List.length_map, sz]; exact hz, _, c, zs0 rv _ lt', a4⟩), rfl, k q a1' (by rw [hl]; exact a2) _ (I.hok.fresh nw)⟩
end
noncomputable def encT (t : T3) : D := .tup [.int t.1, .int t.2.1, .int t.2.2]
noncomputable def t3? : D → Option T3
  | .tup [.int a, .int b, .int c] => some (a, b, c)
  | _ => none
noncomputable def t3s? : List D → Option (List T3)
  | [] => some []
  | d :: r => match t3? d with
    | some t => match t3s? r with
      | some ts => some (t :: ts)
      | none => none
    | none => none
theorem zg3 : ∀ ts : List T3, t3s? (ts.map encT) = some ts
  | [] => rfl
  | t :: ts => by simp only [List.map_cons, t3s?, encT, t3?, zg3 ts]
theorem xv7 {d : D} {t : T3} (h : t3? d = some t) : d = encT t := by
  unfold t3? at h
  split at h
  · cases h; rfl
  · cases h
theorem zs4 : ∀ {l : List D} {ts : List T3}, t3s? l = some ts → l = ts.map encT
  | [], ts, h => by cases h; rfl
  | d :: r, ts, h => by
    unfold t3s? at h
    split at h
    · next t e =>
      split at h
      · next us e2 => cases h; rw [xv7 e, zs4 e2]; rfl
      · cases h
    · cases h
theorem wl2 {K : Fg} {H : Hp} : ∀ {ts : List T3} {vs : List V}, RelDs K H (ts.map encT) vs → V3s K H vs ts
  | [], _, .nil => trivial
  | t :: ts, _, .cons r rs => by
    refine ⟨?_, wl2 rs⟩
    cases r with
    | tup hq r2 =>
      cases r2 with
      | cons x r2 =>
        cases r2 with
        | cons y r2 =>
          cases r2 with
          | cons z r2 =>
            cases r2
            cases x
            cases y
            cases z
            exact ⟨_, rfl, hq⟩
theorem wp0 {K : Fg} {H : Hp} {ts : List T3} {vs : List V} (r : RelDs K H (ts.map encT) vs) : ∀ (l : List Nat), (∀ i ∈ l, i < vs.length) → RelDs K H ((l.map fun i => ts.getD i (0, 0, 0)).map encT) (l.map fun i => vs.getD i .non)
  | [], _ => .nil
  | i :: l, h => by
    refine .cons ?_ (wp0 r l fun j hj => h j (List.mem_cons_of_mem _ hj))
    have hi := h i (List.mem_cons_self ..)
    have hl := r.length
    rw [List.length_map] at hl
    obtain ⟨v, e, z⟩ := r.get (i := i) (d := encT (ts.getD i (0, 0, 0))) (by rw [List.getElem?_map, List.getD_eq_getElem?_getD, List.getElem?_eq_getElem (by omega)]; rfl)
    dsimp only
    rw [show vs.getD i .non = v by rw [List.getD_eq_getElem?_getD, e]; rfl]
    exact z
noncomputable def le3 (a b : T3) : Prop := lt3 b a = false
theorem za1 {ts : List T3} {q : Array Nat} (h : q.Perm (List.toArray (List.range ts.length))) : (q.toList.map fun i => ts.getD i (0, 0, 0)).Perm ts := by
  have h1 : q.toList.Perm (List.range ts.length) := h.toList
  refine (h1.map _).trans (List.Perm.of_eq ?_)
  apply List.ext_getElem
  · simp
  · intro i h1 h2
    simp [List.getD_eq_getElem?_getD, List.getElem?_eq_getElem h2]
theorem yg2 {ts : List T3} {q : Array Nat} (h : q.Perm (List.toArray (List.range ts.length))) (u : Ms.Up (ltI ts) q ts.length) : (q.toList.map fun i => ts.getD i (0, 0, 0)).Pairwise le3 := by
  have sz : q.size = ts.length := by have := h.size_eq; simpa using this
  rw [List.pairwise_iff_getElem]
  intro i j hi hj hij
  simp only [List.length_map, Array.length_toList] at hi hj
  have z := u i j (Nat.le_of_lt hij) (by omega)
  simp only [List.getElem_map, Array.getElem_toList]
  have e1 : Ms.at' q i = q[i] := by show q.getD i 0 = _; simp [Array.getD, hi]
  have e2 : Ms.at' q j = q[j] := by show q.getD j 0 = _; simp [Array.getD, hj]
  rw [e1, e2] at z
  exact z
noncomputable def srtR : C3 := fun ds μ Q => match ds with
  | [.ref p] => match μ p with
    | some (.lst l) => match t3s? l with
      | some ts => ts.length < 64 ∧ ∀ us : List T3, us.Perm ts → us.Pairwise le3 → ∀ r, μ r = none → Q (.ref r) (updM μ r (.lst (us.map encT)))
      | none => False
    | _ => False
  | _ => False
section
variable {X : Cx}
theorem yg4 : RC X (.builtin "sorted") srtR := by
  refine ⟨_, xz3, fun xs vs H Q μ Q3 m r h k => ?_⟩
  unfold srtR at h
  split at h
  · next p =>
    split at h
    · next l e =>
      split at h
      · next ts e2 =>
        cases r with
        | cons r1 r2 =>
          cases r2
          cases r1
          have el := zs4 e2
          subst el
          obtain ⟨us, hv, rv⟩ := m p _ e
          have hl := rv.length
          rw [List.length_map] at hl
          refine ⟨p, us, ts, rfl, SqL.of hv, wl2 rv, by omega, fun q a1 a2 r hr => ?_⟩
          rw [← hl] at a1 a2
          have lt' : ∀ i ∈ q.toList, i < us.length := fun i hi => by
            have e : i ∈ List.toArray (List.range ts.length) := a1.mem_iff.mp (by simpa using hi)
            have e' : i < ts.length := by simpa using e
            omega
          exact k _ _ _ _ (h.2 _ (za1 a1) (yg2 a1 a2) r (m.free hr)) (Kp.new hr) (.ref r) (m.newL hr (wp0 rv _ lt'))
      · exact h.elim
    · exact h.elim
  · exact h.elim
end
end Pv

namespace Pv
open PySem PySem.Spec PySem.W PyProof.Rows L2
noncomputable def DG (h : Heap) (d : Addr) (es : Array DictEntry) (ep : Nat) : Prop := ∃ o, h.get? d = some o ∧ o.ExactDict ∧ o.data = .dict es ep
theorem DG.keep {h h' : Heap} {d : Addr} {es : Array DictEntry} {ep : Nat} (x : DG h d es ep) (k : ∀ o, h.get? d = some o → h'.get? d = some o) : DG h' d es ep := by
  obtain ⟨o, a, b⟩ := x
  exact ⟨o, k o a, b⟩
theorem DG.ty {s : Shared} {d : Addr} {es : Array DictEntry} {ep : Nat} (x : DG s.heap d es ep) : s.TypeIs (.ref d) "dict" := by
  obtain ⟨o, a, b, _⟩ := x
  exact ⟨o, a, b.1⟩
section
variable {prog : Program} {w : World} {A : Around} {E : Value → Shared → Prop} {s : Shared} {d it : Addr} {es : Array DictEntry} {ep i : Nat}
theorem wt5 {Q : Value → Shared → Prop} (lo : (d == sysModules) = false) (x : DG s.heap d es ep) (q : Q (.ref s.heap.objs.size) { s with heap := s.heap.push { cls := .type "dict_keyiterator", data := .fields #[.ref d, .int 0 0, .int es.size 0, .int ep 0] } }) :
    wpAny (model prog w) A (pyIter (.ref d)) Q E s := by
  have ty := x.ty
  obtain ⟨o, e1, e2, e3⟩ := x
  refine wpAny_pyIter_slot ty F.slot_dict_iter (wpAny_call_entry F.slot_dict_iter ty F.entry_dict_iter ?a (F.args_dict_iter_1 _))
  case a =>
    unfold Builtin.«dict.__iter__»
    refine wpAny_bind ?_; unfold Builtin.Dict.dictSlotNone
    refine wpAny_bind (wpAny_notOrdered_dict ty (show wpAny _ _ (pure (Value.ref d)) _ _ s from wpAny_pure ?_))
    show wpAny _ _ (Builtin.Dict.showsAll d >>= _) _ _ s; unfold Builtin.Dict.showsAll
    rw [if_neg (by rw [lo]; exact Bool.false_ne_true)]
    refine wpAny_bind (wpAny_pure (wpAny_bind (wpAny_dictEntries e1 e3 (wpAny_bind (wpAny_dictEpoch e1 e3 ?_)))))
    refine wpAny_bind (wpAny_newObj_type (wpAny_pure ⟨_, rfl, "dict_keyiterator", _, ⟨_, Heap.get?_push_size _ rfl, rfl⟩, F.slot_dict_keyiterator_next.lookup, q⟩))
theorem zt5 {Q : Option Value → Shared → Prop} (hi : s.heap.IsKeyIter it d i es.size ep) (x : DG s.heap d es ep) (lt : i < es.size)
    (q : ∀ h', h'.IsKeyIter it d (i + 1) es.size ep → Heap.SameBut it s.heap h' → Q (some es[i].key) { s with heap := h' }) : wpAny (model prog w) A (pyNext (.ref it)) Q E s := by
  obtain ⟨o, a1, a2, a3⟩ := id hi
  obtain ⟨od, e1, e2, e3⟩ := x
  have ty := hi.typeIs
  have own0 : Builtin.Dict_items.ownsTuple "dict_keyiterator" = false := by decide
  unfold pyNext
  refine wpAny_bind (wpAny_attempt (wpAny_callSpecial?_slot (name := Str.ofString "__next__") ty F.slot_dict_keyiterator_next (wpAny_call_entry F.slot_dict_keyiterator_next ty F.entry_dict_keyiterator_next ?a (F.args_dict_keyiterator_next_1 _))))
  case a =>
    refine wpAny_bind (wpAny_pure (wpAny_bind (wpAny_bind ?_)))
    first | refine wpAny_bind (wpAny_typeNameOfWhole_keyiter ty (wpAny_pure ?_)) | refine wpAny_bind (wpAny_typeNameOf_keyiter ty (wpAny_pure ?_))
    refine wpAny_bind (wpAny_fieldsOf a1 a3 ?_); simp only [own0, Bool.false_eq_true, if_false]
    show wpAny _ _ (if (Value.ref d == Value.none) = true then _ else _) _ _ s; rw [if_neg (show ¬ ((Value.ref d == Value.none) = true) from Bool.false_ne_true)]
    refine wpAny_bind (wpAny_pure (wpAny_bind (wpAny_dictEntries e1 e3 ?_))); rw [if_neg (by simp)]
    refine wpAny_bind (wpAny_pure (wpAny_bind (wpAny_dictEpoch e1 e3 ?_))); rw [if_neg (by simp)]
    refine wpAny_pure ?_
    simp only [show ¬ ((i : Int) < 0) from by omega, if_false, Int.toNat_natCast, Array.getElem?_eq_getElem lt]
    refine wpAny_bind ?_
    first | refine wpAny_bind (wpAny_typeNameOfWhole_keyiter ty (wpAny_pure ?_)) | refine wpAny_bind (wpAny_typeNameOf_keyiter ty (wpAny_pure ?_))
    refine wpAny_bind (wpAny_isOneOf_keyiter ty (show wpAny _ _ (setField (.ref it) 1 (rawInt ((i : Int) + 1)) >>= _) _ _ s from wpAny_bind (wpAny_setField a1 a3 (by simp) ?_)))
    have hi' : (s.heap.update it (Obj.mapFields (·.setIfInBounds 1 (rawInt ((i : Int) + 1))))).IsKeyIter it d (i + 1) es.size ep := ⟨_, Heap.get?_update_self _ a1 (Obj.isFreed_of_fields (Obj.data_mapFields a3 _)), (Obj.cls_mapFields ..).trans a2, by rw [Obj.data_mapFields a3]; simp [rawInt]⟩
    refine wpAny_bind (wpAny_holding (wpAny_bind (wpAny_isOneOf_keyiter (s := { s with heap := s.heap.update it (Obj.mapFields (·.setIfInBounds 1 (rawInt ((i : Int) + 1)))) }) hi'.typeIs ?_)))
    show wpAny _ _ (pure es[i].key) _ _ _
    exact wpAny_pure (wpAny_pure ⟨_, rfl, wpAny_pure (q _ hi' (Heap.SameBut.update ..))⟩)
theorem zp7 {Q : Option Value → Shared → Prop} (hh : A.handled = none) (hi : s.heap.IsKeyIter it d i es.size ep) (x : DG s.heap d es ep) (ge : es.size ≤ i)
    (q : ∀ h', Heap.ExtBut it s.heap h' → Q none { s with heap := h' }) : wpAny (model prog w) A (pyNext (.ref it)) Q E s := by
  obtain ⟨o, a1, a2, a3⟩ := id hi
  obtain ⟨od, e1, e2, e3⟩ := x
  have ty := hi.typeIs
  have own0 : Builtin.Dict_items.ownsTuple "dict_keyiterator" = false := by decide
  unfold pyNext
  refine wpAny_bind (wpAny_attempt (wpAny_callSpecial?_slot (name := Str.ofString "__next__") ty F.slot_dict_keyiterator_next (wpAny_call_entry F.slot_dict_keyiterator_next ty F.entry_dict_keyiterator_next ?a (F.args_dict_keyiterator_next_1 _))))
  case a =>
    refine wpAny_bind (wpAny_pure (wpAny_bind (wpAny_bind ?_)))
    first | refine wpAny_bind (wpAny_typeNameOfWhole_keyiter ty (wpAny_pure ?_)) | refine wpAny_bind (wpAny_typeNameOf_keyiter ty (wpAny_pure ?_))
    refine wpAny_bind (wpAny_fieldsOf a1 a3 ?_); simp only [own0, Bool.false_eq_true, if_false]
    show wpAny _ _ (if (Value.ref d == Value.none) = true then _ else _) _ _ s; rw [if_neg (show ¬ ((Value.ref d == Value.none) = true) from Bool.false_ne_true)]
    refine wpAny_bind (wpAny_pure (wpAny_bind (wpAny_dictEntries e1 e3 ?_))); rw [if_neg (by simp)]
    refine wpAny_bind (wpAny_pure (wpAny_bind (wpAny_dictEpoch e1 e3 ?_))); rw [if_neg (by simp)]
    refine wpAny_pure ?_
    simp only [show ¬ ((i : Int) < 0) from by omega, if_false, Int.toNat_natCast, Array.getElem?_eq_none ge]
    refine wpAny_bind ?_
    first | refine wpAny_bind (wpAny_typeNameOfWhole_keyiter ty (wpAny_pure ?_)) | refine wpAny_bind (wpAny_typeNameOf_keyiter ty (wpAny_pure ?_))
    show wpAny _ _ (setField (.ref it) 0 .none >>= _) _ _ s; refine wpAny_bind (wpAny_setField a1 a3 (by simp) ?_)
    show wpAny _ _ (newExc (.type "StopIteration") [] >>= _) _ _ _; refine wpAny_bind ?_; simp only [newExc, newTuple]
    refine wpAny_bind (wpAny_newObj_type (wpAny_bind (m := firstArgMember _ _) (wpAny_of_eq (a := Value.none) (by first | rfl | (simp only [firstArgMember]; rfl)) (wpAny_newObj_type ?_ (by size_fits)))) (by size_fits))
    simp only [raiseNew]; refine wpAny_bind (wpAny_handled ?_); rw [show A.in1.handled = none from hh]
    refine wpAny_bind (wpAny_pure (wpAny_throw ?_)); refine wpAny_bind (wpAny_isInstance (T := "StopIteration") (b := true) ⟨_, Heap.get?_push_size _ rfl, rfl⟩ isSubtype_stop ?_)
    exact wpAny_pure (q _ (((Heap.SameBut.update ..).extBut.push _).push _))
theorem wo4 (hh : A.handled = none) (I d : Addr) (ne : d ≠ I) : Walks prog w A I [I, d] [I] es.size (fun i v => ∃ e, es[i]? = some e ∧ v = e.key) (fun i h => h.IsKeyIter I d i es.size ep ∧ DG h d es ep) where
  sub := fun b hb => by simp at hb; simp [hb]
  frame := fun _ _ _ z hk => ⟨z.1.at fun o e => hk I (by simp) o e, z.2.keep fun o e => hk d (by simp) o e⟩
  item := fun i s Q E hi z q => by
    refine zt5 z.1 z.2 hi fun h' k1 k2 => ?_
    exact q _ h' s.toks ⟨es[i], by simp [hi], rfl⟩ ⟨k1, z.2.keep fun o e => k2.extBut d o ne e⟩ fun b o hb e => k2.extBut b o (fun y => hb (by simp [y])) e
  done := fun s Q E z q => zp7 hh z.1 z.2 (Nat.le_refl _) fun h' k => q h' s.toks fun b o hb e => k b o (fun y => hb (by simp [y])) e
  self := fun _ _ _ _ z q => wpAny_pyIter_keyiter z.1 q
theorem yp7 (lo : (d == sysModules) = false) : KdlSrc prog w "dict" d d es.size (fun i v => ∃ e, es[i]? = some e ∧ v = e.key) (fun h => DG h d es ep) where
  type := fun _ x => x.ty
  there := fun _ x => by obtain ⟨o, a, _⟩ := x; exact ⟨Heap.lt_size a, Heap.lt_size a⟩
  keep := fun _ _ x k => x.keep fun o e => k d (.inl rfl) o e
  notList := by decide
  notTuple := by decide
  hint := fun _ _ _ _ x q => kdl_hint_dict x.ty q
  iter := fun _ s hh x => by
    have hl : d < s.heap.objs.size := by obtain ⟨o, a, _⟩ := x; exact Heap.lt_size a
    exact ⟨_, _, (fun _ _ q => wt5 lo x q), wo4 hh _ d (Nat.ne_of_lt hl), ⟨⟨_, Heap.get?_push_size _ rfl, rfl, rfl⟩, x.keep fun o e => Heap.get?_push_of_some _ e⟩⟩
end
end Pv

namespace Pv
open PySem PySem.Spec PySem.W PyProof.Rows L2
section
variable {prog : Program} {w : World} {A : Around} {E : Value → Shared → Prop} {s : Shared} {d : Addr} {es : Array DictEntry} {ep : Nat}
theorem zd3 {acc : Array Value} (h : ItemsOf (fun i v => ∃ e, es[i]? = some e ∧ v = e.key) acc es.size) : acc.toList = es.toList.map (·.key) := by
  obtain ⟨h1, h2⟩ := h
  apply List.ext_getElem?
  intro i
  rw [List.getElem?_map, Array.getElem?_toList, Array.getElem?_toList]
  by_cases c : i < es.size
  · obtain ⟨e, e1, e2⟩ := h2 i (acc[i]'(by omega)) (by simp)
    rw [e1, Array.getElem?_eq_getElem (by omega), e2]
    rfl
  · rw [Array.getElem?_eq_none (by omega), Array.getElem?_eq_none (by omega)]
    rfl
theorem zi3 {ts : List T3} {Q : Value → Shared → Prop} (hh : A.handled = none) (lo : (d == sysModules) = false) (x : DG s.heap d es ep) (ht : T3s s.heap (es.toList.map (·.key)) ts) (h64 : es.size < 64)
    (h : ∀ (p : Array Nat) (h1 h' : Heap) (c tk : Nat), p.Perm (List.toArray (List.range es.size)) → Ms.Up (ltI ts) p es.size → (∀ b o, s.heap.get? b = some o → h1.get? b = some o) → (∀ b o, h1.get? b = some o → h'.get? b = some o) →
      h'.get? h1.objs.size = some (seqObj "list" (outV (es.toList.map (·.key)) p).toArray c) → Q (.ref h1.objs.size) { s with heap := h', toks := tk }) :
    wpAny (model prog w) A (call (.builtin "sorted") [.ref d]) Q E s := by
  have hz : es.size ≤ sizeLine := by rw [sizeLine_eq]; omega
  refine Calls.call_function_entry kind_sorted plain_sorted entry_sorted (args_sorted1 _) ?_
  unfold Builtin.«sorted»
  refine wpAny_bind (m := checkCount "sorted" 1 1 _) (wpAny_pure (wpAny_bind (kdu_collect (yp7 lo) hh x hz fun h1 tk acc k1 ia => ?_)))
  rw [zd3 ia]
  have l1 : (es.toList.map (·.key)).length = es.size := by simp
  refine wpAny_bind (wpAny_newList ?_ (by rw [l1]; exact hz))
  have k2 : ∀ b o, s.heap.get? b = some o → (h1.push (seqObj "list" (es.toList.map (·.key)).toArray 0)).get? b = some o := fun b o q => Heap.get?_push_of_some _ (k1 b o q)
  have zo : (h1.push (seqObj "list" (es.toList.map (·.key)).toArray 0)).get? h1.objs.size = some (seqObj "list" (es.toList.map (·.key)).toArray 0) := Heap.get?_push_size _ rfl
  have tt := T3s.kept (fun b o e _ => k2 b o e) ht
  show wpAny _ _ _ _ _ { s with heap := h1.push (seqObj "list" (es.toList.map (·.key)).toArray 0), toks := tk }
  refine wpAny_bind (wpAny_holding (wpAny_call_entry slot_list_sort ⟨_, zo, rfl⟩ entry_list_sort (wp1 (s := { s with heap := h1.push (seqObj "list" (es.toList.map (·.key)).toArray 0), toks := tk }) zo tt (by rw [l1]; exact h64) fun p h' c a1 a2 a3 a4 => ⟨_, rfl, ?_⟩) (args_list_sort _)))
  rw [l1] at a1 a2
  exact wpAny_pure ⟨_, rfl, h p h1 h' c tk a1 a2 k1 (fun b o q => a3 b o (Nat.ne_of_lt (Heap.lt_size q)) (Heap.get?_push_of_some _ q)) a4⟩
end
section
variable {X : Cx}
theorem yy3 {P : Program} {w : World} {H : Hp} {h : Heap} : ∀ {kvs : List (List Key × V)} {xs : List (List Key × Addr × Value)} {ts : List T3},
    Paired (fun (p : List Key × V) (q : List Key × Addr × Value) => p.1 = q.1 ∧ H q.2.1 = some (.tup (p.1.map kV)) ∧ RelV p.2 q.2.2) kvs xs → kvs.map (·.1) = ts.map kT →
    V3s X.K H (xs.map fun q => V.ref q.2.1) ts ∧ Vals (xs.map fun q => V.ref q.2.1) (xs.map fun q => Value.ref q.2.1)
  | [], _, ts, .nil, e => by
    cases ts with
    | nil => exact ⟨trivial, .nil⟩
    | cons _ _ => cases e
  | p :: kvs, q :: xs, ts, .cons r rs, e => by
    cases ts with
    | nil => cases e
    | cons t ts =>
      rw [List.map_cons, List.map_cons] at e
      injection e with e1 e2
      obtain ⟨a, b⟩ := yy3 (P := P) (w := w) (h := h) rs e2
      have hq := r.2.1
      rw [e1] at hq
      exact ⟨⟨⟨_, rfl, SqT.of hq⟩, a⟩, .cons rfl b⟩
noncomputable def xb7 (K : Fg) : List V → Hp → VK → Prop := fun xs H Q => ∃ d kvs ts, xs = [.ref d] ∧ H d = some (.dT kvs) ∧ kvs.map (·.1) = ts.map kT ∧ kvs.length < 64 ∧
  ∀ vs, V3s K H vs ts → ∀ q : Array Nat, q.Perm (List.toArray (List.range ts.length)) → Ms.Up (ltI ts) q ts.length → ∀ r, H r = none → Q (.ref r) (upd H r (.lst (q.toList.map fun i => vs.getD i .non)))
theorem V3s.len {K : Fg} {H : Hp} : ∀ {vs : List V} {ts : List T3}, V3s K H vs ts → vs.length = ts.length
  | [], [], _ => rfl
  | [], _ :: _, z => z.elim
  | _ :: _, [], z => z.elim
  | _ :: vs, _ :: ts, z => by rw [List.length_cons, List.length_cons, V3s.len z.2]
theorem ze3 (hc : X.calm = true) : CallR X (.builtin "sorted") (xb7 X.K) := by
  intro pins s σ H xs us Q I r h
  obtain ⟨d, kvs, ts, rfl, hd, ek, h64, k⟩ := h
  cases r with
  | cons r rr =>
    cases rr
    cases r
    obtain ⟨hz, lo, ys, pr, o, es, ep, o1, o2, o3, o4, _⟩ := (show ObjOk X.prog X.w H s.heap d (.dT kvs) from I.hok d _ hd)
    obtain ⟨v3, vv⟩ := yy3 (X := X) (P := X.prog) (w := X.w) (h := s.heap) pr ek
    have ekey : es.toList.map (·.key) = ys.map fun q => Value.ref q.2.1 := by rw [o4, List.map_map]; rfl
    have l1 : kvs.length = ys.length := pr.length
    have l2 : ts.length = kvs.length := by have := congrArg List.length ek; simpa using this.symm
    have l3 : es.size = ys.length := by rw [← Array.length_toList, o4, List.length_map]
    refine zi3 (I.ok.hd hc) lo ⟨o, o1, o2, o3⟩ (by rw [ekey]; exact ws0 I v3 vv) (by omega) fun p h1 h' c tk a1 a2 a3 a4 a5 => ?_
    rw [ekey] at a5
    have e0 : es.size = ts.length := by omega
    rw [e0] at a1 a2
    have lt' : ∀ i ∈ p.toList, i < (ys.map fun q => V.ref q.2.1).length := fun i hi => by
      have e : i ∈ List.toArray (List.range ts.length) := a1.mem_iff.mp (by simpa using hi)
      have e' : i < ts.length := by simpa using e
      rw [List.length_map]
      omega
    have sz : p.toList.length = ts.length := by have := a1.size_eq; simpa using this
    have I1 : Inv X pins σ H { s with heap := h1, toks := tk } := I.kept a3
    refine ⟨.ref _, _, I1.laid (t' := tk) a4 (Nat.le_refl _) (show ObjOk X.prog X.w _ h' _ (.lst (p.toList.map fun i => (ys.map fun q => V.ref q.2.1).getD i .non)) from ⟨by rw [List.length_map, sz]; omega, _, c, zs0 vv _ lt', a5⟩), rfl, k _ v3 p a1 a2 _ (I1.hok.fresh (Nat.le_refl _))⟩
theorem zn1 {K : Fg} {H : Hp} : ∀ {ts : List T3} {vs : List V}, V3s K H vs ts → RelDs K H (ts.map encT) vs
  | [], [], _ => .nil
  | [], _ :: _, z => z.elim
  | _ :: _, [], z => z.elim
  | t :: ts, v :: vs, z => by
    obtain ⟨⟨a, rfl, hq⟩, z⟩ := z
    exact .cons (.tup hq (.cons (.int _) (.cons (.int _) (.cons (.int _) .nil)))) (zn1 z)
theorem RelKs.keys {K : Fg} {H : Hp} {l : List (T3 × D)} {vs : List (List Key × V)} (r : RelKs K H l vs) : vs.map (·.1) = (l.map (·.1)).map kT ∧ l.length = vs.length := by
  induction r with
  | nil => exact ⟨rfl, rfl⟩
  | cons _ _ ih => exact ⟨by rw [List.map_cons, ih.1]; rfl, by rw [List.length_cons, List.length_cons, ih.2]⟩
noncomputable def xe4 : C3 := fun ds μ Q => match ds with
  | [.ref p] => match μ p with
    | some (.dct kvs) => kvs.length < 64 ∧ ∀ us : List T3, us.Perm (kvs.map (·.1)) → us.Pairwise le3 → ∀ r, μ r = none → Q (.ref r) (updM μ r (.lst (us.map encT)))
    | _ => False
  | _ => False
theorem yn3 (hc : X.calm = true) : RC X (.builtin "sorted") xe4 := by
  refine ⟨_, ze3 hc, fun xs vs H Q μ Q3 m r h k => ?_⟩
  unfold xe4 at h
  split at h
  · next p =>
    split at h
    · next kvs e =>
      cases r with
      | cons r1 r2 =>
        cases r2
        cases r1
        obtain ⟨ws, hv, rk⟩ := m.dct p kvs e
        obtain ⟨k1, k2⟩ := rk.keys
        refine ⟨p, ws, kvs.map (·.1), rfl, hv, k1, by omega, fun vs v3 q a1 a2 r hr => ?_⟩
        have lt' : ∀ i ∈ q.toList, i < vs.length := fun i hi => by
          have e : i ∈ List.toArray (List.range (kvs.map (·.1)).length) := a1.mem_iff.mp (by simpa using hi)
          have e' : i < (kvs.map (·.1)).length := by simpa using e
          rw [v3.len]
          exact e'
        exact k _ _ _ _ (h.2 _ (za1 a1) (yg2 a1 a2) r (m.free hr)) (Kp.new hr) (.ref r) (m.newL hr (wp0 (zn1 v3) _ lt'))
    · exact h.elim
  · exact h.elim
noncomputable def zv0 : C3 := fun ds μ Q => srtR ds μ Q ∨ xe4 ds μ Q
theorem xc1 (hc : X.calm = true) : RC X (.builtin "sorted") zv0 := RC.or yg4 (yn3 hc)
end
end Pv

namespace Pv
open PySem PySem.Spec PySem.W PyProof.Rows L2
open PySem.AutoSeq1 (wpAny_loadPart')
theorem Kp.wrD {H : Hp} {p : Addr} {o : HO} {xs : List (List Key × V)} (h : H p = some (.dT xs)) : Kp H (upd H p o) :=
  ⟨fun b ys q => by rw [yd0 (xr3 q h (by intro z; cases z))]; exact q, fun b o u q => by rw [yd0 (xr3 q h (by intro z; cases z))]; exact q⟩
theorem RelM.newD {K : Fg} {μ : Mu} {H : Hp} {p : Addr} (h : H p = none) (m : RelM K μ H) : RelM K (updM μ p (.dct [])) (upd H p (.dT [])) := by
  have m' := m.newT (o := .dT []) h
  refine ⟨fun q ys e => ?_, fun q c fs e => ?_, fun q kvs e => ?_⟩
  · by_cases z : q = p
    · subst z; rw [yb0] at e; cases e
    · rw [xc0 z] at e; exact m'.lst q ys e
  · by_cases z : q = p
    · subst z; rw [yb0] at e; cases e
    · rw [xc0 z] at e; exact m'.ins q c fs e
  · by_cases z : q = p
    · subst z; rw [yb0] at e; cases e; exact ⟨[], wf0, .nil⟩
    · rw [xc0 z] at e; exact m'.dct q kvs e
theorem RelM.wrD {K : Fg} {μ : Mu} {H : Hp} {p : Addr} {kvs : List (T3 × D)} {vs ws : List (List Key × V)} (h : H p = some (.dT ws)) (r : RelKs K H kvs vs) (m : RelM K μ H) : RelM K (updM μ p (.dct kvs)) (upd H p (.dT vs)) := by
  refine ⟨fun q ys e => ?_, fun q c fs e => ?_, fun q ks e => ?_⟩
  · by_cases z : q = p
    · subst z; rw [yb0] at e; cases e
    · rw [xc0 z] at e
      obtain ⟨us, q1, r1⟩ := m.lst q ys e
      exact ⟨us, by rw [yd0 z]; exact q1, r1.mono (Kp.wrD h)⟩
  · by_cases z : q = p
    · subst z; rw [yb0] at e; cases e
    · rw [xc0 z] at e
      obtain ⟨C, dx, us, n, q1, q2, r1⟩ := m.ins q c fs e
      refine ⟨C, dx, us, n, by rw [yd0 z]; exact q1, ?_, r1.mono (Kp.wrD h)⟩
      rw [yd0]
      · exact q2
      · intro y; subst y; rw [h] at q2; cases q2
  · by_cases z : q = p
    · subst z; rw [yb0] at e; cases e; exact ⟨vs, wf0, r.mono (Kp.wrD h)⟩
    · rw [xc0 z] at e
      obtain ⟨us, q1, r1⟩ := m.dct q ks e
      exact ⟨us, by rw [yd0 z]; exact q1, r1.mono (Kp.wrD h)⟩
noncomputable def zo7 : TE3 := fun _ μ Q => ∀ p, μ p = none → Q (.ref p) (updM μ p (.dct []))
noncomputable def putT (kvs : List (T3 × D)) (t : T3) (y : D) : List (T3 × D) := if (kvs.any fun kv => decide (kv.1 = t)) = true then kvs.map (fun kv => if kv.1 = t then (kv.1, y) else kv) else kvs ++ [(t, y)]
noncomputable def xt5 (to : TE3) (tk : TA3) (tv : TE3) : TS3 := fun D' ρ μ => tv ρ μ fun y μ1 => to ρ μ1 fun d μ2 => tk ρ μ2 fun ks μ3 => match d, ks with
  | .ref p, [.int a, .int b, .int c] => match μ3 p with
    | some (.dct kvs) => kvs.length < 1000 ∧ D'.nx ρ (updM μ3 p (.dct (putT kvs (a, b, c) y)))
    | _ => False
  | _, _ => False
theorem xz4 {a b : T3} (h : kT a = kT b) : a = b := by
  obtain ⟨a1, a2, a3⟩ := a
  obtain ⟨b1, b2, b3⟩ := b
  simp only [kT, List.cons.injEq, Sum.inl.injEq, and_true] at h
  obtain ⟨rfl, rfl, rfl⟩ := h
  rfl
theorem RelKs.any {K : Fg} {H : Hp} {t : T3} {l : List (T3 × D)} {vs : List (List Key × V)} (r : RelKs K H l vs) : (vs.any fun kv => decide (kv.1 = kT t)) = l.any fun kv => decide (kv.1 = t) := by
  induction r with
  | nil => rfl
  | cons _ _ ih =>
    rw [List.any_cons, List.any_cons, ih]
    congr 1
    rw [decide_eq_decide]
    exact ⟨xz4, fun h => congrArg kT h⟩
theorem RelKs.rep {K : Fg} {H : Hp} {t : T3} {y : D} {v : V} (ry : RelD K H y v) {l : List (T3 × D)} {vs : List (List Key × V)} (r : RelKs K H l vs) : RelKs K H (l.map fun kv => if kv.1 = t then (kv.1, y) else kv) (vs.map fun kv => if kv.1 = kT t then (kv.1, v) else kv) := by
  induction r with
  | nil => exact .nil
  | cons h _ ih =>
    rename_i t' d' v' l' vs' _
    rw [List.map_cons, List.map_cons]
    by_cases c : t' = t
    · rw [if_pos c, if_pos (by rw [c])]; exact .cons ry ih
    · rw [if_neg c, if_neg (fun z => c (xz4 z))]; exact .cons h ih
theorem RelKs.snoc {K : Fg} {H : Hp} {t : T3} {y : D} {v : V} (ry : RelD K H y v) {l : List (T3 × D)} {vs : List (List Key × V)} (r : RelKs K H l vs) : RelKs K H (l ++ [(t, y)]) (vs ++ [(kT t, v)]) := by
  induction r with
  | nil => exact .cons ry .nil
  | cons h _ ih => exact .cons h ih
theorem RelKs.put {K : Fg} {H : Hp} {t : T3} {y : D} {v : V} (ry : RelD K H y v) {l : List (T3 × D)} {vs : List (List Key × V)} (r : RelKs K H l vs) : RelKs K H (putT l t y) (putK vs (kT t) v) := by
  unfold putT putK
  rw [r.any]
  split
  · exact r.rep ry
  · exact r.snoc ry
section
variable {X : Cx} {pos pos' : Pos}
theorem wi5 : RE X (.Dict [] [] pos) zo7 := ⟨_, zi4, fun σ H Q ρ μ Q3 s m h k p hp => k _ _ _ _ (h p (m.free hp)) (Kp.new hp) (.ref p) (m.newD hp)⟩
theorem yi5 {o value : Expr} {es : List Expr} {to tv : TE3} {tk : TA3} {x1} {pos2 : Pos} (hu : X.A.units + 64 < cLine) (ho : RE X o to) (hk : RA X es tk) (hv : RE X value tv)
    (hs : swapsWith value (some (.Subscript o (.Tuple es x1 pos2) pos')) pos.line X.env = pure false := by rfl) : RS X (.Assign [.Subscript o (.Tuple es x1 pos2) pos'] value pos) (xt5 to tk tv) := by
  obtain ⟨vo, po, ro⟩ := ho
  obtain ⟨vk, pk, rk⟩ := hk
  obtain ⟨vv, pv, rv⟩ := hv
  refine ⟨_, zl5 (by omega) po (wv4 pk) pv hs, fun σ H D ρ μ D3 s m h k => rv σ H _ ρ μ _ s m h fun y μ1 v H1 h1 k1 r1 m1 => ro σ H1 _ ρ μ1 _ (s.mono k1) m1 h1 fun d μ2 x H2 h2 k2 r2 m2 =>
    rk σ H2 _ ρ μ2 _ (s.mono (k1.trans k2)) m2 h2 fun ks μ3 xs H3 h3 k3 r3 m3 => ?_⟩
  split at h3
  · next p a b c =>
    split at h3
    · next kvs e =>
      cases r2
      cases r3 with
      | cons x1 r3 =>
        cases r3 with
        | cons x2 r3 =>
          cases r3 with
          | cons x3 r3 =>
            cases r3
            cases x1
            cases x2
            cases x3
            obtain ⟨ws, hw, rw'⟩ := m3.dct p kvs e
            refine ⟨show 3 ≤ sizeLine by decide, fun t ht => ?_⟩
            have hpt : p ≠ t := by intro z; subst z; rw [hw] at ht; cases ht
            have hw2 : upd H3 t (.tup [.int a, .int b, .int c]) p = some (.dT ws) := by rw [yd0 hpt]; exact hw
            have m4 := m3.newT (o := .tup [.int a, .int b, .int c]) ht
            have kt := Kp.new (o := .tup [.int a, .int b, .int c]) ht
            have ry := r1.mono (k2.trans (k3.trans kt))
            have hl := rw'.keys.2
            have hz : (1000 : Nat) < sizeLine := by decide
            refine ⟨p, _, rfl, DPut.t (k := kT (a, b, c)) hw2 wf0 (by omega), ?_⟩
            exact k.nx _ _ _ _ h3.2 (k1.trans (k2.trans (k3.trans (kt.trans (Kp.wrD hw2))))) (s.mono (k1.trans (k2.trans (k3.trans (kt.trans (Kp.wrD hw2)))))) (m4.wrD hw2 ((rw'.mono kt).put ry))
    · exact h3.elim
  · exact h3.elim
end
end Pv

namespace Pv
open PySem PySem.Spec PyProof.Rows L2
open PySem.AutoSeq1 (wpAny_loadPart')
theorem ndlt (x y : Int) : (!decide (x < y)) = decide (y ≤ x) := by
  by_cases h : x < y
  · rw [decide_eq_true h, decide_eq_false (by omega)]; rfl
  · rw [decide_eq_false h, decide_eq_true (by omega)]; rfl
theorem wr5 (p q : Addr) (a b : T3) (t1 t2 t3 u1 u2 u3 : Tok) (n m : Nat) (dd dd2 : Option Addr) (sl sl2 : Array (Option Value)) :
    Meets (Builtin.«tuple.__ge__» ⟨[.ref p, .ref q], []⟩) (fun A R s => s.heap.get? p = some { cls := .type "tuple", dict := dd, data := .seq #[.int a.1 t1, .int a.2.1 t2, .int a.2.2 t3] n, slots := sl } ∧ s.heap.get? q = some { cls := .type "tuple", dict := dd2, data := .seq #[.int b.1 u1, .int b.2.1 u2, .int b.2.2 u3] m, slots := sl2 } ∧
      R (.ok (.ret (.bool (!lt3 a b)))) s) :=
  .of_wp fun prog w A R s h => by
    obtain ⟨hp, g, dr, tk, os⟩ := s; obtain ⟨hl, hb, h⟩ := h
    obtain ⟨a1, a2, a3⟩ := a
    obtain ⟨b1, b2, b3⟩ := b
    have f2 := AutoSeq1.sub_tuple_tuple
    have ge : ∀ (x y : Int) (tx ty : Tok) {Q : Value → Shared → Prop} {E : Value → Shared → Prop} {A : Around} {s : Shared}, Q (.bool (decide (y ≤ x))) s → wpAny (model prog w) A (richCompare .GtE (.int x tx) (.int y ty)) Q E s := fun x y tx ty Q E A s hq => ge_int hq
    have eqb : ∀ (x y : Int) (tx ty : Tok) {Q : Bool → Shared → Prop} {E : Value → Shared → Prop} {A : Around} {s : Shared}, Q (x == y) s → wpAny (model prog w) A (eqBool (.int x tx) (.int y ty)) Q E s := fun x y tx ty Q E A s hq => wpAny_eqBool_int hq
    wp_walk using wpAny_loadPart' hl, wpAny_loadPart' hb, eqb a1 b1 t1 u1
    by_cases h1 : a1 = b1
    · rw [show (a1 == b1) = true by simpa using h1]
      wp_walk using eqb a2 b2 t2 u2
      by_cases h2 : a2 = b2
      · rw [show (a2 == b2) = true by simpa using h2]
        wp_walk using eqb a3 b3 t3 u3
        by_cases h3 : a3 = b3
        · rw [show (a3 == b3) = true by simpa using h3]
          wp_walk
          have h' : R (.ok (.ret (.bool true))) ⟨hp, g, dr, tk, os⟩ := by simpa [lt3, h1, h2, h3] using h
          exact ⟨_, rfl, h'⟩
        · rw [show (a3 == b3) = false by simpa using h3]
          wp_walk using ge a3 b3 t3 u3
          have e : (!lt3 (a1, a2, a3) (b1, b2, b3)) = decide (b3 ≤ a3) := by rw [show lt3 (a1, a2, a3) (b1, b2, b3) = decide (a3 < b3) by subst h1 h2; simp [lt3], ndlt]
          rw [e] at h
          exact ⟨_, rfl, by simpa using h⟩
      · rw [show (a2 == b2) = false by simpa using h2]
        wp_walk using ge a2 b2 t2 u2
        have e : (!lt3 (a1, a2, a3) (b1, b2, b3)) = decide (b2 ≤ a2) := by rw [show lt3 (a1, a2, a3) (b1, b2, b3) = decide (a2 < b2) by subst h1; simp [lt3, h2], ndlt]
        rw [e] at h
        exact ⟨_, rfl, by simpa using h⟩
    · rw [show (a1 == b1) = false by simpa using h1]
      wp_walk using ge a1 b1 t1 u1
      have e : (!lt3 (a1, a2, a3) (b1, b2, b3)) = decide (b1 ≤ a1) := by rw [show lt3 (a1, a2, a3) (b1, b2, b3) = decide (a1 < b1) by simp [lt3, h1], ndlt]
      rw [e] at h
      exact ⟨_, rfl, by simpa using h⟩
section
variable {prog : Program} {w : World} {A : Around} {R : Result → Shared → Prop} {I : Addr} {fp wr : List Addr} {n : Nat} {P : Nat → Value → Prop} {St : Nat → Heap → Prop}
end
section
variable {prog : Program} {w : World} {A : Around} {E : Value → Shared → Prop} {s : Shared}
end
end Pv

namespace Pv
open PySem PySem.Spec PyProof.Rows L2
section
variable {X : Cx}
noncomputable def ge3R : R3 := fun x y μ Q => match x, y with
  | .int i, .int j => Q (.bl (decide (j ≤ i))) μ
  | .tup [.int a, .int b, .int c], .tup [.int d, .int e, .int f] => Q (.bl (!lt3 (a, b, c) (d, e, f))) μ
  | _, _ => False
noncomputable def rGe3 (K : Fg) : R2 := fun x y H Q => ∃ p q a b, x = .ref p ∧ y = .ref q ∧ SqT K H p [.int a.1, .int a.2.1, .int a.2.2] ∧ SqT K H q [.int b.1, .int b.2.1, .int b.2.2] ∧ Q (.bl (!lt3 a b)) H
theorem zb6 {x y z : V} {us : List Value} (r : Vals [x, y, z] us) : ∃ a b c, us = [a, b, c] ∧ RelV x a ∧ RelV y b ∧ RelV z c := by
  cases r with
  | cons r1 r =>
    cases r with
    | cons r2 r =>
      cases r with
      | cons r3 r => cases r; exact ⟨_, _, _, rfl, r1, r2, r3⟩
theorem zh7 (hu : X.A.units < cLine) : OpR X (compareOp .GtE) (rGe3 X.K) := by
  intro pins s σ H x y v u Q I rx ry h
  obtain ⟨p, q, a, b, rfl, rfl, ha, hb, k⟩ := h
  cases rx
  cases ry
  obtain ⟨its, r1, ⟨⟨c1, d1, e1, l1⟩, o1, o2, n1, o3⟩, _⟩ := I.tuple ha
  obtain ⟨its2, r2, ⟨⟨c2, d2, e2, l2⟩, o4, o5, n2, o6⟩, _⟩ := I.tuple hb
  obtain ⟨_, _, _, rfl, ⟨t1, rfl⟩, ⟨t2, rfl⟩, ⟨t3, rfl⟩⟩ := zb6 r1
  obtain ⟨_, _, _, rfl, ⟨u1, rfl⟩, ⟨u2, rfl⟩, ⟨u3, rfl⟩⟩ := zb6 r2
  dsimp only at o2 o3 o5 o6
  subst o2 o3 o5 o6
  exact richCompare_meets_room (op := .GtE) (T := "tuple") ⟨_, o1, rfl⟩ ⟨_, o4, rfl⟩ PySem.F.slot_tuple_ge PySem.F.entry_tuple_ge (PySem.F.args_tuple_ge_2 _ _) (wr5 p q a b t1 t2 t3 u1 u2 u3 n1 n2 d1 d2 l1 l2) ⟨o1, o4, by simp, ⟨.bl (!lt3 a b), H, I, rfl, k⟩⟩ hu
theorem xc7 (hu : X.A.units + 64 < cLine) : RO X (compareOp .GtE) ge3R := by
  refine ⟨_, op_ge.or (zh7 (by omega)), fun x y v u H Q μ Q3 m rx ry h k => ?_⟩
  unfold ge3R at h
  split at h
  · cases rx
    cases ry
    exact .inl ⟨_, _, rfl, rfl, k _ _ _ _ h (Kp.refl _) (.bl _) m⟩
  · next a b c d e f =>
    cases rx with
    | tup hq rs =>
      cases ry with
      | tup hq2 rs2 =>
        cases rs with
        | cons x1 rs =>
          cases rs with
          | cons x2 rs =>
            cases rs with
            | cons x3 rs =>
              cases rs
              cases rs2 with
              | cons y1 rs2 =>
                cases rs2 with
                | cons y2 rs2 =>
                  cases rs2 with
                  | cons y3 rs2 =>
                    cases rs2
                    cases x1; cases x2; cases x3; cases y1; cases y2; cases y3
                    exact .inr ⟨_, _, (a, b, c), (d, e, f), rfl, rfl, hq, hq2, k _ _ _ _ h (Kp.refl _) (.bl _) m⟩
  · exact h.elim
end
end Pv

namespace Pv
open PySem
noncomputable abbrev Rise (xs : Array Nat) : Prop := xs.toList.Pairwise (· < ·)
theorem wv0 {xs : Array Nat} (h : Rise xs) {i j a b : Nat} (hi : xs[i]? = some a) (hj : xs[j]? = some b) (l : i < j) : a < b := by
  have h' := List.pairwise_iff_getElem.mp h
  rw [← Array.getElem?_toList] at hi hj
  obtain ⟨hi1, hi2⟩ := List.getElem?_eq_some_iff.mp hi
  obtain ⟨hj1, hj2⟩ := List.getElem?_eq_some_iff.mp hj
  rw [← hi2, ← hj2]
  exact h' i j hi1 hj1 l
theorem zz0 (xs : Array Nat) (j : Nat) (h : Rise xs) : ∀ (fuel lo hi : Nat), hi - lo ≤ fuel → lo ≤ hi → hi ≤ xs.size → (∀ i a, i < lo → xs[i]? = some a → a < j) → (∀ i a, hi ≤ i → xs[i]? = some a → j ≤ a) →
    (∀ i a, xs[i]? = some a → (i < SetTable.below.go xs j fuel lo hi ↔ a < j)) ∧ SetTable.below.go xs j fuel lo hi ≤ xs.size
  | 0, lo, hi, f, l1, l2, a1, a2 => by
    have e : lo = hi := by omega
    subst e
    unfold SetTable.below.go
    refine ⟨fun i a q => ⟨fun c => a1 i a c q, fun c => ?_⟩, l2⟩
    by_cases z : i < lo
    · exact z
    · have := a2 i a (by omega) q; omega
  | fuel + 1, lo, hi, f, l1, l2, a1, a2 => by
    unfold SetTable.below.go
    split
    · next c =>
      have m1 : (lo + hi) / 2 < hi := by omega
      have m2 : lo ≤ (lo + hi) / 2 := by omega
      have hm : xs[(lo + hi) / 2]? = some (xs.getD ((lo + hi) / 2) j) := by
        have : (lo + hi) / 2 < xs.size := by omega
        simp [Array.getD, this]
      dsimp only
      split
      · next c2 =>
        refine zz0 xs j h fuel _ _ (by omega) (by omega) l2 (fun i a z q => ?_) a2
        by_cases y : i = (lo + hi) / 2
        · subst y; rw [hm] at q; cases q; exact c2
        · exact Nat.lt_trans (wv0 h q hm (by omega)) c2
      · next c2 =>
        refine zz0 xs j h fuel _ _ (by omega) (by omega) (by omega) a1 (fun i a z q => ?_)
        by_cases y : i = (lo + hi) / 2
        · subst y; rw [hm] at q; cases q; omega
        · have := wv0 h hm q (by omega); omega
    · next c =>
      have e : lo = hi := by omega
      subst e
      refine ⟨fun i a q => ⟨fun c => a1 i a c q, fun c => ?_⟩, l2⟩
      by_cases z : i < lo
      · exact z
      · have := a2 i a (by omega) q; omega
theorem yq0 {xs : Array Nat} (h : Rise xs) (j : Nat) {i a : Nat} (q : xs[i]? = some a) : i < SetTable.below xs j ↔ a < j :=
  (zz0 xs j h xs.size 0 xs.size (by omega) (by omega) (Nat.le_refl _) (fun _ _ z => absurd z (Nat.not_lt_zero _)) (fun i a z q => by rw [Array.getElem?_eq_none z] at q; cases q)).1 i a q
theorem zu0 {xs : Array Nat} (h : Rise xs) (j : Nat) : SetTable.below xs j ≤ xs.size :=
  (zz0 xs j h xs.size 0 xs.size (by omega) (by omega) (Nat.le_refl _) (fun _ _ z => absurd z (Nat.not_lt_zero _)) (fun i a z q => by rw [Array.getElem?_eq_none z] at q; cases q)).2
theorem wu0 {xs : Array Nat} (h : Rise xs) {i j : Nat} (q : xs[i]? = some j) : SetTable.below xs j = i := by
  have h1 := yq0 h j q
  have h2 := zu0 h j
  by_cases c : SetTable.below xs j < i
  · have hi := (Array.getElem?_eq_some_iff.mp q).1
    obtain ⟨a, ha⟩ : ∃ a, xs[SetTable.below xs j]? = some a := ⟨_, Array.getElem?_eq_getElem (by omega)⟩
    have h3 := yq0 h j ha
    have h4 := wv0 h ha q c
    omega
  · omega
theorem yy1 {xs : Array Nat} {j : Nat} (h : j ∈ xs.toList) : ∃ i : Nat, xs[i]? = some j := by
  obtain ⟨i, hi⟩ := List.mem_iff_getElem?.mp h
  exact ⟨i, by rw [← Array.getElem?_toList]; exact hi⟩
theorem zg1 {xs : Array Nat} {i j : Nat} (h : xs[i]? = some j) : j ∈ xs.toList := List.mem_iff_getElem?.mpr ⟨i, by rw [Array.getElem?_toList]; exact h⟩
theorem xs0 {xs : Array Nat} (h : Rise xs) (j : Nat) : SetTable.has xs j = true ↔ j ∈ xs.toList := by
  unfold SetTable.has
  constructor
  · intro z; exact zg1 (eq_of_beq z)
  · intro z
    obtain ⟨i, hi⟩ := yy1 z
    rw [wu0 h hi, hi]
    exact beq_self_eq_true _
theorem wv1 {t : SetTable} (h : Rise t.place) {i j : Nat} : t.slot j = .live i ↔ t.place[i]? = some j := by
  unfold SetTable.slot
  dsimp only
  constructor
  · intro z
    split at z
    · next c => cases z; exact eq_of_beq c
    · split at z <;> cases z
  · intro z
    rw [wu0 h z, z]
    simp
theorem zi1 {t : SetTable} (h : Rise t.place) (hd : Rise t.dummies) {j : Nat} (dj : j ∈ t.dummies.toList → j ∉ t.place.toList) : t.slot j = .dummy ↔ j ∈ t.dummies.toList := by
  unfold SetTable.slot
  dsimp only
  constructor
  · intro z
    split at z
    · cases z
    · split at z
      · next c => exact (xs0 hd j).mp c
      · cases z
  · intro z
    rw [if_neg, if_pos ((xs0 hd j).mpr z)]
    intro c
    exact dj z (zg1 (eq_of_beq c))
theorem yi1 {t : SetTable} (h : Rise t.place) (hd : Rise t.dummies) {j : Nat} : t.slot j = .empty ↔ j ∉ t.place.toList ∧ j ∉ t.dummies.toList := by
  unfold SetTable.slot
  dsimp only
  constructor
  · intro z
    split at z
    · cases z
    · next c =>
      split at z
      · cases z
      · next c2 =>
        refine ⟨fun m => c ?_, fun m => c2 ((xs0 hd j).mpr m)⟩
        obtain ⟨i, hi⟩ := yy1 m
        rw [wu0 h hi, hi]
        exact beq_self_eq_true _
  · rintro ⟨z1, z2⟩
    rw [if_neg (fun c => z1 (zg1 (eq_of_beq c))), if_neg (fun c => z2 ((xs0 hd j).mp c))]
noncomputable def mkT (mask : Nat) : SetTable := { SetTable.fresh 0 0 false with mask := mask }
noncomputable def trS (mask : Nat) (h : Int) : Nat → SetTable.Probe
  | 0 => (mkT mask).probeStart h
  | n + 1 => (mkT mask).advance (trS mask h n)
noncomputable abbrev tr (mask : Nat) (h : Int) (n : Nat) : Nat := (trS mask h n).j
theorem zd2 (t : SetTable) (p : SetTable.Probe) (d : Option Nat) : t.advance { p with dummy := d } = { t.advance p with dummy := d } := by
  unfold SetTable.advance
  dsimp only
  split <;> rfl
noncomputable def seg (mask i perturb : Nat) : SetTable.Probe := { j := i, more := SetTable.runEnd mask i - i, i := i, perturb := perturb, dummy := none }
theorem run9 (mask i : Nat) : SetTable.runEnd mask i - i ≤ 9 := by unfold SetTable.runEnd; split <;> omega
theorem zo6 (mask i : Nat) : i ≤ SetTable.runEnd mask i := by unfold SetTable.runEnd; split <;> omega
theorem wo6 (mask i : Nat) (h : i ≤ mask) : SetTable.runEnd mask i ≤ mask := by unfold SetTable.runEnd; split <;> omega
theorem wm1 {mask : Nat} {h : Int} {n i p : Nat} (e : trS mask h n = seg mask i p) : ∀ k, k ≤ SetTable.runEnd mask i - i → trS mask h (n + k) = { seg mask i p with j := i + k, more := SetTable.runEnd mask i - i - k }
  | 0, _ => e
  | k + 1, hk => by
    have ih := wm1 e k (by omega)
    show (mkT mask).advance (trS mask h (n + k)) = _
    rw [ih]
    unfold SetTable.advance
    dsimp only [seg]
    rw [if_pos (by omega)]
    congr 1
theorem yy0 {mask : Nat} {h : Int} {n i p : Nat} (e : trS mask h n = seg mask i p) : trS mask h (n + (SetTable.runEnd mask i - i) + 1) = seg mask (SetTable.leap mask i p).1 (SetTable.leap mask i p).2 := by
  have ih := wm1 e _ (Nat.le_refl _)
  show (mkT mask).advance (trS mask h (n + (SetTable.runEnd mask i - i))) = _
  rw [ih]
  unfold SetTable.advance
  dsimp only [seg]
  rw [if_neg (by omega)]
  rfl
noncomputable def lp (mask : Nat) : Nat → Nat × Nat → Nat × Nat
  | 0, x => x
  | k + 1, x => lp mask k (SetTable.leap mask x.1 x.2)
theorem yt4 {mask : Nat} {h : Int} : ∀ (K : Nat) {n i p : Nat}, trS mask h n = seg mask i p → ∃ m, n ≤ m ∧ m ≤ n + 10 * K ∧ trS mask h m = seg mask (lp mask K (i, p)).1 (lp mask K (i, p)).2
  | 0, n, i, p, e => ⟨n, Nat.le_refl _, Nat.le_refl _, e⟩
  | K + 1, n, i, p, e => by
    obtain ⟨m, h1, h2, h3⟩ := yt4 K (yy0 e)
    have := run9 mask i
    exact ⟨m, by omega, by omega, h3⟩
theorem yx4 (mask : Nat) : ∀ (a b : Nat) (x : Nat × Nat), lp mask (a + b) x = lp mask b (lp mask a x)
  | 0, b, x => by rw [Nat.zero_add]; rfl
  | a + 1, b, x => by rw [show a + 1 + b = (a + b) + 1 by omega]; exact yx4 mask a b _
theorem xx4 (mask : Nat) : ∀ (k : Nat) (x : Nat × Nat), x.2 < 32 ^ k → (lp mask k x).2 = 0
  | 0, x, h => by simp at h; exact h
  | k + 1, x, h => xx4 mask k _ (by show x.2 / 32 < 32 ^ k; rw [Nat.pow_succ] at h; omega)
noncomputable def f0 (mask i : Nat) : Nat := (i * 5 + 1) % (mask + 1)
noncomputable def fN (mask : Nat) : Nat → Nat → Nat
  | 0, i => i
  | k + 1, i => fN mask k (f0 mask i)
theorem wr3 (mask : Nat) : ∀ (k i : Nat), lp mask k (i, 0) = (fN mask k i, 0)
  | 0, i => rfl
  | k + 1, i => by
    show lp mask k (SetTable.leap mask i 0) = _
    have : SetTable.leap mask i 0 = (f0 mask i, 0) := by unfold SetTable.leap f0; simp
    rw [this, wr3 mask k]
    rfl
theorem zt2 (mask : Nat) : ∀ (a b i : Nat), fN mask (a + b) i = fN mask b (fN mask a i)
  | 0, b, i => by rw [Nat.zero_add]; rfl
  | a + 1, b, i => by rw [show a + 1 + b = (a + b) + 1 by omega]; exact zt2 mask a b _
noncomputable def okM : List Nat := [7, 15, 31, 63, 127, 255]
noncomputable def orb (mask : Nat) : Nat → Nat → List Nat
  | 0, _ => []
  | k + 1, i => i :: orb mask k (f0 mask i)
theorem yq3 (mask : Nat) : ∀ (k i r : Nat) (x : Nat), (orb mask k i)[r]? = some x → r < k ∧ fN mask r i = x
  | 0, i, r, x, h => by simp [orb] at h
  | k + 1, i, 0, x, h => by simp [orb] at h; exact ⟨by omega, h⟩
  | k + 1, i, r + 1, x, h => by
    simp only [orb, List.getElem?_cons_succ] at h
    obtain ⟨a, b⟩ := yq3 mask k _ r x h
    exact ⟨by omega, b⟩
theorem yo5 : ∀ m ∈ okM, ((List.range (m + 1)).all fun e => (orb m (m + 1) 0).contains e) = true ∧ fN m (m + 1) 0 = 0 := by decide +kernel
theorem yq7 {mask : Nat} (hm : mask ∈ okM) {i e : Nat} (hi : i ≤ mask) (he : e ≤ mask) : ∃ r, r ≤ mask ∧ fN mask r i = e := by
  obtain ⟨h1, h2⟩ := yo5 mask hm
  have g : ∀ x, x ≤ mask → ∃ r, r ≤ mask ∧ fN mask r 0 = x := fun x hx => by
    have := List.all_eq_true.mp h1 x (List.mem_range.mpr (by omega))
    obtain ⟨r, hr⟩ := List.mem_iff_getElem?.mp (List.contains_iff_mem.mp this)
    obtain ⟨a, b⟩ := yq3 mask _ _ _ _ hr
    exact ⟨r, by omega, b⟩
  obtain ⟨a, ha, ea⟩ := g i hi
  obtain ⟨b, hb, eb⟩ := g e he
  by_cases c : a ≤ b
  · refine ⟨b - a, by omega, ?_⟩
    have := zt2 mask a (b - a) 0
    rw [show a + (b - a) = b by omega, eb, ea] at this
    exact this.symm
  · refine ⟨mask + 1 - a + b, by omega, ?_⟩
    have h3 := zt2 mask a (mask + 1 - a) 0
    rw [show a + (mask + 1 - a) = mask + 1 by omega, h2, ea] at h3
    rw [zt2, ← h3, eb]
theorem yj7 {mask : Nat} : ∀ (k : Nat) (x : Nat × Nat), x.1 ≤ mask → (lp mask k x).1 ≤ mask
  | 0, x, h => h
  | k + 1, x, _ => yj7 k _ (by show (x.1 * 5 + 1 + x.2 / 32) % (mask + 1) ≤ mask; have := Nat.mod_lt (x.1 * 5 + 1 + x.2 / 32) (show mask + 1 > 0 by omega); omega)
theorem wr2 {mask : Nat} (hm : mask ∈ okM) {i p e : Nat} (hi : i ≤ mask) (hp : p < 2 ^ 64) (he : e ≤ mask) : ∃ K, K ≤ 13 + mask ∧ (lp mask K (i, p)).1 = e := by
  have h1 := xx4 mask 13 (i, p) (Nat.lt_of_lt_of_le hp (by decide))
  have h2 := yj7 13 (i, p) hi
  obtain ⟨r, hr, er⟩ := yq7 hm h2 he
  refine ⟨13 + r, by omega, ?_⟩
  rw [yx4, show lp mask 13 (i, p) = ((lp mask 13 (i, p)).1, 0) from Prod.ext rfl h1, wr3, er]
theorem ya4 (h : Int) : SetTable.bits h < 2 ^ 64 := by
  unfold SetTable.bits
  have := Int.emod_lt_of_pos h (show (0 : Int) < 2 ^ 64 by decide)
  have := Int.emod_nonneg h (show (2 ^ 64 : Int) ≠ 0 by decide)
  omega
theorem yv1 (mask : Nat) (h : Int) : trS mask h 0 = seg mask (SetTable.bits h % (mask + 1)) (SetTable.bits h) := rfl
theorem wc6 {mask : Nat} (h : Int) (n : Nat) : ∃ n0 i p k, n = n0 + k ∧ trS mask h n0 = seg mask i p ∧ i ≤ mask ∧ p < 2 ^ 64 ∧ k ≤ SetTable.runEnd mask i - i := by
  induction n with
  | zero => exact ⟨0, _, _, 0, rfl, yv1 mask h, by have := Nat.mod_lt (SetTable.bits h) (show mask + 1 > 0 by omega); omega, ya4 h, Nat.zero_le _⟩
  | succ n ih =>
    obtain ⟨n0, i, p, k, e1, e2, e3, e4, e5⟩ := ih
    by_cases c : k + 1 ≤ SetTable.runEnd mask i - i
    · exact ⟨n0, i, p, k + 1, by omega, e2, e3, e4, c⟩
    · refine ⟨n0 + (SetTable.runEnd mask i - i) + 1, _, _, 0, by omega, yy0 e2, ?_, ?_, Nat.zero_le _⟩
      · show (i * 5 + 1 + p / 32) % (mask + 1) ≤ mask; have := Nat.mod_lt (i * 5 + 1 + p / 32) (show mask + 1 > 0 by omega); omega
      · show p / 32 < 2 ^ 64; omega
theorem xe5 {mask : Nat} (h : Int) (n : Nat) : tr mask h n ≤ mask := by
  obtain ⟨n0, i, p, k, e1, e2, e3, e4, e5⟩ := wc6 (mask := mask) h n
  subst e1
  show (trS mask h (n0 + k)).j ≤ mask
  rw [wm1 e2 k e5]
  show i + k ≤ mask
  have := wo6 mask i e3
  omega
theorem zm2 {mask : Nat} (hm : mask ∈ okM) (h : Int) (n : Nat) {e : Nat} (he : e ≤ mask) : ∃ m, n ≤ m ∧ m < n + 10 * SetTable.turns mask ∧ tr mask h m = e := by
  obtain ⟨n0, i, p, k, e1, e2, e3, e4, e5⟩ := wc6 (mask := mask) h n
  have e6 := yy0 e2
  have l1 : (SetTable.leap mask i p).1 ≤ mask := by show (i * 5 + 1 + p / 32) % (mask + 1) ≤ mask; have := Nat.mod_lt (i * 5 + 1 + p / 32) (show mask + 1 > 0 by omega); omega
  obtain ⟨K, hK, eK⟩ := wr2 hm l1 (show (SetTable.leap mask i p).2 < 2 ^ 64 by show p / 32 < 2 ^ 64; omega) he
  obtain ⟨m, h1, h2, h3⟩ := yt4 K e6
  have := run9 mask i
  refine ⟨m, by omega, by unfold SetTable.turns; omega, ?_⟩
  show (trS mask h m).j = e
  rw [h3]
  exact eK
end Pv

namespace Pv
open PySem
noncomputable def Occ (t : SetTable) (j : Nat) : Prop := j ∈ t.place.toList ∨ j ∈ t.dummies.toList
structure TOk (t : SetTable) (hs : List Int) : Prop where
  ris : Rise t.place
  rid : Rise t.dummies
  dj : ∀ j, j ∈ t.dummies.toList → j ∉ t.place.toList
  inP : ∀ j, j ∈ t.place.toList → j ≤ t.mask
  inD : ∀ j, j ∈ t.dummies.toList → j ≤ t.mask
  msk : t.mask ∈ okM
  sz : t.place.size = hs.length
  reach : ∀ (i j : Nat) (h : Int), t.place[i]? = some j → hs[i]? = some h → ∃ m, tr t.mask h m = j ∧ ∀ l, l < m → Occ t (tr t.mask h l)
theorem TOk.occ {t : SetTable} {hs : List Int} (k : TOk t hs) (j : Nat) : Occ t j ↔ t.slot j ≠ .empty := by
  rw [Ne, yi1 k.ris k.rid]
  unfold Occ
  constructor
  · rintro (z | z) ⟨a, b⟩
    · exact a z
    · exact b z
  · intro z
    by_cases c : j ∈ t.place.toList
    · exact .inl c
    · by_cases d : j ∈ t.dummies.toList
      · exact .inr d
      · exact absurd ⟨c, d⟩ z
theorem yv4 : ∀ (M : Nat) (L : List Nat), (∀ e, e < M → e ∈ L) → M ≤ L.length
  | 0, _, _ => Nat.zero_le _
  | M + 1, L, h => by
    have h1 := h M (Nat.lt_succ_self _)
    have h2 := yv4 M (L.erase M) fun e he => (List.mem_erase_of_ne (Nat.ne_of_lt he)).mpr (h e (Nat.lt_succ_of_lt he))
    rw [List.length_erase_of_mem h1] at h2
    have := List.length_pos_of_mem h1
    omega
theorem TOk.hole {t : SetTable} {hs : List Int} (k : TOk t hs) (r : t.fill ≤ t.mask) : ∃ e, e ≤ t.mask ∧ t.slot e = .empty := by
  refine Classical.byContradiction fun c => ?_
  have := yv4 (t.mask + 1) (t.place.toList ++ t.dummies.toList) fun e he => by
    have h1 : Occ t e := (k.occ e).mpr fun z => c ⟨e, by omega, z⟩
    exact List.mem_append.mpr h1
  rw [List.length_append] at this
  simp only [Array.length_toList] at this
  unfold SetTable.fill at r
  omega
noncomputable def Sk (t : SetTable) (hashAt : Nat → Int) (h : Int) (n m : Nat) : Prop := ∀ l, n ≤ l → l < m → t.slot (tr t.mask h l) ≠ .empty ∧ ∀ i, t.slot (tr t.mask h l) = .live i → hashAt i ≠ h
noncomputable def DumOk (t : SetTable) (h : Int) (d : Option Nat) (n : Nat) : Prop := ∀ x, d = some x → ∃ l, l < n ∧ tr t.mask h l = x ∧ t.slot x = .dummy
theorem DumOk.up {t : SetTable} {h : Int} {d : Option Nat} {n m : Nat} (k : DumOk t h d n) (l : n ≤ m) : DumOk t h d m := fun x e => by
  obtain ⟨a, b, c⟩ := k x e
  exact ⟨a, by omega, c⟩
theorem Sk.cons {t : SetTable} {hashAt : Nat → Int} {h : Int} {n m : Nat} (a : t.slot (tr t.mask h n) ≠ .empty) (b : ∀ i, t.slot (tr t.mask h n) = .live i → hashAt i ≠ h) (k : Sk t hashAt h (n + 1) m) : Sk t hashAt h n m := fun l h1 h2 => by
  by_cases c : l = n
  · subst c; exact ⟨a, b⟩
  · exact k l (by omega) h2
theorem yj2 (t : SetTable) (hashAt : Nat → Int) (h : Int) : ∀ (fuel n : Nat) (d : Option Nat), DumOk t h d n → (∃ m, n ≤ m ∧ m < n + fuel ∧ t.slot (tr t.mask h m) = .empty) →
    (∃ m d', SetTable.probe.go t hashAt h fuel { trS t.mask h n with dummy := d } = some (.empty (tr t.mask h m) d') ∧ n ≤ m ∧ t.slot (tr t.mask h m) = .empty ∧ Sk t hashAt h n m ∧ DumOk t h d' m) ∨
    (∃ m i d', SetTable.probe.go t hashAt h fuel { trS t.mask h n with dummy := d } = some (.candidate (tr t.mask h m) i { trS t.mask h (m + 1) with dummy := d' }) ∧ n ≤ m ∧ t.slot (tr t.mask h m) = .live i ∧ hashAt i = h ∧ Sk t hashAt h n m ∧ DumOk t h d' m)
  | 0, n, d, k, c => by obtain ⟨m, a, b, _⟩ := c; omega
  | fuel + 1, n, d, k, c => by
    have nx : t.slot (tr t.mask h n) ≠ .empty → ∃ m, n + 1 ≤ m ∧ m < n + 1 + fuel ∧ t.slot (tr t.mask h m) = .empty := fun z => by
      obtain ⟨m, a, b, e⟩ := c
      refine ⟨m, ?_, by omega, e⟩
      by_cases y : m = n
      · subst y; exact absurd e z
      · omega
    unfold SetTable.probe.go
    dsimp only
    cases hs : t.slot (tr t.mask h n) with
    | empty => exact .inl ⟨n, d, rfl, Nat.le_refl _, hs, fun l a b => by omega, k⟩
    | dummy =>
      dsimp only
      have e1 : t.advance { trS t.mask h n with dummy := some (tr t.mask h n) } = { trS t.mask h (n + 1) with dummy := some (tr t.mask h n) } := zd2 t (trS t.mask h n) _
      rw [e1]
      have k' : DumOk t h (some (tr t.mask h n)) (n + 1) := fun x e => by cases e; exact ⟨n, Nat.lt_succ_self _, rfl, hs⟩
      have e2 : t.slot (tr t.mask h n) ≠ .empty := by rw [hs]; intro z; cases z
      have e3 : ∀ i, t.slot (tr t.mask h n) = .live i → hashAt i ≠ h := fun i z => by rw [hs] at z; cases z
      rcases yj2 t hashAt h fuel (n + 1) _ k' (nx e2) with ⟨m, d', a1, a2, a3, a4, a5⟩ | ⟨m, i, d', a1, a2, a3, a4, a5, a6⟩
      · exact .inl ⟨m, d', a1, by omega, a3, a4.cons e2 e3, a5⟩
      · exact .inr ⟨m, i, d', a1, by omega, a3, a4, a5.cons e2 e3, a6⟩
    | live i =>
      dsimp only
      have e1 : t.advance { trS t.mask h n with dummy := d } = { trS t.mask h (n + 1) with dummy := d } := zd2 t (trS t.mask h n) _
      rw [e1]
      have e2 : t.slot (tr t.mask h n) ≠ .empty := by rw [hs]; intro z; cases z
      by_cases c2 : hashAt i = h
      · rw [if_pos (by simpa using c2)]
        exact .inr ⟨n, i, d, rfl, Nat.le_refl _, hs, c2, fun l a b => by omega, k⟩
      · rw [if_neg (by simpa using c2)]
        have e3 : ∀ i, t.slot (tr t.mask h n) = .live i → hashAt i ≠ h := fun i' z => by rw [hs] at z; cases z; exact c2
        rcases yj2 t hashAt h fuel (n + 1) _ (k.up (Nat.le_succ _)) (nx e2) with ⟨m, d', a1, a2, a3, a4, a5⟩ | ⟨m, i, d', a1, a2, a3, a4, a5, a6⟩
        · exact .inl ⟨m, d', a1, by omega, a3, a4.cons e2 e3, a5⟩
        · exact .inr ⟨m, i, d', a1, by omega, a3, a4, a5.cons e2 e3, a6⟩
theorem TOk.probe {t : SetTable} {hs : List Int} (k : TOk t hs) (r : t.fill ≤ t.mask) (hashAt : Nat → Int) (h : Int) (n : Nat) (d : Option Nat) (kd : DumOk t h d n) :
    (∃ m d', t.probe hashAt h { trS t.mask h n with dummy := d } = some (.empty (tr t.mask h m) d') ∧ n ≤ m ∧ t.slot (tr t.mask h m) = .empty ∧ Sk t hashAt h n m ∧ DumOk t h d' m) ∨
    (∃ m i d', t.probe hashAt h { trS t.mask h n with dummy := d } = some (.candidate (tr t.mask h m) i { trS t.mask h (m + 1) with dummy := d' }) ∧ n ≤ m ∧ t.slot (tr t.mask h m) = .live i ∧ hashAt i = h ∧ Sk t hashAt h n m ∧ DumOk t h d' m) := by
  obtain ⟨e, he, ee⟩ := k.hole r
  obtain ⟨m, h1, h2, h3⟩ := zm2 k.msk h n he
  exact yj2 t hashAt h _ n d kd ⟨m, h1, h2, by rw [h3]; exact ee⟩
theorem xk1 {α : Type} {xs : List α} {p : Nat} {x : α} {i : Nat} (hp : p ≤ xs.length) (h : i < p) : (xs.take p ++ x :: xs.drop p)[i]? = xs[i]? := by
  rw [List.getElem?_append_left (by rw [List.length_take]; omega), List.getElem?_take_of_lt h]
theorem zk1 {α : Type} {xs : List α} {p : Nat} {x : α} (hp : p ≤ xs.length) : (xs.take p ++ x :: xs.drop p)[p]? = some x := by
  rw [List.getElem?_append_right (by rw [List.length_take]; omega), List.length_take, show p - min p xs.length = 0 by omega]
  rfl
theorem yk1 {α : Type} {xs : List α} {p : Nat} {x : α} {i : Nat} (hp : p ≤ xs.length) (h : p ≤ i) : (xs.take p ++ x :: xs.drop p)[i + 1]? = xs[i]? := by
  rw [List.getElem?_append_right (by rw [List.length_take]; omega), List.length_take, show i + 1 - min p xs.length = (i - p) + 1 by omega, List.getElem?_cons_succ, List.getElem?_drop]
  congr 1
  omega
noncomputable def insL {α : Type} (xs : List α) (p : Nat) (x : α) : List α := xs.take p ++ x :: xs.drop p
theorem wt0 {α : Type} (xs : List α) (p : Nat) (x y : α) : y ∈ insL xs p x ↔ y = x ∨ y ∈ xs := by
  have e : xs = xs.take p ++ xs.drop p := (List.take_append_drop p xs).symm
  unfold insL
  rw [List.mem_append, List.mem_cons]
  constructor
  · rintro (z | z | z)
    · exact .inr (List.mem_of_mem_take z)
    · exact .inl z
    · exact .inr (List.mem_of_mem_drop z)
  · rintro (z | z)
    · exact .inr (.inl z)
    · rw [e] at z
      rcases List.mem_append.mp z with z | z
      · exact .inl z
      · exact .inr (.inr z)
theorem zl0 {α : Type} (xs : List α) (p : Nat) (x : α) : (insL xs p x).length = xs.length + 1 := by
  unfold insL
  rw [List.length_append, List.length_cons, List.length_take, List.length_drop]
  omega
theorem xt2 {α β : Type} (f : α → β) (xs : List α) (p : Nat) (x : α) : (insL xs p x).map f = insL (xs.map f) p (f x) := by
  unfold insL
  rw [List.map_append, List.map_cons, List.map_take, List.map_drop]
theorem xp2 {xs : Array Nat} (h : Rise xs) {j : Nat} (hn : j ∉ xs.toList) : (insL xs.toList (SetTable.below xs j) j).Pairwise (· < ·) := by
  have b : ∀ {i a : Nat}, xs[i]? = some a → (i < SetTable.below xs j ↔ a < j) := fun q => yq0 h j q
  have hb := zu0 h j
  have e : xs.toList = xs.toList.take (SetTable.below xs j) ++ xs.toList.drop (SetTable.below xs j) := (List.take_append_drop _ _).symm
  have h' := h
  unfold Rise at h'
  rw [e] at h'
  obtain ⟨h1, h2, h3⟩ := List.pairwise_append.mp h'
  unfold insL
  refine List.pairwise_append.mpr ⟨h1, List.pairwise_cons.mpr ⟨fun x hx => ?_, h2⟩, fun x hx y hy => ?_⟩
  · obtain ⟨i, hi⟩ := List.mem_iff_getElem?.mp hx
    rw [List.getElem?_drop, Array.getElem?_toList] at hi
    have := b hi
    have ne : x ≠ j := fun z => hn (by subst z; exact zg1 hi)
    omega
  · have hxl : x < j := by
      obtain ⟨i, hi⟩ := List.mem_iff_getElem?.mp hx
      have hlt : i < SetTable.below xs j := by
        have := (List.getElem?_eq_some_iff.mp hi).1
        rw [List.length_take] at this
        omega
      rw [List.getElem?_take_of_lt hlt, Array.getElem?_toList] at hi
      exact (b hi).mp hlt
    rcases List.mem_cons.mp hy with rfl | hy
    · exact hxl
    · exact h3 x hx y hy
theorem xw3 {xs : Array Nat} (h : Rise xs) {p j : Nat} (hp : xs[p]? = some j) (x : Nat) : x ∈ (SetTable.eraseAt xs p).toList ↔ x ∈ xs.toList ∧ x ≠ j := by
  have hpl := (Array.getElem?_eq_some_iff.mp hp).1
  have e : (SetTable.eraseAt xs p).toList = xs.toList.take p ++ xs.toList.drop (p + 1) := by
    simp [SetTable.eraseAt, List.extract_eq_take_drop, List.take_of_length_le]
  rw [e, List.mem_append]
  constructor
  · rintro (z | z)
    · obtain ⟨i, hi⟩ := List.mem_iff_getElem?.mp z
      have hlt : i < p := by
        have := (List.getElem?_eq_some_iff.mp hi).1
        rw [List.length_take] at this
        omega
      rw [List.getElem?_take_of_lt hlt, Array.getElem?_toList] at hi
      exact ⟨zg1 hi, Nat.ne_of_lt (wv0 h hi hp hlt)⟩
    · obtain ⟨i, hi⟩ := List.mem_iff_getElem?.mp z
      rw [List.getElem?_drop, Array.getElem?_toList] at hi
      exact ⟨zg1 hi, Nat.ne_of_gt (wv0 h hp hi (by omega))⟩
  · rintro ⟨z, ne⟩
    obtain ⟨i, hi⟩ := yy1 z
    have hil := (Array.getElem?_eq_some_iff.mp hi).1
    by_cases c : i < p
    · exact .inl (List.mem_iff_getElem?.mpr ⟨i, by rw [List.getElem?_take_of_lt c, Array.getElem?_toList]; exact hi⟩)
    · have : i ≠ p := fun y => by subst y; rw [hp] at hi; cases hi; exact ne rfl
      exact .inr (List.mem_iff_getElem?.mpr ⟨i - (p + 1), by rw [List.getElem?_drop, show p + 1 + (i - (p + 1)) = i by omega, Array.getElem?_toList]; exact hi⟩)
theorem wr1 (xs : Array Nat) (p : Nat) : (SetTable.eraseAt xs p).toList = xs.toList.take p ++ xs.toList.drop (p + 1) := by
  simp [SetTable.eraseAt, List.extract_eq_take_drop, List.take_of_length_le]
theorem yp2 {xs : Array Nat} (h : Rise xs) (p : Nat) : Rise (SetTable.eraseAt xs p) := by
  unfold Rise
  rw [wr1]
  have e : xs.toList = xs.toList.take p ++ xs.toList.drop p := (List.take_append_drop p xs.toList).symm
  refine List.Pairwise.sublist ?_ h
  conv => rhs; rw [e]
  refine List.Sublist.append (List.Sublist.refl _) ?_
  rw [← List.drop_drop]
  exact List.drop_sublist _ _
theorem zr0 {t : SetTable} (k : Rise t.dummies) (j x : Nat) : x ∈ (t.put j).1.dummies.toList ↔ x ∈ t.dummies.toList ∧ x ≠ j := by
  show x ∈ (if SetTable.has t.dummies j then SetTable.eraseAt t.dummies (SetTable.below t.dummies j) else t.dummies).toList ↔ _
  by_cases c : SetTable.has t.dummies j = true
  · rw [if_pos c]
    obtain ⟨i, hi⟩ := yy1 ((xs0 k j).mp c)
    rw [wu0 k hi]
    exact xw3 k hi x
  · rw [if_neg c]
    exact ⟨fun z => ⟨z, fun y => by subst y; exact c ((xs0 k x).mpr z)⟩, fun z => z.1⟩
theorem wj0 (t : SetTable) (j : Nat) : (t.put j).1.place.toList = insL t.place.toList (SetTable.below t.place j) j := SetTable.toList_insertAt _ _ _
theorem TOk.put {t : SetTable} {hs : List Int} (k : TOk t hs) {x : Nat} {h : Int} (hx : x ∉ t.place.toList) (hr : ∃ m, tr t.mask h m = x ∧ ∀ l, l < m → Occ t (tr t.mask h l)) :
    TOk (t.put x).1 (insL hs (SetTable.below t.place x) h) := by
  have hb := zu0 k.ris x
  have sz := k.sz
  have oc : ∀ j, Occ t j → Occ (t.put x).1 j := fun j o => by
    unfold Occ
    rw [wj0, wt0, zr0 k.rid]
    by_cases c : j = x
    · exact .inl (.inl c)
    · exact o.elim (fun z => .inl (.inr z)) fun z => .inr ⟨z, c⟩
  have hxm : x ≤ t.mask := by obtain ⟨m, e, _⟩ := hr; rw [← e]; exact xe5 h m
  refine ⟨?_, ?_, fun j a b => ?_, fun j a => ?_, fun j a => ?_, k.msk, ?_, fun i j h' a b => ?_⟩
  · unfold Rise; rw [wj0]; exact xp2 k.ris hx
  · show Rise (if SetTable.has t.dummies x then SetTable.eraseAt t.dummies (SetTable.below t.dummies x) else t.dummies)
    split
    · exact yp2 k.rid _
    · exact k.rid
  · rw [zr0 k.rid] at a
    rw [wj0, wt0] at b
    rcases b with rfl | b
    · exact a.2 rfl
    · exact k.dj j a.1 b
  · rw [wj0, wt0] at a
    rcases a with rfl | a
    · exact hxm
    · exact k.inP j a
  · rw [zr0 k.rid] at a
    exact k.inD j a.1
  · rw [← Array.length_toList, wj0, zl0, zl0, Array.length_toList, sz]
  · have lp : SetTable.below t.place x ≤ t.place.toList.length := by rw [Array.length_toList]; exact hb
    have lh : SetTable.below t.place x ≤ hs.length := by rw [← sz]; exact hb
    rw [← Array.getElem?_toList, wj0] at a
    show ∃ m, tr t.mask h' m = j ∧ ∀ l, l < m → Occ (t.put x).1 (tr t.mask h' l)
    unfold insL at a b
    by_cases c : i < SetTable.below t.place x
    · rw [xk1 lp c, Array.getElem?_toList] at a
      rw [xk1 lh c] at b
      obtain ⟨m, e, o⟩ := k.reach i j h' a b
      exact ⟨m, e, fun l hl => oc _ (o l hl)⟩
    · by_cases c2 : i = SetTable.below t.place x
      · subst c2
        rw [zk1 lp] at a
        rw [zk1 lh] at b
        cases a
        cases b
        obtain ⟨m, e, o⟩ := hr
        exact ⟨m, e, fun l hl => oc _ (o l hl)⟩
      · obtain ⟨i', rfl⟩ : ∃ i', i = i' + 1 := ⟨i - 1, by omega⟩
        rw [yk1 lp (by omega), Array.getElem?_toList] at a
        rw [yk1 lh (by omega)] at b
        obtain ⟨m, e, o⟩ := k.reach i' j h' a b
        exact ⟨m, e, fun l hl => oc _ (o l hl)⟩
theorem wg4 {t : SetTable} {hs : List Int} (k : TOk t hs) {x : Nat} : (t.put x).1.fill ≤ t.fill + 1 := by
  unfold SetTable.fill
  have h1 : (t.put x).1.place.size = t.place.size + 1 := by rw [← Array.length_toList, wj0, zl0, Array.length_toList]
  have h2 : (t.put x).1.dummies.size ≤ t.dummies.size := by
    show (if SetTable.has t.dummies x then SetTable.eraseAt t.dummies (SetTable.below t.dummies x) else t.dummies).size ≤ _
    split
    · rw [← Array.length_toList, wr1, List.length_append, List.length_take, List.length_drop, Array.length_toList]; omega
    · exact Nat.le_refl _
  omega
theorem zb3 {t : SetTable} {hs : List Int} (k : TOk t hs) {x : Nat} (hd : t.slot x = .dummy) : (t.put x).1.fill ≤ t.fill := by
  unfold SetTable.fill
  have h1 : (t.put x).1.place.size = t.place.size + 1 := by rw [← Array.length_toList, wj0, zl0, Array.length_toList]
  have m := (zi1 k.ris k.rid (k.dj x)).mp hd
  obtain ⟨i, hi⟩ := yy1 m
  have hil := (Array.getElem?_eq_some_iff.mp hi).1
  have h2 : (t.put x).1.dummies.size + 1 ≤ t.dummies.size := by
    show (if SetTable.has t.dummies x then SetTable.eraseAt t.dummies (SetTable.below t.dummies x) else t.dummies).size + 1 ≤ _
    rw [if_pos ((xs0 k.rid x).mpr m), wu0 k.rid hi, ← Array.length_toList, wr1, List.length_append, List.length_take, List.length_drop, Array.length_toList]
    omega
  omega
end Pv

namespace Pv
open PySem
theorem ya2 (mask : Nat) (h : Int) (owner : Array (Option Nat)) : ∀ (fuel n i p : Nat), trS mask h n = seg mask i p → (∃ K, K < fuel ∧ owner.getD (lp mask K (i, p)).1 (some 0) = none) →
    ∃ m, SetTable.layClean.free mask owner fuel i p = some (tr mask h m) ∧ n ≤ m ∧ owner.getD (tr mask h m) (some 0) = none ∧ ∀ l, n ≤ l → l < m → owner.getD (tr mask h l) (some 0) ≠ none
  | 0, n, i, p, e, c => by obtain ⟨K, a, _⟩ := c; omega
  | fuel + 1, n, i, p, e, c => by
    have trk : ∀ k, k ≤ SetTable.runEnd mask i - i → tr mask h (n + k) = i + k := fun k hk => by
      show (trS mask h (n + k)).j = _
      rw [wm1 e k hk]
    have rl := zo6 mask i
    unfold SetTable.layClean.free
    cases hf : (List.range (SetTable.runEnd mask i + 1 - i)).find? (fun k => (owner.getD (i + k) (some 0)).isNone) with
    | some k =>
      dsimp only
      obtain ⟨h1, h2, h3⟩ := List.find?_range_eq_some.mp hf
      have h2' : k < SetTable.runEnd mask i + 1 - i := List.mem_range.mp h2
      refine ⟨n + k, by rw [trk k (by omega)], by omega, by rw [trk k (by omega)]; simpa using h1, fun l a b => ?_⟩
      obtain ⟨l', rfl⟩ : ∃ l', l = n + l' := ⟨l - n, by omega⟩
      rw [trk l' (by omega)]
      have := h3 l' (by omega)
      intro z
      rw [z] at this
      simp at this
    | none =>
      dsimp only
      have h1 := List.find?_range_eq_none.mp hf
      have h1' : ∀ k, k ≤ SetTable.runEnd mask i - i → owner.getD (i + k) (some 0) ≠ none := fun k hk z => by
        have := h1 k (by omega)
        rw [z] at this
        simp at this
      have c' : ∃ K, K < fuel ∧ owner.getD (lp mask K (SetTable.leap mask i p)).1 (some 0) = none := by
        obtain ⟨K, a, b⟩ := c
        cases K with
        | zero => exact absurd b (h1' 0 (Nat.zero_le _))
        | succ K => exact ⟨K, by omega, b⟩
      obtain ⟨m, a1, a2, a3, a4⟩ := ya2 mask h owner fuel _ _ _ (yy0 e) c'
      refine ⟨m, a1, by omega, a3, fun l b1 b2 => ?_⟩
      by_cases z : l ≤ n + (SetTable.runEnd mask i - i)
      · obtain ⟨l', rfl⟩ : ∃ l', l = n + l' := ⟨l - n, by omega⟩
        rw [trk l' (by omega)]
        exact h1' l' (by omega)
      · exact a4 l (by omega) b2
theorem za5 {α β : Type} {f : α → Option β} : ∀ {L : List α}, (∀ j ∈ L, f j ≠ none) → (L.filterMap f).length = L.length
  | [], _ => rfl
  | j :: L, h => by
    have h1 := h j (List.mem_cons_self ..)
    obtain ⟨b, hb⟩ : ∃ b, f j = some b := by cases hq : f j with | none => exact absurd hq h1 | some b => exact ⟨b, rfl⟩
    rw [List.filterMap_cons_some hb, List.length_cons, List.length_cons, za5 fun x hx => h x (List.mem_cons_of_mem _ hx)]
theorem xr1 {α β : Type} {f g : α → Option β} : ∀ {L : List α}, (∀ j ∈ L, f j = g j) → L.filterMap f = L.filterMap g
  | [], _ => rfl
  | j :: L, h => by
    rw [List.filterMap_cons, List.filterMap_cons, h j (List.mem_cons_self ..), xr1 fun x hx => h x (List.mem_cons_of_mem _ hx)]
theorem ya5 {f g : Nat → Option Nat} {x k : Nat} (e1 : f x = none) (e2 : g x = some k) (e3 : ∀ y, y ≠ x → g y = f y) : ∀ {L : List Nat}, L.Nodup → x ∈ L → (L.filterMap g).Perm (k :: L.filterMap f)
  | [], _, h => by cases h
  | y :: L, nd, h => by
    obtain ⟨n1, n2⟩ := List.nodup_cons.mp nd
    by_cases c : y = x
    · subst c
      rw [List.filterMap_cons_some e2, List.filterMap_cons_none e1]
      refine List.Perm.cons _ (List.Perm.of_eq ?_)
      exact xr1 fun j hj => e3 j fun z => n1 (z ▸ hj)
    · have ih := ya5 e1 e2 e3 n2 (by rcases List.mem_cons.mp h with rfl | h; exact absurd rfl c; exact h)
      have e := e3 y c
      cases hf : f y with
      | none => rw [List.filterMap_cons_none (by rw [e, hf]), List.filterMap_cons_none hf]; exact ih
      | some b =>
        rw [List.filterMap_cons_some (by rw [e, hf]), List.filterMap_cons_some hf]
        exact (List.Perm.cons _ ih).trans (List.Perm.swap _ _ _)
structure OwnOk (mask : Nat) (hs : List Int) (owner : Array (Option Nat)) : Prop where
  sz : owner.size = mask + 1
  perm : ((List.range (mask + 1)).filterMap fun j => owner.getD j none).Perm (List.range hs.length)
  reach : ∀ j k, owner.getD j none = some k → ∃ h, hs[k]? = some h ∧ ∃ m, tr mask h m = j ∧ ∀ l, l < m → owner.getD (tr mask h l) none ≠ none
theorem wq1 {owner : Array (Option Nat)} {j : Nat} (h : j < owner.size) (a b : Option Nat) : owner.getD j a = owner.getD j b := by simp [Array.getD, h]
theorem OwnOk.step {mask : Nat} (hm : mask ∈ okM) {hs : List Int} {owner : Array (Option Nat)} (k : OwnOk mask hs owner) (hl : hs.length ≤ mask) (h : Int) :
    ∃ x, SetTable.layClean.free mask owner (SetTable.turns mask) (SetTable.bits h % (mask + 1)) (SetTable.bits h) = some x ∧ OwnOk mask (hs ++ [h]) (owner.setIfInBounds x (some hs.length)) := by
  have sz := k.sz
  obtain ⟨e, he, ee⟩ : ∃ e, e ≤ mask ∧ owner.getD e none = none := by
    refine Classical.byContradiction fun c => ?_
    have h1 := za5 (f := fun j => owner.getD j none) (L := List.range (mask + 1)) fun j hj z => c ⟨j, by have := List.mem_range.mp hj; omega, z⟩
    rw [k.perm.length_eq, List.length_range, List.length_range] at h1
    omega
  have hi : SetTable.bits h % (mask + 1) ≤ mask := by have := Nat.mod_lt (SetTable.bits h) (show mask + 1 > 0 by omega); omega
  obtain ⟨K, hK, eK⟩ := wr2 hm hi (ya4 h) he
  obtain ⟨m, a1, a2, a3, a4⟩ := ya2 mask h owner (SetTable.turns mask) 0 _ _ (yv1 mask h) ⟨K, by unfold SetTable.turns; omega, by rw [eK, wq1 (by omega) _ none]; exact ee⟩
  have ml : ∀ l, tr mask h l < owner.size := fun l => by have := xe5 (mask := mask) h l; omega
  have a3' : owner.getD (tr mask h m) none = none := by rw [wq1 (ml m) _ (some 0)]; exact a3
  have gx : (owner.setIfInBounds (tr mask h m) (some hs.length)).getD (tr mask h m) none = some hs.length := by
    have := ml m
    simp [Array.getD, this]
  have gy : ∀ y, y ≠ tr mask h m → (owner.setIfInBounds (tr mask h m) (some hs.length)).getD y none = owner.getD y none := fun y hy => by
    by_cases c : y < owner.size
    · simp [Array.getD, c, Array.getElem_setIfInBounds, Ne.symm hy]
    · simp [Array.getD, c]
  have mono : ∀ y, owner.getD y none ≠ none → (owner.setIfInBounds (tr mask h m) (some hs.length)).getD y none ≠ none := fun y hy => by
    by_cases c : y = tr mask h m
    · subst c; rw [gx]; intro z; cases z
    · rw [gy y c]; exact hy
  refine ⟨tr mask h m, a1, by rw [Array.size_setIfInBounds]; exact sz, ?_, fun j q e => ?_⟩
  · refine (ya5 a3' gx gy List.nodup_range (List.mem_range.mpr (by have := ml m; omega))).trans ?_
    rw [List.length_append, List.length_singleton]
    exact ((List.Perm.cons _ k.perm).trans (List.perm_append_singleton _ _).symm).trans (List.Perm.of_eq List.range_succ.symm)
  · by_cases c : j = tr mask h m
    · subst c
      rw [gx] at e
      cases e
      refine ⟨h, by simp, m, rfl, fun l hl => mono _ ?_⟩
      have := a4 l (Nat.zero_le _) hl
      rw [wq1 (ml l) _ none] at this
      exact this
    · rw [gy j c] at e
      obtain ⟨h', b1, m', b2, b3⟩ := k.reach j q e
      refine ⟨h', ?_, m', b2, fun l hl => mono _ (b3 l hl)⟩
      rw [List.getElem?_append_left (List.getElem?_eq_some_iff.mp b1).1]
      exact b1
theorem zu3 {mask : Nat} (hm : mask ∈ okM) : ∀ (rest done : List Int) (owner : Array (Option Nat)), OwnOk mask done owner → done.length + rest.length ≤ mask + 1 →
    ∃ owner', List.foldl (fun acc h => do
      let (owner, k) ← acc
      let j ← SetTable.layClean.free mask owner (SetTable.turns mask) (SetTable.bits h % (mask + 1)) (SetTable.bits h)
      pure (owner.setIfInBounds j (some k), k + 1)) (some (owner, done.length)) rest = some (owner', done.length + rest.length) ∧ OwnOk mask (done ++ rest) owner'
  | [], done, owner, k, _ => ⟨owner, rfl, by rw [List.append_nil]; exact k⟩
  | h :: rest, done, owner, k, hl => by
    rw [List.length_cons] at hl
    obtain ⟨x, e, k'⟩ := k.step hm (by omega) h
    obtain ⟨o', e', k''⟩ := zu3 hm rest (done ++ [h]) _ k' (by rw [List.length_append, List.length_singleton]; omega)
    refine ⟨o', ?_, by rw [List.append_assoc] at k''; exact k''⟩
    rw [List.length_append, List.length_singleton] at e'
    rw [List.foldl_cons, List.length_cons, show done.length + (rest.length + 1) = done.length + 1 + rest.length by omega, ← e']
    simp only [bind, Option.bind, e, pure]
theorem own0 (mask : Nat) : OwnOk mask [] (Array.replicate (mask + 1) none) := by
  have g : ∀ j, (Array.replicate (mask + 1) (none : Option Nat)).getD j none = none := fun j => by
    by_cases c : j < mask + 1 <;> simp [Array.getD, c]
  refine ⟨by simp, ?_, fun j k e => by rw [g] at e; cases e⟩
  rw [List.filterMap_eq_nil_iff.mpr fun j _ => g j]
  exact List.Perm.refl _
theorem wi2 {mask : Nat} (hm : mask ∈ okM) (hs : Array Int) (hl : hs.size ≤ mask + 1) : ∃ owner, SetTable.layClean mask hs = some owner ∧ OwnOk mask hs.toList owner := by
  obtain ⟨o, e, k⟩ := zu3 hm hs.toList [] _ (own0 mask) (by simpa using hl)
  refine ⟨o, ?_, by simpa using k⟩
  unfold SetTable.layClean
  rw [← Array.foldl_toList]
  rw [List.length_nil] at e
  rw [e]
  rfl
theorem zq5 {mask : Nat} (hm : mask ∈ okM) (hs : Array Int) (hl : hs.size ≤ mask + 1) (fi mo : Nat) (le pl : Bool) :
    ∃ t' order, SetTable.laid mask fi mo le pl hs = some (t', order) ∧ t'.mask = mask ∧ t'.dummies = #[] ∧ t'.led = le ∧ t'.plain = pl ∧ t'.finger = fi ∧ t'.moves = mo ∧ order.toList.Perm (List.range hs.size) ∧ TOk t' (order.toList.map fun k => hs.getD k 0) := by
  obtain ⟨o, e, k⟩ := wi2 hm hs hl
  unfold SetTable.laid
  rw [e]
  refine ⟨_, _, rfl, rfl, rfl, rfl, rfl, rfl, rfl, ?_, ?_⟩
  · have : (((List.range (mask + 1)).filterMap fun j => (o.getD j none).map (j, ·)).map (·.2)) = (List.range (mask + 1)).filterMap fun j => o.getD j none := by
      rw [List.map_filterMap]
      refine xr1 fun j _ => ?_
      cases o.getD j none <;> rfl
    simp only [List.toList_toArray]
    rw [this]
    simpa using k.perm
  · generalize hlv : ((List.range (mask + 1)).filterMap fun j => (o.getD j none).map (j, ·)) = live
    have lget : ∀ x, x ∈ live → x.1 ≤ mask ∧ o.getD x.1 none = some x.2 := fun x hx => by
      rw [← hlv] at hx
      obtain ⟨j, hj, ej⟩ := List.mem_filterMap.mp hx
      cases hq : o.getD j none with
      | none => rw [hq] at ej; cases ej
      | some b => rw [hq] at ej; cases ej; exact ⟨by have := List.mem_range.mp hj; show j ≤ mask; omega, hq⟩
    have lin : ∀ j q, j ≤ mask → o.getD j none = some q → j ∈ live.map (·.1) := fun j q hj eq => by
      rw [← hlv]
      exact List.mem_map.mpr ⟨(j, q), List.mem_filterMap.mpr ⟨j, List.mem_range.mpr (by omega), by rw [eq]; rfl⟩, rfl⟩
    have pw : (live.map (·.1)).Pairwise (· < ·) := by
      rw [← hlv, List.map_filterMap, List.pairwise_filterMap]
      refine List.pairwise_lt_range.imp_of_mem ?_
      · intro a b ha hb hab x hx y hy
        cases hq : o.getD a none with
        | none => rw [hq] at hx; cases hx
        | some u =>
          cases hq2 : o.getD b none with
          | none => rw [hq2] at hy; cases hy
          | some v => rw [hq] at hx; rw [hq2] at hy; cases hx; cases hy; exact hab
    refine ⟨by simpa [Rise] using pw, List.Pairwise.nil, fun j z => by simp at z, fun j z => ?_, fun j z => by simp at z, hm, by simp, fun i j h a b => ?_⟩
    · have z' : j ∈ live.map (·.1) := by simpa using z
      obtain ⟨x, hx, rfl⟩ := List.mem_map.mp z'
      exact (lget x hx).1
    · have a' : (live.map (·.1))[i]? = some j := by simpa using a
      have b' : ((live.map (·.2)).map fun k => hs.getD k 0)[i]? = some h := by simpa using b
      rw [List.getElem?_map] at a' b'
      rw [List.getElem?_map] at b'
      cases hx : live[i]? with
      | none => rw [hx] at a'; cases a'
      | some x =>
        rw [hx] at a' b'
        have a2 : x.1 = j := by simpa using a'
        have b2 : hs.getD x.2 0 = h := by simpa using b'
        obtain ⟨g1, g2⟩ := lget x (List.mem_of_getElem? hx)
        obtain ⟨h', c1, m, c2, c3⟩ := k.reach _ _ g2
        have hh : h' = h := by
          rw [← b2]
          rw [Array.getElem?_toList] at c1
          obtain ⟨hl1, hl2⟩ := Array.getElem?_eq_some_iff.mp c1
          simp [Array.getD, hl1, hl2]
        subst hh
        refine ⟨m, by rw [c2, a2], fun l hl => .inl ?_⟩
        have c4 := c3 l hl
        cases hq : o.getD (tr mask h' l) none with
        | none => exact absurd hq c4
        | some q => simpa using lin _ q (xe5 h' l) hq
theorem yw1 : ∀ n, n < 64 → SetTable.sizeAbove (n * 4) - 1 ∈ okM ∧ n * 5 < (SetTable.sizeAbove (n * 4) - 1) * 3 ∧ SetTable.sizeAbove (n * 4) ≤ 256 := by
  have : ((List.range 64).all fun n => decide (SetTable.sizeAbove (n * 4) - 1 ∈ okM ∧ n * 5 < (SetTable.sizeAbove (n * 4) - 1) * 3 ∧ SetTable.sizeAbove (n * 4) ≤ 256)) = true := by decide +kernel
  intro n hn
  exact of_decide_eq_true (List.all_eq_true.mp this n (List.mem_range.mpr hn))
end Pv

namespace Pv
open PySem PySem.Spec PySem.W PyProof.Rows L2
noncomputable def kI (t : T3) : List Int := [t.1, t.2.1, t.2.2]
theorem yz4 {a b : T3} (h : kI a = kI b) : a = b := by
  obtain ⟨a1, a2, a3⟩ := a
  obtain ⟨b1, b2, b3⟩ := b
  simp only [kI, List.cons.injEq, and_true] at h
  obtain ⟨rfl, rfl, rfl⟩ := h
  rfl
section
variable {prog : Program} {w : World} {A : Around} {E : Value → Shared → Prop} {s : Shared}
noncomputable abbrev TK (prog : Program) (w : World) (h : Heap) (t : T3) (a : Addr) : Prop := IsTupleKey (intKind prog w) h (kI t) a
noncomputable def hT (prog : Program) (w : World) (t : T3) : Int := tupleKeyHash (intKind prog w) (kI t)
theorem xr5 {k : T3} {b : Addr} {Q : Int → Shared → Prop} (hu : A.units < cLine) (i : TK prog w s.heap k b) (h : ∀ tk, Q (hT prog w k) { s with toks := tk }) : wpAny (model prog w) A (pyHash (.ref b)) Q E s := wpAny_pyHash_tuple hu i (h _)
theorem IsT3.key {h : Heap} {a : Addr} {t : T3} (i : IsT3 h (.ref a) t) : TK prog w h t a := by
  obtain ⟨a', o, t1, t2, t3, n, e1, e2, e3, e4⟩ := i
  cases e1
  exact ⟨o, _, n, e2, e3, e4, .cons (intKind_is ..) (.cons (intKind_is ..) (.cons (intKind_is ..) .nil))⟩
theorem TK.t3 {h : Heap} {a : Addr} {t : T3} (i : TK prog w h t a) : IsT3 h (.ref a) t := by
  obtain ⟨o, items, n, e1, e2, e3, e4⟩ := i
  obtain ⟨it⟩ := items
  dsimp only at e4
  have f : ∀ {k : Int} {v : Value}, (intKind prog w).is k v = true → ∃ tk, v = .int k tk := fun {k v} z => by
    cases v <;> simp [intKind, Value.isInt] at z
    exact ⟨_, by rw [z]⟩
  unfold kI at e4
  cases e4 with
  | cons a1 e4 =>
    cases e4 with
    | cons a2 e4 =>
      cases e4 with
      | cons a3 e4 =>
        cases e4
        obtain ⟨t1, rfl⟩ := f a1
        obtain ⟨t2, rfl⟩ := f a2
        obtain ⟨t3, rfl⟩ := f a3
        exact ⟨a, o, t1, t2, t3, n, rfl, e1, e2, e3⟩
theorem TK.kept {h h' : Heap} {a : Addr} {t : T3} (k : ∀ o, h.get? a = some o → o.cls = .type "tuple" → h'.get? a = some o) (i : TK prog w h t a) : TK prog w h' t a := by
  obtain ⟨o, items, n, e1, e2, e3⟩ := i
  exact ⟨o, items, n, k o e1 e2, e2, e3⟩
theorem zy0 {a : Addr} {Q : Bool → Shared → Prop} (h : Q true s) : wpAny (model prog w) A (isSame (.ref a) (.ref a)) Q E s := by
  unfold isSame
  dsimp only
  rw [if_pos (beq_self_eq_true a)]
  exact wpAny_pure h
theorem TK.items {h : Heap} {a : Addr} {t : T3} (i : TK prog w h t a) : ∃ o t1 t2 t3 n, h.get? a = some o ∧ o.cls = .type "tuple" ∧ o.data = .seq #[.int t.1 t1, .int t.2.1 t2, .int t.2.2 t3] n := by
  obtain ⟨a', o, t1, t2, t3, n, e1, e2, e3, e4⟩ := i.t3
  cases e1
  exact ⟨o, t1, t2, t3, n, e2, e3, e4⟩
theorem wb5 {t : T3} {a : Addr} {Q : Bool → Shared → Prop} (i : TK prog w s.heap t a) (h : Q false s) : wpAny (model prog w) A (ofAClassStatement 8 (.ref a)) Q E s := by
  have ty := i.typeIs
  obtain ⟨o, t1, t2, t3, n, e1, e2, e3⟩ := i.items
  unfold ofAClassStatement
  refine wpAny_bind (wpAny_typeOf ty ?_)
  dsimp only
  rw [if_pos (by decide)]
  refine wpAny_bind (wpAny_pure ?_)
  rw [if_neg (by decide)]
  refine wpAny_bind (wpAny_seqItems e1 e3 ?_)
  dsimp only
  refine wpAny_bind ?_
  rw [← Array.forIn_toList]
  refine wpAny_forIn_list _ (fun rest r s' => r.1 = none ∧ s' = s ∧ ∀ v ∈ rest, carriedByValue v = true) _ ?_ ?_ _ _ ⟨rfl, rfl, by simp [carriedByValue]⟩
  · rintro v rest r s' ⟨hr, rfl, hall⟩
    have hv := hall v List.mem_cons_self
    have hq : ofAClassStatement 7 v = pure false := by
      cases v with
      | ref a => simp [carriedByValue] at hv
      | _ => first | rfl | simp [ofAClassStatement] | (unfold ofAClassStatement; rfl)
    rw [hq]
    refine wpAny_bind (wpAny_pure ?_)
    simp only [Bool.false_eq_true, if_false]
    exact wpAny_pure ⟨rfl, rfl, fun u hu' => hall u (List.mem_cons_of_mem _ hu')⟩
  · rintro ⟨r1, r2⟩ s' ⟨hr, rfl, _⟩
    simp only at hr
    subst hr
    exact wpAny_pure h
theorem zh5 {k : T3} {b : Addr} {stored : List Value} {Q : Bool → Shared → Prop} (i : TK prog w s.heap k b) (hs : ∀ v ∈ stored, ∃ t a, v = .ref a ∧ TK prog w s.heap t a) (h : Q false s) :
    wpAny (model prog w) A (searchCouldBeSeen (.ref b) stored) Q E s := by
  unfold searchCouldBeSeen
  refine wpAny_bind ?_
  refine wpAny_forIn_list _ (fun rest r s' => r.1 = none ∧ s' = s ∧ ∀ v ∈ rest, ∃ t a, v = .ref a ∧ TK prog w s.heap t a) _ ?_ ?_ _ _ ⟨rfl, rfl, hs⟩
  · rintro v rest r s' ⟨hr, rfl, hall⟩
    obtain ⟨t, a, rfl, hv⟩ := hall v List.mem_cons_self
    have tl := fun u hu' => hall u (List.mem_cons_of_mem _ hu')
    dsimp only
    split
    · exact wpAny_pure ⟨rfl, rfl, tl⟩
    · refine wpAny_bind (wpAny_eqIsQuiet_tuple i ?_)
      simp only [Bool.not_true, Bool.false_eq_true, if_false]
      refine wpAny_bind (wpAny_eqIsQuiet_tuple hv ?_)
      simp only [Bool.not_true, Bool.false_eq_true, if_false]
      refine wpAny_bind (wb5 i ?_)
      simp only [Bool.false_eq_true, if_false]
      refine wpAny_bind (wb5 hv ?_)
      simp only [Bool.false_eq_true, if_false]
      exact wpAny_pure ⟨rfl, rfl, tl⟩
  · rintro ⟨r1, r2⟩ s' ⟨hr, rfl, _⟩
    simp only at hr
    subst hr
    exact wpAny_pure h
theorem wp4 {t : T3} {a : Addr} {Q : Bool → Shared → Prop} (i : TK prog w s.heap t a) (h : Q true s) : wpAny (model prog w) A (hashByValue 8 (.ref a)) Q E s := by
  have ty := i.typeIs
  obtain ⟨o, t1, t2, t3, n, e1, e2, e3⟩ := i.items
  unfold hashByValue
  refine wpAny_bind (wpAny_specialOf ty F.slot_tuple_hash.lookup ?_)
  show wpAny _ _ (seqItems? (.ref a) >>= _) _ _ s
  refine wpAny_bind (wpAny_seqItems e1 e3 ?_)
  refine wpAny_bind ?_
  show wpAny _ _ (forIn #[Value.int t.1 t1, .int t.2.1 t2, .int t.2.2 t3] _ _) _ _ s
  rw [← Array.forIn_toList]
  refine wpAny_forIn_list _ (fun rest r s' => r.1 = none ∧ s' = s ∧ ∀ v ∈ rest, ∃ i t, v = Value.int i t) _ ?_ ?_ _ _ ⟨rfl, rfl, by simp⟩
  · rintro v rest r s' ⟨hr, rfl, hall⟩
    obtain ⟨j, tk, rfl⟩ := hall v List.mem_cons_self
    have hq : hashByValue 7 (.int j tk) = pure true := by unfold hashByValue; rfl
    rw [hq]
    refine wpAny_bind (wpAny_pure ?_)
    simp only [Bool.not_true, Bool.false_eq_true, if_false]
    exact wpAny_pure ⟨rfl, rfl, fun u hu' => hall u (List.mem_cons_of_mem _ hu')⟩
  · rintro ⟨r1, r2⟩ s' ⟨hr, rfl, _⟩
    simp only at hr
    subst hr
    exact wpAny_pure h
end
end Pv

namespace Pv
open PySem PySem.Spec PySem.W PyProof.Rows L2
noncomputable def bT (prog : Program) (w : World) : Bool := (model prog w).w.params.followText "set-order"
noncomputable abbrev ent (hf : T3 → Int) (x : T3 × Addr) : Int × Value := (hf x.1, .ref x.2)
structure SetIs (prog : Program) (w : World) (hf : T3 → Int) (h : Heap) (a : Addr) (o : Obj) (es : Array (Int × Value)) (ep : Nat) (t : SetTable) (xs : List (T3 × Addr)) : Prop where
  ho : h.get? a = some o
  ex : o.ExactSet
  hd : o.data = .set es ep t
  el : es.toList = xs.map (ent hf)
  ks : ∀ x ∈ xs, TK prog w h x.1 x.2
  nd : (xs.map (·.1)).Nodup
  ok : TOk t (xs.map fun x => hf x.1)
  rm : t.fill ≤ t.mask
  pl : t.plain = true
  le : t.led = !bT prog w
section
variable {prog : Program} {w : World} {A : Around} {E : Value → Shared → Prop} {s : Shared} {a : Addr} {o : Obj} {es : Array (Int × Value)} {ep : Nat} {t : SetTable} {xs : List (T3 × Addr)} {hf : T3 → Int}
theorem SetIs.at {h : Heap} (S : SetIs prog w hf h a o es ep t xs) (i : Nat) : es[i]? = (xs[i]?).map (ent hf) := by rw [← Array.getElem?_toList, S.el, List.getElem?_map]
theorem SetIs.size {h : Heap} (S : SetIs prog w hf h a o es ep t xs) : es.size = xs.length := by rw [← Array.length_toList, S.el, List.length_map]
theorem SetIs.fits {h : Heap} (S : SetIs prog w hf h a o es ep t xs) : t.fits es.size = true := by
  have h1 := S.ok.sz
  have h2 := S.size
  have h3 := S.rm
  rw [List.length_map] at h1
  simp [SetTable.fits, h1, h2, h3]
theorem SetIs.odd {h : Heap} (S : SetIs prog w hf h a o es ep t xs) : t.gaveWay = false := by
  have : ∀ m ∈ okM, (m % 2 == 0) = false := by decide
  exact this _ S.ok.msk
theorem zx1 {f : Nat → Int} {h : Int} {n : Nat} {d : Option Nat} {hs : List Int} {r : Option SetTable.Met} (k : TOk t hs) (rm : t.fill ≤ t.mask) (kd : DumOk t h d n) (e : t.probe f h { trS t.mask h n with dummy := d } = r) :
    (∃ m d', r = some (.empty (tr t.mask h m) d') ∧ n ≤ m ∧ t.slot (tr t.mask h m) = .empty ∧ Sk t f h n m ∧ DumOk t h d' m) ∨
    (∃ m i d', r = some (.candidate (tr t.mask h m) i { trS t.mask h (m + 1) with dummy := d' }) ∧ n ≤ m ∧ t.slot (tr t.mask h m) = .live i ∧ f i = h ∧ Sk t f h n m ∧ DumOk t h d' m) := by
  subst e
  exact k.probe rm f h n d kd
noncomputable def Hist (hf : T3 → Int) (t : SetTable) (xs : List (T3 × Addr)) (k : T3) (n : Nat) : Prop := ∀ l, l < n → t.slot (tr t.mask (hf k) l) ≠ .empty ∧ ∀ i, t.slot (tr t.mask (hf k) l) = .live i → ∀ x, xs[i]? = some x → x.1 ≠ k
theorem zg2 {k : T3} {b : Addr} {adding : Bool} {Q : SetFound → Shared → Prop} (hu : A.units < cLine) (S : SetIs prog w hf s.heap a o es ep t xs) (hk : TK prog w s.heap k b)
    (found : ∀ i b', xs[i]? = some (k, b') → Q (.there (if adding then none else some i)) s)
    (free : ∀ sl wd, k ∉ xs.map (·.1) → sl ∉ t.place.toList → (∃ m, tr t.mask (hf k) m = sl ∧ ∀ l, l < m → Occ t (tr t.mask (hf k) l)) → (wd = true → t.slot sl = .dummy) → Q (.free sl wd) s)
    {fuel n : Nat} {d : Option Nat} {stand : Option SetTable.Probe} (kd : DumOk t (hf k) d n) (hist : Hist hf t xs k n) (st : stand.getD (t.probeStart (hf k)) = { trS t.mask (hf k) n with dummy := d })
    (ih : ∀ (n' : Nat) (d' : Option Nat) (stand' : Option SetTable.Probe), n < n' → DumOk t (hf k) d' n' → Hist hf t xs k n' → stand'.getD (t.probeStart (hf k)) = { trS t.mask (hf k) n' with dummy := d' } →
      wpAny (model prog w) A (setSearchFrom a (.ref b) (hf k) adding fuel stand') Q E s) :
    wpAny (model prog w) A (setSearchFrom a (.ref b) (hf k) adding (fuel + 1) stand) Q E s := by
  have hist' : ∀ {f : Nat → Int} {m : Nat}, (∀ i, f i = ((es[i]?).map (·.1)).getD 0) → Sk t f (hf k) n m → ∀ l, l < m → t.slot (tr t.mask (hf k) l) ≠ .empty ∧ ∀ i, t.slot (tr t.mask (hf k) l) = .live i → ∀ x, xs[i]? = some x → x.1 ≠ k := fun {f m} hf sk l hl => by
    by_cases c : l < n
    · exact hist l c
    · obtain ⟨b1, b2⟩ := sk l (by omega) hl
      refine ⟨b1, fun i e x hx z => b2 i e ?_⟩
      rw [hf, S.at, hx, Option.map_some, Option.map_some, Option.getD_some, ← z]
  unfold setSearchFrom
  refine wpAny_bind (wpAny_setState_of S.ho S.hd S.fits ?_)
  dsimp only
  rw [S.odd, st]
  simp only [Bool.false_eq_true, if_false]
  split
  · next met heq =>
    rcases zx1 S.ok S.rm kd heq with ⟨m, d', e, a1, a2, a3, a4⟩ | ⟨m, i, d', e, a1, a2, a3, a4, a5⟩
    · cases e
      have H := hist' (fun _ => rfl) a3
      have nk : k ∉ xs.map (·.1) := fun z => by
        obtain ⟨x, hx, ek⟩ := List.mem_map.mp z
        obtain ⟨i, hi⟩ := List.mem_iff_getElem?.mp hx
        have hlt : i < t.place.size := by rw [S.ok.sz, List.length_map]; exact (List.getElem?_eq_some_iff.mp hi).1
        have hp : t.place[i]? = some t.place[i] := Array.getElem?_eq_getElem hlt
        obtain ⟨m', q1, q2⟩ := S.ok.reach i _ (hf k) hp (by rw [List.getElem?_map, hi]; show some (hf x.1) = _; rw [ek])
        have hl := (wv1 S.ok.ris).mpr hp
        rw [← q1] at hl
        by_cases c : m' < m
        · exact (H m' c).2 i hl x hi ek
        · by_cases c2 : m = m'
          · subst c2; rw [a2] at hl; cases hl
          · exact (S.ok.occ _).mp (q2 m (by omega)) a2
      have oc : ∀ l, l < m → Occ t (tr t.mask (hf k) l) := fun l hl => (S.ok.occ _).mpr (H l hl).1
      cases d' with
      | none => exact wpAny_pure (free _ false nk ((yi1 S.ok.ris S.ok.rid).mp a2).1 ⟨m, rfl, oc⟩ (fun z => by cases z))
      | some x =>
        obtain ⟨l, b1, b2, b3⟩ := a4 x rfl
        dsimp only
        rw [b3]
        simp only [bne_self_eq_false, Bool.and_false, Bool.false_eq_true, if_false]
        refine wpAny_pure (free x true nk (S.ok.dj x ((zi1 S.ok.ris S.ok.rid (S.ok.dj x)).mp b3)) ⟨l, b2, fun l' hl => oc l' (by omega)⟩ (fun _ => b3))
    · cases e
      have H := hist' (fun _ => rfl) a4
      have hp := (wv1 S.ok.ris).mp a2
      have hlt : i < xs.length := by have := (Array.getElem?_eq_some_iff.mp hp).1; rw [S.ok.sz, List.length_map] at this; exact this
      obtain ⟨x, hx⟩ : ∃ x, xs[i]? = some x := ⟨_, List.getElem?_eq_getElem hlt⟩
      have he : es[i]? = some (ent hf x) := by rw [S.at, hx]; rfl
      have hkx := S.ks x (List.mem_of_getElem? hx)
      have sm : t.sameMemory t.moves t.mask = some true := by unfold SetTable.sameMemory; simp
      have sto : ∀ v ∈ List.map (fun x => x.snd) (Array.filter (fun x => x.fst == hf k) es).toList, ∃ t a, v = .ref a ∧ TK prog w s.heap t a := fun v hv => by
        obtain ⟨y, hy, rfl⟩ := List.mem_map.mp hv
        have hy' : y ∈ es.toList := by
          rw [Array.toList_filter] at hy
          exact (List.mem_filter.mp hy).1
        rw [S.el] at hy'
        obtain ⟨z, hz, rfl⟩ := List.mem_map.mp hy'
        exact ⟨z.1, z.2, rfl, S.ks z hz⟩
      dsimp only
      split
      · refine wpAny_bind (zh5 hk sto ?_)
        simp only [Bool.false_eq_true, if_false]
        rw [he]
        dsimp only
        refine wpAny_bind (wpAny_holding (wpAny_eqBool_tuple hu hkx hk ?_))
        refine wpAny_bind (wpAny_setState_of S.ho S.hd S.fits ?_)
        dsimp only
        by_cases c : x.1 = k
        · rw [decide_eq_true (congrArg kI c)]
          have fd := found i x.2 (by rw [hx, ← c])
          cases adding
          · rw [sm]
            simp only [Bool.false_and, Bool.false_eq_true, if_false, if_true]
            rw [a2]
            dsimp only
            rw [he]
            dsimp only
            refine wpAny_bind (zy0 (wpAny_bind (wpAny_pure ?_)))
            exact wpAny_pure fd
          · exact wpAny_pure fd
        · rw [decide_eq_false (fun z => c (yz4 z)), sm]
          simp only [Bool.and_false, Bool.false_eq_true, if_false, if_true]
          rw [a2]
          dsimp only
          rw [he]
          dsimp only
          refine wpAny_bind (zy0 (wpAny_bind (wpAny_pure ?_)))
          refine ih (m + 1) d' _ (by omega) (a5.up (Nat.le_succ _)) (fun l hl => ?_) rfl
          by_cases c2 : l < m
          · exact H l c2
          · have : l = m := by omega
            subst this
            refine ⟨(by rw [a2]; intro z; cases z), fun i' z y hy => ?_⟩
            rw [a2] at z
            cases z
            rw [hx] at hy
            cases hy
            exact c
      · rw [he]
        dsimp only
        refine wpAny_bind (wpAny_holding (wpAny_eqBool_tuple hu hkx hk ?_))
        refine wpAny_bind (wpAny_setState_of S.ho S.hd S.fits ?_)
        dsimp only
        by_cases c : x.1 = k
        · rw [decide_eq_true (congrArg kI c)]
          have fd := found i x.2 (by rw [hx, ← c])
          cases adding
          · rw [sm]
            simp only [Bool.false_and, Bool.false_eq_true, if_false, if_true]
            rw [a2]
            dsimp only
            rw [he]
            dsimp only
            refine wpAny_bind (zy0 (wpAny_bind (wpAny_pure ?_)))
            exact wpAny_pure fd
          · exact wpAny_pure fd
        · rw [decide_eq_false (fun z => c (yz4 z)), sm]
          simp only [Bool.and_false, Bool.false_eq_true, if_false, if_true]
          rw [a2]
          dsimp only
          rw [he]
          dsimp only
          refine wpAny_bind (zy0 (wpAny_bind (wpAny_pure ?_)))
          refine ih (m + 1) d' _ (by omega) (a5.up (Nat.le_succ _)) (fun l hl => ?_) rfl
          by_cases c2 : l < m
          · exact H l c2
          · have : l = m := by omega
            subst this
            refine ⟨(by rw [a2]; intro z; cases z), fun i' z y hy => ?_⟩
            rw [a2] at z
            cases z
            rw [hx] at hy
            cases hy
            exact c
  · next hne =>
    rcases zx1 S.ok S.rm kd rfl with ⟨m, d', e, a1, a2, a3, a4⟩ | ⟨m, i, d', e, a1, a2, a3, a4, a5⟩
    · exact (hne _ e).elim
    · exact (hne _ e).elim
theorem zj3 {k : T3} {b : Addr} {adding : Bool} {Q : SetFound → Shared → Prop} (hu : A.units < cLine) (S : SetIs prog w hf s.heap a o es ep t xs) (hk : TK prog w s.heap k b)
    (found : ∀ i b', xs[i]? = some (k, b') → Q (.there (if adding then none else some i)) s)
    (free : ∀ sl wd, k ∉ xs.map (·.1) → sl ∉ t.place.toList → (∃ m, tr t.mask (hf k) m = sl ∧ ∀ l, l < m → Occ t (tr t.mask (hf k) l)) → (wd = true → t.slot sl = .dummy) → Q (.free sl wd) s)
    (N : Nat) (hN : t.slot (tr t.mask (hf k) N) = .empty) (r : Nat) : ∀ (fuel n : Nat) (d : Option Nat) (stand : Option SetTable.Probe), N < n + r → r ≤ fuel → DumOk t (hf k) d n → Hist hf t xs k n →
    stand.getD (t.probeStart (hf k)) = { trS t.mask (hf k) n with dummy := d } →
    wpAny (model prog w) A (setSearchFrom a (.ref b) (hf k) adding fuel stand) Q E s := by
  induction r with
  | zero =>
    intro fuel n d stand h1 h2 kd hist st
    exact absurd hN (hist N (by omega)).1
  | succ r ih =>
    intro fuel n d stand h1 h2 kd hist st
    cases fuel with
    | zero => omega
    | succ fuel => exact zg2 hu S hk found free kd hist st fun n' d' stand' a1 a2 a3 a4 => ih fuel n' d' stand' (by omega) (by omega) a2 a3 a4
end
end Pv

namespace Pv
open PySem PySem.Spec PySem.W PyProof.Rows L2
section
variable {prog : Program} {w : World} {A : Around} {E : Value → Shared → Prop} {s : Shared} {a : Addr} {o : Obj} {es : Array (Int × Value)} {ep : Nat} {t : SetTable} {xs : List (T3 × Addr)} {hf : T3 → Int}
theorem yw0 : ∀ m ∈ okM, 7 ≤ m ∧ m ≤ 255 := by decide
theorem yx0 {k : T3} {b : Addr} {adding : Bool} {Q : SetFound → Shared → Prop} (hu : A.units < cLine) (S : SetIs prog w hf s.heap a o es ep t xs) (hk : TK prog w s.heap k b)
    (found : ∀ i b', xs[i]? = some (k, b') → Q (.there (if adding then none else some i)) s)
    (free : ∀ sl wd, k ∉ xs.map (·.1) → sl ∉ t.place.toList → (∃ m, tr t.mask (hf k) m = sl ∧ ∀ l, l < m → Occ t (tr t.mask (hf k) l)) → (wd = true → t.slot sl = .dummy) → Q (.free sl wd) s) :
    wpAny (model prog w) A (setSearch a (.ref b) (hf k) adding) Q E s := by
  obtain ⟨e, he, ee⟩ := S.ok.hole S.rm
  obtain ⟨N, _, h2, h3⟩ := zm2 S.ok.msk (hf k) 0 he
  have hm := yw0 _ S.ok.msk
  unfold SetTable.turns at h2
  unfold setSearch
  refine zj3 hu S hk found free N (by rw [h3]; exact ee) (N + 1) _ 0 none none (by omega) (by omega) (fun x z => by cases z) (fun l hl => absurd hl (Nat.not_lt_zero _)) ?_
  rfl
theorem xk3 (b : Addr) (es : Array (Int × Value)) : byScan (.ref b) es = false := by simp [byScan, Value.scannable]
theorem zv3 {k : T3} {b : Addr} {Q : Option Nat → Shared → Prop} (hu : A.units < cLine) (S : SetIs prog w hf s.heap a o es ep t xs) (hk : TK prog w s.heap k b)
    (found : ∀ i b', xs[i]? = some (k, b') → Q (some i) s) (none' : k ∉ xs.map (·.1) → Q none s) : wpAny (model prog w) A (setFind a (.ref b) (hf k)) Q E s := by
  unfold setFind setFindIn
  refine wpAny_bind (wpAny_setState_of S.ho S.hd S.fits ?_)
  dsimp only
  rw [xk3]
  simp only [Bool.false_eq_true, if_false]
  refine wpAny_bind (yx0 hu S hk (fun i b' e => wpAny_pure (found i b' e)) fun sl wd e _ _ _ => wpAny_pure (none' e))
theorem SetIs.store {h : Heap} (S : SetIs prog w hf h a o es ep t xs) {xs' : List (T3 × Addr)} {es' : Array (Int × Value)} {t' : SetTable} (el : es'.toList = xs'.map (ent hf)) (ks : ∀ x ∈ xs', TK prog w h x.1 x.2) (nd : (xs'.map (·.1)).Nodup)
    (ok : TOk t' (xs'.map fun x => hf x.1)) (rm : t'.fill ≤ t'.mask) (pl : t'.plain = true) (le : t'.led = !bT prog w) :
    SetIs prog w hf (h.update a (Obj.putSet es' t')) a { o with data := .set es' (ep + 1) t' } es' (ep + 1) t' xs' := by
  have hg : (h.update a (Obj.putSet es' t')).get? a = some { o with data := .set es' (ep + 1) t' } := by
    have := Heap.get?_update_self (Obj.putSet es' t') S.ho (by rw [putSet_of es' t' S.hd]; rfl)
    rw [putSet_of es' t' S.hd] at this; exact this
  refine ⟨hg, S.ex, rfl, el, fun x hx => (ks x hx).kept fun o' e1 e2 => ?_, nd, ok, rm, pl, le⟩
  rw [Heap.get?_update_ne _ _ _ _ (fun z => ?_)]
  · exact e1
  · rw [z, S.ho] at e1
    cases e1
    rw [S.ex.1] at e2
    injection e2 with e
    exact absurd e (by decide)
theorem SetIs.tkept {h h' : Heap} {k : T3} {b : Addr} (S : SetIs prog w hf h a o es ep t xs) (sb : Heap.SameBut a h h') (i : TK prog w h k b) : TK prog w h' k b := by
  refine i.kept fun o' e1 e2 => ?_
  rw [sb.2 b (fun z => ?_)]
  · exact e1
  · rw [z, S.ho] at e1
    cases e1
    rw [S.ex.1] at e2
    injection e2 with e
    exact absurd e (by decide)
theorem yb6 {α β : Type} {m m' : Sem α} {g : α → Sem β} {Q : β → Shared → Prop} (e : m = m') (h : wpAny (model prog w) A (m' >>= g) Q E s) : wpAny (model prog w) A (m >>= g) Q E s := by rw [e]; exact h
theorem ys3 {mk fi mo : Nat} {le pl : Bool} (m1 : mk ∈ okM) (hl : xs.length ≤ mk + 1) (eel : es.toList = xs.map (ent hf)) :
    ∃ t' order, ∃ xs' : List (T3 × Addr), SetTable.laid mk fi mo le pl (es.map (·.1)) = some (t', order) ∧ (order.filterMap fun k => es[k]?).toList = xs'.map (ent hf) ∧ xs'.Perm xs ∧ (order.filterMap fun k => es[k]?).size = es.size ∧ TOk t' (xs'.map fun x => hf x.1) ∧ t'.mask = mk ∧ t'.dummies = #[] ∧ t'.led = le ∧ t'.plain = pl := by
  have sz : es.size = xs.length := by rw [← Array.length_toList, eel, List.length_map]
  have hat : ∀ i : Nat, es[i]? = (xs[i]?).map (ent hf) := fun i => by rw [← Array.getElem?_toList, eel, List.getElem?_map]
  obtain ⟨t', order, e1, e2, e3, e4, e5, e6, e7, e8, e9⟩ := zq5 m1 (es.map (·.1)) (by rw [Array.size_map, sz]; omega) fi mo le pl
  rw [Array.size_map, sz] at e8
  have olt : ∀ k ∈ order.toList, k < xs.length := fun k hk => List.mem_range.mp (e8.mem_iff.mp hk)
  obtain ⟨d⟩ : Nonempty (T3 × Addr) := ⟨((0, 0, 0), 0)⟩
  have fm : ∀ (l : List Nat), (∀ k ∈ l, k < xs.length) → l.filterMap (fun k => es[k]?) = (l.map fun k => xs.getD k d).map (ent hf) := fun l => by
    induction l with
    | nil => intro _; rfl
    | cons k l ih =>
      intro hl
      have hk := hl k (List.mem_cons_self ..)
      rw [List.filterMap_cons_some (b := ent hf (xs.getD k d)), ih fun j hj => hl j (List.mem_cons_of_mem _ hj), List.map_cons, List.map_cons]
      rw [hat, List.getD_eq_getElem?_getD, List.getElem?_eq_getElem hk]
      simp only [Option.map_some, Option.getD_some]
  have fm' : (order.filterMap fun k => es[k]?).toList = (order.toList.map fun k => xs.getD k d).map (ent hf) := by rw [Array.toList_filterMap]; exact fm _ olt
  have pm : (order.toList.map fun k => xs.getD k d).Perm xs := by
    refine (e8.map _).trans (List.Perm.of_eq ?_)
    apply List.ext_getElem
    · simp
    · intro i h1 h2
      simp [List.getD_eq_getElem?_getD, List.getElem?_eq_getElem h2]
  have hz : (order.filterMap fun k => es[k]?).size = es.size := by rw [← Array.length_toList, fm', List.length_map, pm.length_eq, sz]
  have hok : TOk t' ((order.toList.map fun k => xs.getD k d).map fun x => hf x.1) := by
    have : (order.toList.map fun k => (es.map (·.1)).getD k 0) = (order.toList.map fun k => xs.getD k d).map fun x => hf x.1 := by
      rw [List.map_map]
      refine List.map_congr_left fun k hk => ?_
      have hl := olt k hk
      have hl2 : k < es.size := by omega
      have q : es[k]? = some (ent hf (xs.getD k d)) := by
        rw [hat, List.getD_eq_getElem?_getD, List.getElem?_eq_getElem hl]
        simp only [Option.map_some, Option.getD_some]
      rw [Array.getElem?_eq_getElem hl2] at q
      injection q with q
      simp only [Array.getD, Array.size_map, hl2, dite_true, Array.getInternal_eq_getElem, Array.getElem_map, q, Function.comp]
    rw [← this]
    exact e9
  exact ⟨t', order, _, e1, fm', pm, hz, hok, e2, e3, e4, e5⟩
theorem ww1 {Q : Unit → Shared → Prop} {wd : Nat} (S : SetIs prog w hf s.heap a o es ep t xs) (m1 : SetTable.sizeAbove wd - 1 ∈ okM) (m2 : xs.length * 5 < (SetTable.sizeAbove wd - 1) * 3) (m3 : SetTable.sizeAbove wd ≤ 256)
    (h : ∀ h' o' es' ep' t' xs', Heap.SameBut a s.heap h' → SetIs prog w hf h' a o' es' ep' t' xs' → xs'.Perm xs → t'.fill * 5 < t'.mask * 3 → t'.mask = SetTable.sizeAbove wd - 1 → t'.dummies = #[] → Q () { s with heap := h' }) :
    wpAny (model prog w) A (setRelay a wd) Q E s := by
  have sz := S.size
  have mm := yw0 _ m1
  have sl : SetTable.sizeAbove wd ≤ sizeLine := by rw [sizeLine_eq]; omega
  obtain ⟨t', order, xs', e1, fm', pm, hz, hok, e2, e3, e4, e5⟩ := ys3 (fi := t.finger) (mo := t.movedTo (SetTable.sizeAbove wd - 1)) (le := t.led) (pl := t.plain) m1 (by omega) S.el
  have el : t.relaid (es.map (·.1)) wd = some (t', order) := e1
  have rm : t'.fill * 5 < t'.mask * 3 := by
    have h1 := hok.sz
    rw [List.length_map, pm.length_eq] at h1
    unfold SetTable.fill
    rw [h1, e3, e2]
    simpa using m2
  have hm := yw0 _ hok.msk
  unfold setRelay
  refine wpAny_bind (wpAny_setState_of S.ho S.hd S.fits ?_)
  dsimp only
  rw [if_neg (by omega), el]
  refine yb6 (m' := if ((order.filterMap fun k => es[k]?).size != es.size) = true then (unsupported "internal:set-table-lost-an-element" >>= fun (_ : PUnit) => pure ((order.filterMap fun k => es[k]?), t')) else pure ((order.filterMap fun k => es[k]?), t')) rfl ?_
  rw [hz]
  simp only [bne_self_eq_false, Bool.false_eq_true, if_false]
  refine wpAny_bind (wpAny_pure (wpAny_storeSet_of S.ho S.hd ?_ (by rw [hz, sz, sizeLine_eq]; omega)))
  exact h _ _ _ _ _ _ (Heap.SameBut.update _ a _) (S.store fm' (fun x hx => S.ks x (pm.mem_iff.mp hx)) ((pm.map _).nodup_iff.mpr S.nd) hok (show t'.fill ≤ t'.mask by omega) (by rw [e5]; exact S.pl) (by rw [e4]; exact S.le)) pm rm e2 e3
theorem wp2 {Q : Unit → Shared → Prop} {n : Nat} (S : SetIs prog w hf s.heap a o es ep t xs) (hn : xs.length < 64) (en : n = xs.length)
    (h : ∀ h' o' es' ep' t' xs', Heap.SameBut a s.heap h' → SetIs prog w hf h' a o' es' ep' t' xs' → xs'.Perm xs → t'.fill * 5 < t'.mask * 3 → Q () { s with heap := h' }) :
    wpAny (model prog w) A (setRelay a (n * 4)) Q E s := by
  subst en
  obtain ⟨m1, m2, m3⟩ := yw1 _ hn
  exact ww1 S m1 m2 m3 fun h' o' es' ep' t' xs' q1 q2 q3 q4 _ _ => h h' o' es' ep' t' xs' q1 q2 q3 q4
noncomputable def SetG (prog : Program) (w : World) (hf : T3 → Int) (h : Heap) (a : Addr) (xs : List (T3 × Addr)) : Prop := ∃ o es ep t, SetIs prog w hf h a o es ep t xs ∧ t.fill * 5 < t.mask * 3
theorem wb4 {k : T3} {b : Addr} {Q : Bool → Shared → Prop} (hu : A.units < cLine) (S : SetG prog w hf s.heap a xs) (hk : TK prog w s.heap k b) (hn : xs.length + 1 < 64)
    (old : k ∈ xs.map (·.1) → Q false s)
    (new : k ∉ xs.map (·.1) → ∀ h' xs', Heap.SameBut a s.heap h' → SetG prog w hf h' a xs' → xs'.Perm ((k, b) :: xs) → Q true { s with heap := h' }) : wpAny (model prog w) A (setAddHashed a (.ref b) (hf k)) Q E s := by
  obtain ⟨o, es, ep, t, S, rm5⟩ := S
  have hm := yw0 _ S.ok.msk
  have sz := S.size
  unfold setAddHashed setAddHashedIn
  refine wpAny_holding (wpAny_bind (wpAny_setState_of S.ho S.hd S.fits ?_))
  dsimp only
  rw [xk3]
  simp only [Bool.false_eq_true, if_false]
  refine wpAny_bind (yx0 hu S hk (fun i b' e => ?_) fun sl wd nk ns rc wdd => ?_)
  · exact wpAny_pure (old (List.mem_map.mpr ⟨_, List.mem_of_getElem? e, rfl⟩))
  · dsimp only
    refine wpAny_bind (wpAny_setState_of S.ho S.hd S.fits ?_)
    dsimp only
    have ok' := S.ok.put ns rc
    have f1 := wg4 S.ok (x := sl)
    have pl' : (t.put sl).1.plain = true := S.pl
    have mk' : (t.put sl).1.mask = t.mask := rfl
    rw [pl']
    simp only [if_true]
    refine wpAny_bind (wp4 hk ?_)
    simp only [if_true]
    have el' : (SetTable.insertAt es (t.put sl).2 (hf k, Value.ref b)).toList = (insL xs (SetTable.below t.place sl) (k, b)).map (ent hf) := by
      rw [SetTable.toList_insertAt, xt2, S.el]
      rfl
    have pm : (insL xs (SetTable.below t.place sl) (k, b)).Perm ((k, b) :: xs) := by
      unfold insL
      exact List.perm_middle.trans (List.Perm.cons _ (List.Perm.of_eq (List.take_append_drop _ _)))
    have sz' : (SetTable.insertAt es (t.put sl).2 (hf k, Value.ref b)).size = xs.length + 1 := by rw [← Array.length_toList, el', List.length_map, zl0]
    have S' := S.store el' (fun x hx => by
      rcases (wt0 _ _ _ _).mp hx with rfl | hx
      · exact hk
      · exact S.ks x hx) ((pm.map _).nodup_iff.mpr (List.nodup_cons.mpr ⟨nk, S.nd⟩)) (by rw [xt2]; exact ok') (by rw [mk']; omega) pl' S.le
    refine wpAny_bind (wpAny_storeSet_of S.ho S.hd ?_ (by rw [sz', sizeLine_eq]; omega))
    have sb := Heap.SameBut.update s.heap a (Obj.putSet (SetTable.insertAt es (t.put sl).2 (hf k, Value.ref b)) (t.put sl).1)
    split
    · next c =>
      have gr : SetTable.grown (es.size + 1) = (xs.length + 1) * 4 := by unfold SetTable.grown; rw [if_neg (by omega), sz]
      rw [gr]
      refine wpAny_bind (wp2 S' (by rw [zl0]; omega) (by rw [zl0]) fun h' o' es' ep' t' xs' q1 q2 q3 q4 => wpAny_pure ?_)
      exact new nk h' xs' (sb.trans q1) ⟨_, _, _, _, q2, q4⟩ (q3.trans pm)
    · next c =>
      refine wpAny_pure (new nk _ _ sb ⟨_, _, _, _, S', ?_⟩ pm)
      cases wd with
      | true =>
        have f2 := zb3 S.ok (wdd rfl)
        rw [mk']
        omega
      | false =>
        simp only [Bool.not_false, Bool.true_and, SetTable.tooFull, decide_eq_true_eq] at c
        omega
end
end Pv

namespace Pv
open PySem PySem.Spec PySem.W PyProof.Rows L2
noncomputable def Got (P : Nat → Value → Prop) (ks : Nat → T3) (i : Nat) (xs : List (T3 × Addr)) : Prop := (∀ x ∈ xs, ∃ j, j < i ∧ P j (.ref x.2) ∧ ks j = x.1) ∧ ∀ j, j < i → ks j ∈ xs.map (·.1)
noncomputable def KpH (h h' : Heap) : Prop := ∀ b o, h.get? b = some o → h'.get? b = some o
section
variable {prog : Program} {w : World} {A : Around} {E : Value → Shared → Prop} {R : Result → Shared → Prop} {s : Shared} {hf : T3 → Int}
theorem SetG.nd {h : Heap} {a : Addr} {xs : List (T3 × Addr)} (S : SetG prog w hf h a xs) : (xs.map (·.1)).Nodup := by
  obtain ⟨o, es, ep, t, S, _⟩ := S
  exact S.nd
theorem SetG.keep {h h' : Heap} {a : Addr} {xs : List (T3 × Addr)} (S : SetG prog w hf h a xs) (k1 : ∀ o, h.get? a = some o → h'.get? a = some o) (k2 : ∀ x ∈ xs, TK prog w h' x.1 x.2) : SetG prog w hf h' a xs := by
  obtain ⟨o, es, ep, t, S, q⟩ := S
  exact ⟨o, es, ep, t, ⟨k1 o S.ho, S.ex, S.hd, S.el, k2, S.nd, S.ok, S.rm, S.pl, S.le⟩, q⟩
theorem Got.len {P : Nat → Value → Prop} {ks : Nat → T3} {i n : Nat} {xs : List (T3 × Addr)} (g : Got P ks i xs) (hi : i ≤ n) (nd : (xs.map (·.1)).Nodup) (B : ∀ l : List T3, l.Nodup → (∀ x ∈ l, ∃ j, j < n ∧ ks j = x) → l.length < 63) : xs.length < 63 := by
  have := B _ nd fun x hx => by
    obtain ⟨y, hy, rfl⟩ := List.mem_map.mp hx
    obtain ⟨j, h1, _, h2⟩ := g.1 y hy
    exact ⟨j, by omega, h2⟩
  rwa [List.length_map] at this
theorem xm2 {I S : Addr} {fp wr : List Addr} {n : Nat} {P : Nat → Value → Prop} {St : Nat → Heap → Prop} {h0 : Heap} {ks : Nat → T3} (W : Walks prog w A.in1 I fp wr n P St) (hS : S ∉ fp) (ua : A.units + 1 < cLine)
    (low : ∀ b ∈ S :: wr, h0.objs.size ≤ b) (hv : ∀ i v, i < n → P i v → ∃ b, v = .ref b ∧ TK prog w h0 (ks i) b) (B : ∀ l : List T3, l.Nodup → (∀ x ∈ l, ∃ j, j < n ∧ ks j = x) → l.length < 63) :
    ∀ (k i : Nat) (s : Shared) (xs : List (T3 × Addr)), n - i = k → i ≤ n → St i s.heap → KpH h0 s.heap → SetG prog w (hT prog w) s.heap S xs → Got P ks i xs →
      (∀ h' tk xs', KpH h0 h' → SetG prog w (hT prog w) h' S xs' → Got P ks n xs' → R (.ok (.ret .none)) { s with heap := h', toks := tk }) →
      codeAny (model prog w) A (.builtin "set.update.loop" ⟨[.ref S, .ref I], []⟩) R s := by
  have nw : S ∉ wr := fun h => hS (W.sub _ h)
  have nl : ∀ {b : Addr} {o : Obj}, h0.get? b = some o → b ∉ wr ∧ b ≠ S := fun {b o} e =>
    ⟨fun z => absurd (Heap.lt_size e) (Nat.not_lt.mpr (low b (List.mem_cons_of_mem _ z))), fun z => absurd (Heap.lt_size e) (Nat.not_lt.mpr (low b (by rw [z]; exact List.mem_cons_self ..)))⟩
  have tkk : ∀ {i : Nat} {xs : List (T3 × Addr)} {h : Heap}, i ≤ n → Got P ks i xs → KpH h0 h → ∀ x ∈ xs, TK prog w h x.1 x.2 := fun {i xs h} hi g k x hx => by
    obtain ⟨j, a1, a2, a3⟩ := g.1 x hx
    obtain ⟨b, e, t⟩ := hv j _ (by omega) a2
    cases e
    rw [← a3]
    exact t.kept fun o e _ => k _ o e
  intro k
  induction k with
  | zero =>
    intro i s xs hk hi st kp sg g q
    have : i = n := by omega
    subst this
    refine codeAny_builtin F.entry_set_update_loop ?_
    rw [Around.under_plainId F.plain_set_update_loop _]
    show wpAny _ A.in1 (pyNext (.ref I) >>= _) _ _ s
    refine wpAny_bind (W.done s _ _ st fun h1 tk km => ?_)
    show wpAny _ A.in1 (ret Value.none) _ _ _
    have kp1 : KpH h0 h1 := fun b o e => km b o (nl e).1 (kp b o e)
    exact wpAny_pure (q h1 tk xs kp1 (sg.keep (fun o e => km S o nw e) (tkk hi g kp1)) g)
  | succ k ih =>
    intro i s xs hk hi st kp sg g q
    have lt : i < n := by omega
    refine codeAny_builtin F.entry_set_update_loop ?_
    rw [Around.under_plainId F.plain_set_update_loop _]
    show wpAny _ A.in1 (pyNext (.ref I) >>= _) _ _ s
    refine wpAny_bind (W.item i s _ _ lt st fun v h1 tk hP st1 km => ?_)
    obtain ⟨b, rfl, tb0⟩ := hv i v lt hP
    have kp1 : KpH h0 h1 := fun b o e => km b o (nl e).1 (kp b o e)
    have tb : TK prog w h1 (ks i) b := tb0.kept fun o e _ => kp1 b o e
    have sg1 : SetG prog w (hT prog w) h1 S xs := sg.keep (fun o e => km S o nw e) (tkk hi g kp1)
    have ln := g.len hi sg.nd B
    show wpAny _ A.in1 (holding [Value.ref b] (setAdd S (.ref b)) >>= _) _ _ _
    refine wpAny_bind (wpAny_holding ?_)
    unfold setAdd
    refine wpAny_holding ?_
    refine wpAny_bind (xr5 (s := { s with heap := h1, toks := tk }) ua tb fun tk2 => ?_)
    refine wb4 (hf := hT prog w) (s := { s with heap := h1, toks := tk2 }) ua sg1 tb (by omega) (fun old => ?_) (fun new h2 xs2 sb sg2 pm => ?_)
    · refine wpAny_pure ⟨plainId_quiet F.plain_set_update_loop _, ih (i + 1) { s with heap := h1, toks := tk2 } xs (by omega) lt st1 kp1 sg1 ?_ fun h' tk' xs' a b c => q h' tk' xs' a b c⟩
      refine ⟨fun x hx => ?_, fun j hj => ?_⟩
      · obtain ⟨j, a1, a2⟩ := g.1 x hx
        exact ⟨j, by omega, a2⟩
      · by_cases c : j < i
        · exact g.2 j c
        · have : j = i := by omega
          rw [this]; exact old
    · have kp2 : KpH h0 h2 := fun b o e => by rw [sb.2 b (nl e).2]; exact kp1 b o e
      refine wpAny_pure ⟨plainId_quiet F.plain_set_update_loop _, ih (i + 1) { s with heap := h2, toks := tk2 } xs2 (by omega) lt (W.frame _ h1 _ st1 fun b hb o e => ?_) kp2 sg2 ?_ fun h' tk' xs' a b c => q h' tk' xs' a b c⟩
      · rw [sb.2 b (fun z => hS (by rw [← z]; exact hb))]; exact e
      · refine ⟨fun x hx => ?_, fun j hj => ?_⟩
        · rcases List.mem_cons.mp (pm.mem_iff.mp hx) with rfl | hx
          · exact ⟨i, by omega, hP, rfl⟩
          · obtain ⟨j, a1, a2⟩ := g.1 x hx
            exact ⟨j, by omega, a2⟩
        · refine (pm.map (·.1)).mem_iff.mpr ?_
          by_cases c : j < i
          · exact List.mem_cons_of_mem _ (g.2 j c)
          · have : j = i := by omega
            rw [this]; exact List.mem_cons_self ..
noncomputable def nset (b : Bool) : Obj := { cls := .type "set", dict := none, data := .set #[] 0 (.fresh 0 0 b) }
theorem yj3 (v : Value) {Q1 : Value → Shared → Prop} (h : Q1 (.ref s.heap.objs.size) { s with heap := s.heap.push (nset (!bT prog w)) }) : codeAny (model prog w) A (.call (.builtin "set.__new__") ⟨[.type "set", v], []⟩) (wants Q1 E) s := by
  refine codeAny_of_tree ?_
  show wpAny _ A.in1 (do checkBuiltinCall "set.__new__" ⟨[.type "set", v], []⟩; again (.builtin "set.__new__" ⟨[.type "set", v], []⟩)) _ _ s
  refine wpAny_bind (wpAny_of_eq (F.newCall_set_1 v) (wpAny_pure ⟨plainId_quiet F.plain_set_new _, codeAny_builtin F.entry_set_new ?_⟩))
  rw [Around.under_plainId F.plain_set_new _]; unfold Builtin.«set.__new__» Builtin.Frozenset.newClass
  have ss := sub_set_self
  obtain ⟨hp, g, d, tk, os⟩ := s
  dsimp only; wp_walk
  refine wpAny_askSetting (wpAny_pure ?_); dsimp only; simp only [newObj]
  refine wpAny_bind (wpAny_alloc (wpAny_pure ?_)); exact wpAny_pure h
theorem set0 {h : Heap} {a : Addr} (e : h.get? a = some (nset (!bT prog w))) : SetG prog w hf h a [] := by
  refine ⟨_, #[], 0, .fresh 0 0 (!bT prog w), ⟨e, ?_, rfl, rfl, (fun x hx => nomatch hx), List.nodup_nil, ?_, (show 0 ≤ 7 by decide), rfl, rfl⟩, (show 0 * 5 < 7 * 3 by decide)⟩
  · exact ⟨rfl, rfl, rfl⟩
  · refine ⟨by simp [Rise, SetTable.fresh], by simp [Rise, SetTable.fresh], (fun j h => by simp [SetTable.fresh] at h), (fun j h => by simp [SetTable.fresh] at h), (fun j h => by simp [SetTable.fresh] at h), (show 7 ∈ okM by decide), rfl, (fun i j h z => by simp [SetTable.fresh] at z)⟩
theorem zh1 : isSubtype (.type "tuple") (.type "set") = pure false := by rw [isSubtype_type]; kernel_rfl
theorem xw0 : isSubtype (.type "tuple") (.type "frozenset") = pure false := by rw [isSubtype_type]; kernel_rfl
theorem zm1 {l : Addr} {items : Array Value} {ks : Nat → T3} {Q : Value → Shared → Prop} (hh : A.handled = none) (hu : A.units + 16 < cLine) (hl : s.heap.IsList l items)
    (hi : ∀ i v, i < items.size → items[i]? = some v → ∃ b, v = .ref b ∧ TK prog w s.heap (ks i) b) (B : ∀ l : List T3, l.Nodup → (∀ x ∈ l, ∃ j, j < items.size ∧ ks j = x) → l.length < 63)
    (h : ∀ (h' : Heap) (tk : Nat) xs, KpH s.heap h' → SetG prog w (hT prog w) h' s.heap.objs.size xs → Got (fun i v => items[i]? = some v) ks items.size xs → Q (.ref s.heap.objs.size) { s with heap := h', toks := tk }) :
    wpAny (model prog w) A (call (.type "set") [.ref l]) Q E s := by
  obtain ⟨c, tl, emro⟩ := F.called_set.mro
  have e0 := F.called_set.made
  have e1 := F.called_set.sub
  refine wpAny_call (codeAny_of_tree ?_); show wpAny _ _ (callAny (.type "set") _) _ _ _
  refine wpAny_pure ⟨Code.quiet_builtin _ (by decide +kernel), codeAny_builtin F.entry_type_call ?_⟩; rw [Around.under_plain (weight_type_call_type "set" [.ref l] []) rfl]
  have e2 := F.called_set.notType
  have e3 := F.called_set.canCreate
  have e4 := F.typeCall_set_1 (.ref l)
  repeat (any_goals (first | assumption | wp_step))
  refine codeAny_mono (yj3 (.ref l) (E := E) (Q1 := fun obj s1 => obj = .ref s.heap.objs.size ∧ s1 = { s with heap := s.heap.push (nset (!bT prog w)) }) ⟨rfl, rfl⟩) fun r s1 hr => ?_
  cases r with
  | error e => exact hr
  | ok fl =>
    cases fl with
    | ret obj =>
      obtain ⟨rfl, rfl⟩ := hr
      have gS : (s.heap.push (nset (!bT prog w))).get? s.heap.objs.size = some (nset (!bT prog w)) := Heap.get?_push_size _ rfl
      have tS : Shared.TypeIs { s with heap := s.heap.push (nset (!bT prog w)) } (.ref s.heap.objs.size) "set" := ⟨_, gS, rfl⟩
      have e5 := F.called_set.init.lookup
      have e6 := F.called_set.init.bind (.ref s.heap.objs.size)
      repeat (any_goals (first | assumption | wp_step))
      refine codeAny_mono (codeAny_call_builtin (R := wants (fun r s2 => r = .none ∧ ∃ h' tk xs, s2 = { s with heap := h', toks := tk } ∧ KpH s.heap h' ∧ SetG prog w (hT prog w) h' s.heap.objs.size xs ∧ Got (fun i v => items[i]? = some v) ks items.size xs) E) F.called_set.init.plain F.entry_set_init (check_set_init_1 tS ?_)) fun r2 s2 hr2 => ?_
      · obtain ⟨ol, gl, cl, nl, dl⟩ := hl
        obtain ⟨ocls, odict, odata, oslots⟩ := ol
        simp only at cl dl
        subst cl; subst dl
        have gl' : (s.heap.push (nset (!bT prog w))).get? l = some { cls := .type "list", dict := odict, data := .seq items nl, slots := oslots } := Heap.get?_push_of_some _ gl
        have f1 := F.sub_list_set
        have f2 := F.sub_list_frozenset
        have f3 : (Value.type "list" == Value.type "dict") = false := by decide
        have il : (s.heap.push (nset (!bT prog w))).IsList l items := ⟨_, gl', rfl, nl, rfl⟩
        unfold Builtin.«set.__init__» noKeywords Builtin.Frozenset.updateFrom
        generalize hPI : pyIter = PI
        wp_walk
        subst hPI; refine wpAny_pyIter_list il ?_; refine wpAny_bind (wpAny_runValue ?_)
        have ls : l < s.heap.objs.size := Heap.lt_size gl
        have z1 : (s.heap.push (nset (!bT prog w))).objs.size = s.heap.objs.size + 1 := Heap.size_push ..
        have ni : l ≠ (s.heap.push (nset (!bT prog w))).objs.size := by rw [z1]; exact Nat.ne_of_lt (Nat.lt_succ_of_lt ls)
        refine xm2 (A := A.in1.in1) (h0 := s.heap) (ks := ks) (Walks.list (show A.in1.in1.in1.handled = none by simp [hh]) _ l ni items) (S := s.heap.objs.size) ?_ (show A.units + 1 + 1 + 1 < cLine by omega) ?_ (fun i v lt e => hi i v lt e) B (items.size - 0) 0 _ [] (by omega) (Nat.zero_le _) ?_ ?_ ?_ ?_ ?_
        · rw [z1]
          intro z
          rcases List.mem_cons.mp z with z | z
          · exact Nat.ne_of_lt (Nat.lt_succ_self _) z
          · rcases List.mem_cons.mp z with z | z
            · exact Nat.ne_of_gt ls z
            · cases z
        · intro b hb
          rcases List.mem_cons.mp hb with rfl | hb
          · exact Nat.le_refl _
          · rcases List.mem_cons.mp hb with rfl | hb
            · rw [z1]; exact Nat.le_succ _
            · cases hb
        · exact ⟨⟨_, Heap.get?_push_size _ rfl, rfl, rfl⟩, il.push _⟩
        · exact fun b o e => Heap.get?_push_of_some _ (Heap.get?_push_of_some _ e)
        · exact set0 (Heap.get?_push_of_some _ gS)
        · exact ⟨(fun x hx => nomatch hx), fun j hj => absurd hj (Nat.not_lt_zero _)⟩
        · intro h' tk xs kp sg g
          show wpAny _ _ _ _ _ _
          refine wpAny_pure ?_
          show wpAny _ _ (ret Value.none) _ _ _
          exact wpAny_pure ⟨rfl, h', tk, xs, rfl, kp, sg, g⟩
      · cases r2 with
        | error e => exact hr2
        | ok fl2 =>
          cases fl2 with
          | ret r =>
            obtain ⟨rfl, h', tk, xs, rfl, kp, sg, g⟩ := hr2
            repeat (any_goals (first | assumption | wp_step))
            exact h _ _ _ kp sg g
          | _ => exact hr2.elim
    | _ => exact hr.elim
theorem xj3 {l : Addr} {items : Array Value} {ks : Nat → T3} {Q : Value → Shared → Prop} (hh : A.handled = none) (hu : A.units + 16 < cLine) (hl : s.heap.IsTuple l items)
    (hi : ∀ i v, i < items.size → items[i]? = some v → ∃ b, v = .ref b ∧ TK prog w s.heap (ks i) b) (B : ∀ l : List T3, l.Nodup → (∀ x ∈ l, ∃ j, j < items.size ∧ ks j = x) → l.length < 63)
    (h : ∀ (h' : Heap) (tk : Nat) xs, KpH s.heap h' → SetG prog w (hT prog w) h' s.heap.objs.size xs → Got (fun i v => items[i]? = some v) ks items.size xs → Q (.ref s.heap.objs.size) { s with heap := h', toks := tk }) :
    wpAny (model prog w) A (call (.type "set") [.ref l]) Q E s := by
  obtain ⟨c, tl, emro⟩ := F.called_set.mro
  have e0 := F.called_set.made
  have e1 := F.called_set.sub
  refine wpAny_call (codeAny_of_tree ?_); show wpAny _ _ (callAny (.type "set") _) _ _ _
  refine wpAny_pure ⟨Code.quiet_builtin _ (by decide +kernel), codeAny_builtin F.entry_type_call ?_⟩; rw [Around.under_plain (weight_type_call_type "set" [.ref l] []) rfl]
  have e2 := F.called_set.notType
  have e3 := F.called_set.canCreate
  have e4 := F.typeCall_set_1 (.ref l)
  repeat (any_goals (first | assumption | wp_step))
  refine codeAny_mono (yj3 (.ref l) (E := E) (Q1 := fun obj s1 => obj = .ref s.heap.objs.size ∧ s1 = { s with heap := s.heap.push (nset (!bT prog w)) }) ⟨rfl, rfl⟩) fun r s1 hr => ?_
  cases r with
  | error e => exact hr
  | ok fl =>
    cases fl with
    | ret obj =>
      obtain ⟨rfl, rfl⟩ := hr
      have gS : (s.heap.push (nset (!bT prog w))).get? s.heap.objs.size = some (nset (!bT prog w)) := Heap.get?_push_size _ rfl
      have tS : Shared.TypeIs { s with heap := s.heap.push (nset (!bT prog w)) } (.ref s.heap.objs.size) "set" := ⟨_, gS, rfl⟩
      have e5 := F.called_set.init.lookup
      have e6 := F.called_set.init.bind (.ref s.heap.objs.size)
      repeat (any_goals (first | assumption | wp_step))
      refine codeAny_mono (codeAny_call_builtin (R := wants (fun r s2 => r = .none ∧ ∃ h' tk xs, s2 = { s with heap := h', toks := tk } ∧ KpH s.heap h' ∧ SetG prog w (hT prog w) h' s.heap.objs.size xs ∧ Got (fun i v => items[i]? = some v) ks items.size xs) E) F.called_set.init.plain F.entry_set_init (check_set_init_1 tS ?_)) fun r2 s2 hr2 => ?_
      · obtain ⟨ol, gl, cl, nl, dl⟩ := hl
        obtain ⟨ocls, odict, odata, oslots⟩ := ol
        simp only at cl dl
        subst cl; subst dl
        have gl' : (s.heap.push (nset (!bT prog w))).get? l = some { cls := .type "tuple", dict := odict, data := .seq items nl, slots := oslots } := Heap.get?_push_of_some _ gl
        have f1 := zh1
        have f2 := xw0
        have f3 : (Value.type "tuple" == Value.type "dict") = false := by decide
        have il : (s.heap.push (nset (!bT prog w))).IsTuple l items := ⟨_, gl', rfl, nl, rfl⟩
        unfold Builtin.«set.__init__» noKeywords Builtin.Frozenset.updateFrom
        generalize hPI : pyIter = PI
        wp_walk
        subst hPI; refine wpAny_pyIter_tuple il ?_; refine wpAny_bind (wpAny_runValue ?_)
        have ls : l < s.heap.objs.size := Heap.lt_size gl
        have z1 : (s.heap.push (nset (!bT prog w))).objs.size = s.heap.objs.size + 1 := Heap.size_push ..
        have ni : l ≠ (s.heap.push (nset (!bT prog w))).objs.size := by rw [z1]; exact Nat.ne_of_lt (Nat.lt_succ_of_lt ls)
        refine xm2 (A := A.in1.in1) (h0 := s.heap) (ks := ks) (Walks.tuple (show A.in1.in1.in1.handled = none by simp [hh]) _ l ni items) (S := s.heap.objs.size) ?_ (show A.units + 1 + 1 + 1 < cLine by omega) ?_ (fun i v lt e => hi i v lt e) B (items.size - 0) 0 _ [] (by omega) (Nat.zero_le _) ?_ ?_ ?_ ?_ ?_
        · rw [z1]
          intro z
          rcases List.mem_cons.mp z with z | z
          · exact Nat.ne_of_lt (Nat.lt_succ_self _) z
          · rcases List.mem_cons.mp z with z | z
            · exact Nat.ne_of_gt ls z
            · cases z
        · intro b hb
          rcases List.mem_cons.mp hb with rfl | hb
          · exact Nat.le_refl _
          · rcases List.mem_cons.mp hb with rfl | hb
            · rw [z1]; exact Nat.le_succ _
            · cases hb
        · exact ⟨⟨_, Heap.get?_push_size _ rfl, rfl, rfl⟩, il.push _⟩
        · exact fun b o e => Heap.get?_push_of_some _ (Heap.get?_push_of_some _ e)
        · exact set0 (Heap.get?_push_of_some _ gS)
        · exact ⟨(fun x hx => nomatch hx), fun j hj => absurd hj (Nat.not_lt_zero _)⟩
        · intro h' tk xs kp sg g
          show wpAny _ _ _ _ _ _
          refine wpAny_pure ?_
          show wpAny _ _ (ret Value.none) _ _ _
          exact wpAny_pure ⟨rfl, h', tk, xs, rfl, kp, sg, g⟩
      · cases r2 with
        | error e => exact hr2
        | ok fl2 =>
          cases fl2 with
          | ret r =>
            obtain ⟨rfl, h', tk, xs, rfl, kp, sg, g⟩ := hr2
            repeat (any_goals (first | assumption | wp_step))
            exact h _ _ _ kp sg g
          | _ => exact hr2.elim
    | _ => exact hr.elim
end
end Pv

namespace Pv
open PySem PySem.Spec PySem.W PyProof.Rows L2
theorem wq2 {α β : Type} {f : α → β} {l m : List β} (p : l.Perm m) : ∀ xs : List α, m = xs.map f → ∃ ys : List α, ys.Perm xs ∧ l = ys.map f := by
  induction p with
  | nil => intro xs e; cases xs with
    | nil => exact ⟨[], .nil, rfl⟩
    | cons _ _ => cases e
  | cons a _ ih =>
    intro xs e
    cases xs with
    | nil => cases e
    | cons x xs =>
      rw [List.map_cons] at e
      injection e with e1 e2
      obtain ⟨ys, p, q⟩ := ih xs e2
      exact ⟨x :: ys, p.cons x, by rw [List.map_cons, e1, q]⟩
  | swap a b l =>
    intro xs e
    match xs, e with
    | x :: y :: xs, e =>
      simp only [List.map_cons, List.cons.injEq] at e
      obtain ⟨e1, e2, e3⟩ := e
      exact ⟨y :: x :: xs, .swap x y xs, by rw [List.map_cons, List.map_cons, e1, e2, e3]⟩
  | trans _ _ i1 i2 =>
    intro xs e
    obtain ⟨ys, p, q⟩ := i2 xs e
    obtain ⟨zs, p', q'⟩ := i1 ys q
    exact ⟨zs, p'.trans p, q'⟩
theorem zr1 {α : Type} : ∀ {l : List α} {i : Nat} (h : i < l.length), (l[i] :: l.eraseIdx i).Perm l
  | x :: l, 0, _ => List.Perm.refl _
  | x :: l, i + 1, h => (List.Perm.swap _ _ _).trans ((zr1 (l := l) (i := i) (by simpa using h)).cons x)
theorem wo3 {α : Type} (next : Nat → Nat) : ∀ (fuel k : Nat) (left : List α) (out : Array α), left.length ≤ fuel → (pickOrder.go next fuel k left out).toList.Perm (out.toList ++ left)
  | 0, k, left, out, h => by
    have : left = [] := List.length_eq_zero_iff.mp (by omega)
    subst this
    unfold pickOrder.go
    rw [List.append_nil]
  | fuel + 1, k, left, out, h => by
    unfold pickOrder.go
    by_cases c : left = []
    · subst c
      simp
    · have lt : next k % left.length < left.length := Nat.mod_lt _ (List.length_pos_iff.mpr c)
      rw [List.getElem?_eq_getElem lt]
      dsimp only
      refine (wo3 next fuel (k + 1) _ _ (by rw [List.length_eraseIdx_of_lt lt]; omega)).trans ?_
      rw [Array.toList_push, List.append_assoc]
      refine List.Perm.append_left _ ?_
      exact zr1 lt
theorem zo3 {α : Type} (next : Nat → Nat) (xs : Array α) : (pickOrder next xs).toList.Perm xs.toList := by
  have := wo3 next xs.size 0 xs.toList #[] (by simp)
  simpa [pickOrder] using this
theorem zs7 {xs : Array Nat} (h : Rise xs) : SetTable.below xs 0 = 0 := by
  by_cases c : SetTable.below xs 0 = 0
  · exact c
  · have hl := zu0 h 0
    have hz : 0 < xs.size := by omega
    have q : xs[0]? = some xs[0] := Array.getElem?_eq_getElem hz
    have := (yq0 h 0 q).mp (by omega)
    omega
theorem ys7 {xs : Array Nat} (h : Rise xs) {i j : Nat} (q : xs[i]? = some j) : SetTable.below xs (j + 1) = i + 1 := by
  have h1 := (yq0 h (j + 1) q).mpr (by omega)
  have hl := zu0 h (j + 1)
  by_cases c : i + 1 < SetTable.below xs (j + 1)
  · have hz : i + 1 < xs.size := by omega
    have q2 : xs[i + 1]? = some xs[i + 1] := Array.getElem?_eq_getElem hz
    have a := (yq0 h (j + 1) q2).mp c
    have b := wv0 h q q2 (by omega)
    omega
  · omega
theorem xq3 : Manifest.owners.lookup (String.ofList "set_iterator".toList.reverse.reverse) = some Manifest.sig_set_iterator := by kernel_rfl
theorem slot_sit : Slot "set_iterator" "__next__" "set_iterator.__next__" := by
  refine .of (owner := "set_iterator") (n := "__next__") ?_ ?_ ?_ ?_ ?_ ?_
  · rw [typeLookup_type, builtinLookup_eq_fast]; kernel_rfl
  · decide +kernel
  · decide +kernel
  · decide +kernel
  · first | exact .inl (by decide +kernel) | exact .inr (by decide +kernel)
  · rw [isSubtype_type]; kernel_rfl
theorem yo2 : Slot "set_iterator" "__iter__" "set_iterator.__iter__" := by
  refine .of (owner := "set_iterator") (n := "__iter__") ?_ ?_ ?_ ?_ ?_ ?_
  · rw [typeLookup_type, builtinLookup_eq_fast]; kernel_rfl
  · decide +kernel
  · decide +kernel
  · decide +kernel
  · first | exact .inl (by decide +kernel) | exact .inr (by decide +kernel)
  · rw [isSubtype_type]; kernel_rfl
theorem wa2 : entryFor table "set_iterator.__next__" = some Builtin.«set_iterator.__next__» := by exact entryFor_of_tree (by kernel_rfl)
theorem yw3 : entryFor table "set_iterator.__iter__" = some Builtin.«dict_keyiterator.__iter__» := by refine entryFor_alias (id' := "dict_keyiterator.__iter__") (by kernel_rfl) ?_ (by decide +kernel) (by kernel_rfl); first | rfl | decide +kernel | (unfold String.splitOn; simp +decide [String.splitOnAux])
theorem zu2 (a : Value) : argsOk "set_iterator.__next__" ⟨[a], []⟩ := by
  unfold argsOk
  rw [signature?_of (id := "set_iterator.__next__") (n := "__next__".toList.reverse) (o := "set_iterator".toList.reverse) (by kernel_rfl) xq3]
  kernel_rfl
theorem wq4 (a : Value) : argsOk "set_iterator.__iter__" ⟨[a], []⟩ := by
  unfold argsOk
  rw [signature?_of (id := "set_iterator.__iter__") (n := "__iter__".toList.reverse) (o := "set_iterator".toList.reverse) (by kernel_rfl) xq3]
  kernel_rfl
theorem ye3 : entryFor table "set.__iter__" = some Builtin.«frozenset.__iter__» := by exact entryFor_alias (id' := "frozenset.__iter__") (by kernel_rfl) rfl (by decide +kernel) (by kernel_rfl)
noncomputable def SIt (h : Heap) (it a : Addr) (sl i n ep : Nat) : Prop := ∃ o, h.get? it = some o ∧ o.cls = .type "set_iterator" ∧ o.data = .fields #[rawInt sl, rawInt i, .ref a, rawInt n, rawInt ep]
theorem SIt.keep {h h' : Heap} {it a : Addr} {sl i n ep : Nat} (x : SIt h it a sl i n ep) (k : ∀ o, h.get? it = some o → h'.get? it = some o) : SIt h' it a sl i n ep := by
  obtain ⟨o, e1, e2⟩ := x
  exact ⟨o, k o e1, e2⟩
theorem SIt.ty {s : Shared} {it a : Addr} {sl i n ep : Nat} (x : SIt s.heap it a sl i n ep) : s.TypeIs (.ref it) "set_iterator" := by
  obtain ⟨o, e1, e2, _⟩ := x
  exact ⟨o, e1, e2⟩
theorem xv3 {h : Heap} {it : Addr} {o : Obj} {vs : Array Value} {c : Value} (e1 : h.get? it = some o) (e2 : o.cls = c) (e3 : o.data = .fields vs) (j : Nat) (x : Value) :
    ∃ o', (h.update it (Obj.mapFields (·.setIfInBounds j x))).get? it = some o' ∧ o'.cls = c ∧ o'.data = .fields (vs.setIfInBounds j x) :=
  ⟨_, Heap.get?_update_self _ e1 (Obj.isFreed_of_fields (Obj.data_mapFields e3 _)), (Obj.cls_mapFields ..).trans e2, Obj.data_mapFields e3 _⟩
structure SObj (prog : Program) (w : World) (h : Heap) (a : Addr) (o : Obj) (es : Array (Int × Value)) (ep : Nat) (t : SetTable) : Prop where
  ho : h.get? a = some o
  ex : o.ExactSet
  hd : o.data = .set es ep t
  fits : t.fits es.size = true
  ris : Rise t.place
  sz : t.place.size = es.size
  pl : t.plain = true
  le : t.led = !bT prog w
theorem SObj.keep {prog : Program} {w : World} {h h' : Heap} {a : Addr} {o : Obj} {es : Array (Int × Value)} {ep : Nat} {t : SetTable} (S : SObj prog w h a o es ep t) (k : ∀ o, h.get? a = some o → h'.get? a = some o) : SObj prog w h' a o es ep t :=
  ⟨k o S.ho, S.ex, S.hd, S.fits, S.ris, S.sz, S.pl, S.le⟩
theorem SetIs.obj {prog : Program} {w : World} {hf : T3 → Int} {h : Heap} {a : Addr} {o : Obj} {es : Array (Int × Value)} {ep : Nat} {t : SetTable} {xs : List (T3 × Addr)} (S : SetIs prog w hf h a o es ep t xs) : SObj prog w h a o es ep t :=
  ⟨S.ho, S.ex, S.hd, S.fits, S.ok.ris, by have h1 := S.ok.sz; have h2 := S.size; rw [List.length_map] at h1; omega, S.pl, S.le⟩
section
variable {prog : Program} {w : World} {A : Around} {E : Value → Shared → Prop} {s : Shared} {a it : Addr} {o : Obj} {es : Array (Int × Value)} {ep : Nat} {t : SetTable}
theorem yf4 {Q : Value → Shared → Prop} (S : SObj prog w s.heap a o es ep t)
    (q : Q (.ref s.heap.objs.size) { s with heap := s.heap.push { cls := .type "set_iterator", data := .fields #[rawInt (0 : Nat), rawInt (0 : Nat), .ref a, rawInt es.size, rawInt ep] } }) : wpAny (model prog w) A (pyIter (.ref a)) Q E s := by
  have ty : s.TypeIs (.ref a) "set" := ⟨o, S.ho, S.ex.1⟩
  refine wpAny_pyIter_slot ty F.slot_set_iter (wpAny_call_entry F.slot_set_iter ty ye3 ?_ (F.args_set_iter_1 _))
  unfold Builtin.«frozenset.__iter__» Builtin.Frozenset.slot0 slotArgs
  simp only [List.isEmpty_nil, Bool.not_true, Bool.false_eq_true, ↓reduceIte, bind_assoc, List.length_nil, bne_self_eq_false]
  unfold Builtin.Frozenset.addrOf Builtin.Frozenset.sizeOf
  refine wpAny_bind (wpAny_pure ?_)
  try dsimp only
  refine wpAny_bind (wpAny_pure ?_)
  refine wpAny_bind (wpAny_bind (wpAny_setEntries_of S.ho S.hd S.fits (wpAny_pure ?_)))
  have dr : wpAny (model prog w) A.in1 (setDrawn a) (fun b s' => b = false ∧ s' = s) E s := by
    unfold setDrawn setsByText
    refine wpAny_bind (wpAny_setState_of S.ho S.hd S.fits ?_)
    dsimp only
    refine wpAny_bind (wpAny_bind (wpAny_askSetting (wpAny_pure (wpAny_pure ⟨?_, rfl⟩))))
    show (!_ && (!t.plain && _)) = false
    rw [S.pl]
    simp
  refine wpAny_bind (wpAny_mono dr (fun b s' h => ?_) fun _ _ h => h)
  obtain ⟨rfl, rfl⟩ := h
  simp only [Bool.false_eq_true, if_false]
  refine wpAny_bind (wpAny_pure ?_)
  refine wpAny_bind (wpAny_setEpoch_of S.ho S.hd S.fits ?_)
  refine wpAny_bind (wpAny_newObj_type (wpAny_pure ⟨_, rfl, "set_iterator", _, ⟨_, Heap.get?_push_size _ rfl, rfl⟩, slot_sit.lookup, q⟩))
noncomputable def ordS (prog : Program) (w : World) (a : Addr) (ep : Nat) (es : Array (Int × Value)) : Array (Int × Value) := if bT prog w = true then pickOrder ((model prog w).w.params.setOrder a ep) es else es
theorem wo1 : (ordS prog w a ep es).toList.Perm es.toList := by
  unfold ordS
  split
  · exact zo3 _ _
  · exact List.Perm.refl _
theorem zo1 : (ordS prog w a ep es).size = es.size := by
  have := (wo1 (prog := prog) (w := w) (a := a) (ep := ep) (es := es)).length_eq
  simpa using this
theorem xj1 {Q : Option (Value × Nat) → Shared → Prop} (S : SObj prog w s.heap a o es ep t) {sl i : Nat} (hb : bT prog w = false → SetTable.below t.place sl = i)
    (some' : ∀ e nx, (ordS prog w a ep es)[i]? = some e → (bT prog w = false → SetTable.below t.place nx = i + 1) → Q (some (e.2, nx)) s) (none' : (ordS prog w a ep es)[i]? = none → Q none s) :
    wpAny (model prog w) A (setNext a sl i ep) Q E s := by
  unfold setNext setsByText
  refine wpAny_bind (wpAny_setState_of S.ho S.hd S.fits ?_)
  dsimp only
  refine wpAny_bind (wpAny_bind (wpAny_askSetting (wpAny_pure ?_)))
  unfold ordS at some' none'
  by_cases c : bT prog w = true
  · rw [if_pos (show (model prog w).w.params.followText "set-order" = true from c)]
    rw [if_pos c] at some' none'
    rw [if_neg (by simp)]
    refine wpAny_bind ?_
    unfold setWalk setsByText
    refine wpAny_bind (wpAny_setState_of S.ho S.hd S.fits ?_)
    dsimp only
    refine wpAny_bind (wpAny_bind (wpAny_askSetting (wpAny_pure ?_)))
    rw [if_pos (show (model prog w).w.params.followText "set-order" = true from c)]
    refine wpAny_bind (wpAny_askSetting (wpAny_pure (wpAny_pure ?_)))
    show Q (Option.map _ (pickOrder ((model prog w).w.params.setOrder a ep) es)[i]?) s
    cases e : (pickOrder ((model prog w).w.params.setOrder a ep) es)[i]? with
    | none => exact none' e
    | some v => exact some' v sl e (fun z => by rw [c] at z; cases z)
  · have cf : bT prog w = false := by simpa using c
    rw [if_neg (show ¬ (model prog w).w.params.followText "set-order" = true from c)]
    rw [if_neg c] at some' none'
    split
    · next dr =>
      have : (!t.plain && decide (es.size > 1)) = true := dr
      rw [S.pl] at this
      cases this
    · refine wpAny_bind ?_
      show wpAny _ _ (ite (_ = true) _ (pure PUnit.unit)) _ _ _
      rw [if_neg (by rw [S.le, cf]; simp)]
      refine wpAny_pure (wpAny_pure ?_)
      rw [hb cf]
      cases e : es[i]? with
      | none => exact none' e
      | some v =>
        have hlt : i < t.place.size := by
          have h1 := S.sz
          have := (Array.getElem?_eq_some_iff.mp e).1
          omega
        have q : t.place[i]? = some t.place[i] := Array.getElem?_eq_getElem hlt
        rw [q]
        exact some' v _ e (fun _ => ys7 S.ris q)
theorem xf4 {Q : Option Value → Shared → Prop} (S : SObj prog w s.heap a o es ep t) {sl i : Nat} (hi : SIt s.heap it a sl i es.size ep) (hb : bT prog w = false → SetTable.below t.place sl = i) (lt : i < es.size)
    (q : ∀ h' e nx, (ordS prog w a ep es)[i]? = some e → SIt h' it a nx (i + 1) es.size ep → (bT prog w = false → SetTable.below t.place nx = i + 1) → Heap.SameBut it s.heap h' → Q (some e.2) { s with heap := h' }) : wpAny (model prog w) A (pyNext (.ref it)) Q E s := by
  obtain ⟨oi, a1, a2, a3⟩ := id hi
  have ty := hi.ty
  unfold pyNext
  refine wpAny_bind (wpAny_attempt (wpAny_callSpecial?_slot (name := Str.ofString "__next__") ty slot_sit (wpAny_call_entry slot_sit ty wa2 ?a (zu2 _))))
  case a =>
    unfold Builtin.«set_iterator.__next__»
    refine wpAny_bind (m := slotArgs "__next__" 0 _) (wpAny_pure ?_)
    refine wpAny_bind (wpAny_fieldsOf a1 a3 ?_)
    show wpAny _ _ (setEntries a >>= _) _ _ s
    refine wpAny_bind (wpAny_setEntries_of S.ho S.hd S.fits ?_)
    rw [if_neg (by simp)]
    show wpAny _ _ (setNext a sl i ep >>= _) _ _ s
    refine wpAny_bind (xj1 S hb (fun e nx e1 e2 => ?_) fun e => ?_)
    · show wpAny _ _ (setField (.ref it) 0 (rawInt nx) >>= _) _ _ s
      refine wpAny_bind (wpAny_setField a1 a3 (by simp) ?_)
      obtain ⟨o1, b1, b2, b3⟩ := xv3 a1 a2 a3 0 (rawInt nx)
      show wpAny _ _ (setField (.ref it) 1 (rawInt ((i : Int) + 1)) >>= _) _ _ _
      refine wpAny_bind (wpAny_setField b1 b3 (by simp) ?_)
      obtain ⟨o2, c1, c2, c3⟩ := xv3 b1 b2 b3 1 (rawInt ((i : Int) + 1))
      show wpAny _ _ (ret e.2) _ _ _
      exact wpAny_pure ⟨_, rfl, wpAny_pure (q _ e nx e1 ⟨o2, c1, c2, c3⟩ e2 ((Heap.SameBut.update ..).trans (Heap.SameBut.update ..)))⟩
    · rw [Array.getElem?_eq_getElem (by rw [zo1]; exact lt)] at e
      cases e
theorem wg5 {Q : Option Value → Shared → Prop} (hh : A.handled = none) (S : SObj prog w s.heap a o es ep t) {sl : Nat} (hi : SIt s.heap it a sl es.size es.size ep) (hb : bT prog w = false → SetTable.below t.place sl = es.size)
    (q : ∀ h', Heap.ExtBut it s.heap h' → Q none { s with heap := h' }) : wpAny (model prog w) A (pyNext (.ref it)) Q E s := by
  obtain ⟨oi, a1, a2, a3⟩ := id hi
  have ty := hi.ty
  unfold pyNext
  refine wpAny_bind (wpAny_attempt (wpAny_callSpecial?_slot (name := Str.ofString "__next__") ty slot_sit (wpAny_call_entry slot_sit ty wa2 ?a (zu2 _))))
  case a =>
    unfold Builtin.«set_iterator.__next__»
    refine wpAny_bind (m := slotArgs "__next__" 0 _) (wpAny_pure ?_)
    refine wpAny_bind (wpAny_fieldsOf a1 a3 ?_)
    show wpAny _ _ (setEntries a >>= _) _ _ s
    refine wpAny_bind (wpAny_setEntries_of S.ho S.hd S.fits ?_)
    rw [if_neg (by simp)]
    show wpAny _ _ (setNext a sl es.size ep >>= _) _ _ s
    refine wpAny_bind (xj1 S hb (fun e nx e1 e2 => ?_) fun e => ?_)
    · rw [Array.getElem?_eq_none (by rw [zo1]; exact Nat.le_refl _)] at e1
      cases e1
    · show wpAny _ _ (setField (.ref it) 2 .none >>= _) _ _ s; refine wpAny_bind (wpAny_setField a1 a3 (by simp) ?_)
      show wpAny _ _ (newExc (.type "StopIteration") [] >>= _) _ _ _; refine wpAny_bind ?_; simp only [newExc, newTuple]
      refine wpAny_bind (wpAny_newObj_type (wpAny_bind (m := firstArgMember _ _) (wpAny_of_eq (a := Value.none) (by first | rfl | (simp only [firstArgMember]; rfl)) (wpAny_newObj_type ?_ (by size_fits)))) (by size_fits))
      simp only [raiseNew]; refine wpAny_bind (wpAny_handled ?_); rw [show A.in1.handled = none from hh]
      refine wpAny_bind (wpAny_pure (wpAny_throw ?_)); refine wpAny_bind (wpAny_isInstance (T := "StopIteration") (b := true) ⟨_, Heap.get?_push_size _ rfl, rfl⟩ isSubtype_stop ?_)
      exact wpAny_pure (q _ (((Heap.SameBut.update ..).extBut.push _).push _))
theorem we4 {Q : Value → Shared → Prop} {sl i n : Nat} (hi : SIt s.heap it a sl i n ep) (h : Q (.ref it) s) : wpAny (model prog w) A (pyIter (.ref it)) Q E s := by
  have ty := hi.ty
  refine wpAny_pyIter_slot ty yo2 (wpAny_call_entry yo2 ty yw3 ?_ (wq4 _))
  show wpAny _ _ (ret (.ref it)) _ _ s
  exact wpAny_pure ⟨_, rfl, "set_iterator", _, ty, slot_sit.lookup, h⟩
theorem xn4 {Q : Bool → Shared → Prop} (ty : s.TypeIs (.ref a) "set") (h : Q false s) : wpAny (model prog w) A (Builtin.List.listLengthHint (.ref a)) Q E s := by
  unfold Builtin.List.listLengthHint
  refine wpAny_bind (wpAny_specialOf ty PySem.F.slot_set_len.lookup ?_); generalize hid : ("set.__len__" : String) = id0; wp_delta
  rw [show splitId id0 = some ("set", "__len__") from by subst hid; decide +kernel]; subst hid
  refine wpAny_bind (wpAny_isInstance (T := "set") (b := true) ty (by rw [isSubtype_type]; kernel_rfl) ?_)
  refine wpAny_ite_split (fun c => absurd c (by decide)) (fun _ => ?_); refine wpAny_ite_split (fun _ => ?_) (fun c => absurd (by decide +kernel) c)
  exact wpAny_bind (wpAny_typeOf ty (wpAny_pure h))
theorem wi3 (hh : A.handled = none) (I a : Addr) (ne : a ≠ I) : Walks prog w A I [I, a] [I] es.size (fun i v => ∃ e, (ordS prog w a ep es)[i]? = some e ∧ v = e.2)
    (fun i h => ∃ sl, SIt h I a sl i es.size ep ∧ (bT prog w = false → SetTable.below t.place sl = i) ∧ SObj prog w h a o es ep t) where
  sub := fun b hb => by simp at hb; simp [hb]
  frame := fun _ _ _ z hk => by
    obtain ⟨sl, z1, z2, z3⟩ := z
    exact ⟨sl, z1.keep fun o e => hk I (by simp) o e, z2, z3.keep fun o e => hk a (by simp) o e⟩
  item := fun i s Q E hi z q => by
    obtain ⟨sl, z1, z2, z3⟩ := z
    refine xf4 z3 z1 z2 hi fun h' e nx a1 a2 a3 a4 => ?_
    exact q _ h' s.toks ⟨e, a1, rfl⟩ ⟨nx, a2, a3, z3.keep fun o e => a4.extBut a o ne e⟩ fun b o hb e => a4.extBut b o (fun y => hb (by simp [y])) e
  done := fun s Q E z q => by
    obtain ⟨sl, z1, z2, z3⟩ := z
    exact wg5 hh z3 z1 z2 fun h' k => q h' s.toks fun b o hb e => k b o (fun y => hb (by simp [y])) e
  self := fun _ _ _ _ z q => by
    obtain ⟨sl, z1, _⟩ := z
    exact we4 z1 q
theorem xh5 : KdlSrc prog w "set" a a es.size (fun i v => ∃ e, (ordS prog w a ep es)[i]? = some e ∧ v = e.2) (fun h => SObj prog w h a o es ep t) where
  type := fun _ x => ⟨o, x.ho, x.ex.1⟩
  there := fun _ x => ⟨Heap.lt_size x.ho, Heap.lt_size x.ho⟩
  keep := fun _ _ x k => x.keep fun o e => k a (.inl rfl) o e
  notList := by decide
  notTuple := by decide
  hint := fun _ _ _ _ x q => xn4 ⟨o, x.ho, x.ex.1⟩ q
  iter := fun _ s hh x => by
    have hl := Heap.lt_size x.ho
    exact ⟨_, _, (fun _ _ q => yf4 x q), wi3 hh _ a (Nat.ne_of_lt hl), ⟨0, ⟨_, Heap.get?_push_size _ rfl, rfl, rfl⟩, (fun _ => zs7 x.ris), x.keep fun o e => Heap.get?_push_of_some _ e⟩⟩
theorem zt3 {acc : Array Value} (h : ItemsOf (fun i v => ∃ e, (ordS prog w a ep es)[i]? = some e ∧ v = e.2) acc es.size) : acc.toList = (ordS prog w a ep es).toList.map (·.2) := by
  obtain ⟨h1, h2⟩ := h
  have h3 := zo1 (prog := prog) (w := w) (a := a) (ep := ep) (es := es)
  apply List.ext_getElem?
  intro i
  rw [List.getElem?_map, Array.getElem?_toList, Array.getElem?_toList]
  by_cases c : i < es.size
  · obtain ⟨e, e1, e2⟩ := h2 i (acc[i]'(by omega)) (by simp)
    rw [e1, Array.getElem?_eq_getElem (by omega), e2]
    rfl
  · rw [Array.getElem?_eq_none (by omega), Array.getElem?_eq_none (by omega)]
    rfl
theorem ys4 : ∀ {h : Heap} {ys : List (T3 × Addr)}, (∀ x ∈ ys, TK prog w h x.1 x.2) → T3s h (ys.map fun x => Value.ref x.2) (ys.map (·.1))
  | _, [], _ => trivial
  | _, x :: ys, k => ⟨(k x (List.mem_cons_self ..)).t3, ys4 fun y hy => k y (List.mem_cons_of_mem _ hy)⟩
theorem wv2 {xs : List (T3 × Addr)} {hf : T3 → Int} {Q : Value → Shared → Prop} (hh : A.handled = none) (S : SetG prog w hf s.heap a xs) (h64 : xs.length < 64)
    (h : ∀ (ys : List (T3 × Addr)) (p : Array Nat) (h1 h' : Heap) (c tk : Nat), ys.Perm xs → p.Perm (List.toArray (List.range ys.length)) → Ms.Up (ltI (ys.map (·.1))) p ys.length → (∀ b o, s.heap.get? b = some o → h1.get? b = some o) → (∀ b o, h1.get? b = some o → h'.get? b = some o) →
      h'.get? h1.objs.size = some (seqObj "list" (outV (ys.map fun x => Value.ref x.2) p).toArray c) → Q (.ref h1.objs.size) { s with heap := h', toks := tk }) :
    wpAny (model prog w) A (call (.builtin "sorted") [.ref a]) Q E s := by
  obtain ⟨o, es, ep, t, S, _⟩ := S
  have zs := S.size
  have hz : es.size ≤ sizeLine := by rw [sizeLine_eq]; omega
  obtain ⟨ys, py, ey⟩ := wq2 (f := ent hf) (wo1 (prog := prog) (w := w) (a := a) (ep := ep) (es := es)) xs S.el
  refine Calls.call_function_entry kind_sorted plain_sorted entry_sorted (args_sorted1 _) ?_
  unfold Builtin.«sorted»
  refine wpAny_bind (m := checkCount "sorted" 1 1 _) (wpAny_pure (wpAny_bind (kdu_collect (xh5 (o := o) (t := t)) hh S.obj hz fun h1 tk acc k1 ia => ?_)))
  rw [zt3 ia, ey, List.map_map, show ((fun x : Int × Value => x.2) ∘ ent hf) = (fun x : T3 × Addr => Value.ref x.2) from rfl]
  have l0 := py.length_eq
  have l1 : (ys.map fun x => Value.ref x.2).length = ys.length := List.length_map _
  refine wpAny_bind (wpAny_newList ?_ (by rw [l1, l0, ← zs]; exact hz))
  have k2 : ∀ b o, s.heap.get? b = some o → (h1.push (seqObj "list" (ys.map fun x => Value.ref x.2).toArray 0)).get? b = some o := fun b o q => Heap.get?_push_of_some _ (k1 b o q)
  have zo : (h1.push (seqObj "list" (ys.map fun x => Value.ref x.2).toArray 0)).get? h1.objs.size = some (seqObj "list" (ys.map fun x => Value.ref x.2).toArray 0) := Heap.get?_push_size _ rfl
  have tt := T3s.kept (fun b o e _ => k2 b o e) (ys4 (prog := prog) (w := w) (h := s.heap) (ys := ys) fun x hx => S.ks x (py.mem_iff.mp hx))
  show wpAny _ _ _ _ _ { s with heap := h1.push (seqObj "list" (ys.map fun x => Value.ref x.2).toArray 0), toks := tk }
  refine wpAny_bind (wpAny_holding (wpAny_call_entry slot_list_sort ⟨_, zo, rfl⟩ entry_list_sort (wp1 (s := { s with heap := h1.push (seqObj "list" (ys.map fun x => Value.ref x.2).toArray 0), toks := tk }) zo tt (by rw [l1, l0]; exact h64) fun p h' c a1 a2 a3 a4 => ⟨_, rfl, ?_⟩) (args_list_sort _)))
  rw [l1] at a1 a2
  exact wpAny_pure ⟨_, rfl, h ys p h1 h' c tk py a1 a2 k1 (fun b o q => a3 b o (Nat.ne_of_lt (Heap.lt_size q)) (Heap.get?_push_of_some _ q)) a4⟩
end
end Pv

namespace Pv
open PySem PySem.Spec PySem.W PyProof.Rows L2
noncomputable abbrev vT (t : T3) : List V := [.int t.1, .int t.2.1, .int t.2.2]
noncomputable def SB (ts : List T3) : Prop := ∀ l : List T3, l.Nodup → (∀ x ∈ l, x ∈ ts) → l.length < 63
noncomputable abbrev TSt := L2.St → Hp → (List (T3 × Addr) → Hp → Prop) → Prop
noncomputable def SE (X : Cx) (pins : List (Addr × Obj)) (σ : L2.St) (R : List (T3 × Addr) → Hp → Prop) (u : Value) (s' : Shared) : Prop :=
  ∃ a xs H', u = .ref a ∧ Inv X pins σ H' s' ∧ FpOk X pins H' a ∧ SetG X.prog X.w (hT X.prog X.w) s'.heap a xs ∧ (∀ x ∈ xs, SqT X.K H' x.2 (vT x.1)) ∧ xs.length < 63 ∧ R xs H'
noncomputable def PSt (X : Cx) (e : Expr) (t : TSt) : Prop :=
  ∀ (pins : List (Addr × Obj)) (s : Shared) (σ : L2.St) (H : Hp) (R : List (T3 × Addr) → Hp → Prop), Inv X pins σ H s → t σ H R → wpAny (model X.prog X.w) X.A (eval e X.env) (SE X pins σ R) X.xe s
theorem ws4 {prog : Program} {w : World} {h : Heap} : ∀ {us : List Value} {ts : List T3} {i : Nat} {v : Value}, T3s h us ts → us[i]? = some v → i < ts.length ∧ ∃ b, v = .ref b ∧ TK prog w h (ts.getD i (0, 0, 0)) b
  | [], [], i, v, _, e => by simp at e
  | [], _ :: _, _, _, z, _ => z.elim
  | _ :: _, [], _, _, z, _ => z.elim
  | u :: us, t :: ts, 0, v, z, e => by
    simp only [List.getElem?_cons_zero, Option.some.injEq] at e
    subst e
    obtain ⟨a, o, t1, t2, t3, n, rfl, e2⟩ := id z.1
    exact ⟨by simp, a, rfl, (show TK prog w h t a from IsT3.key z.1)⟩
  | u :: us, t :: ts, i + 1, v, z, e => by
    simp only [List.getElem?_cons_succ] at e
    obtain ⟨h1, b, h2, h3⟩ := ws4 (prog := prog) (w := w) z.2 e
    exact ⟨by simp only [List.length_cons]; omega, b, h2, h3⟩
theorem xs4 {K : Fg} {H : Hp} : ∀ {vs : List V} {ts : List T3} {us : List Value} {i : Nat} {b : Addr}, V3s K H vs ts → Vals vs us → us[i]? = some (.ref b) → SqT K H b (vT (ts.getD i (0, 0, 0)))
  | [], [], _, i, b, _, .nil, e => by simp at e
  | [], _ :: _, _, _, _, z, _, _ => z.elim
  | _ :: _, [], _, _, _, z, _, _ => z.elim
  | v :: vs, t :: ts, _, 0, b, z, .cons r rs, e => by
    simp only [List.getElem?_cons_zero, Option.some.injEq] at e
    subst e
    obtain ⟨⟨a, rfl, hq⟩, _⟩ := z
    cases r
    exact hq
  | v :: vs, t :: ts, _, i + 1, b, z, .cons r rs, e => by
    simp only [List.getElem?_cons_succ] at e
    exact (show SqT K H b (vT (ts.getD i (0, 0, 0))) from xs4 z.2 rs e)
section
variable {X : Cx} {e : Expr} {p p2 pos pos2 : Pos}
noncomputable def yt7 (K : Fg) (ta : TA) : TSt := fun σ H R => ta σ H fun xs H1 => ∃ p vs ts, xs = [.ref p] ∧ (SqL K H1 p vs ∨ SqT K H1 p vs) ∧ V3s K H1 vs ts ∧ SB ts ∧
  ∀ ys : List (T3 × Addr), (ys.map (·.1)).Nodup → (∀ t, t ∈ ys.map (·.1) ↔ t ∈ ts) → (∀ y ∈ ys, SqT K H1 y.2 (vT y.1)) → R ys H1
theorem yr5 {items : List Value} {ts : List T3} {ys : List (T3 × Addr)} {Pr : Nat → Value → Prop} (hl : items.length = ts.length) (g : Got Pr (fun i => ts.getD i (0, 0, 0)) items.length ys) (t : T3) : t ∈ ys.map (·.1) ↔ t ∈ ts := by
  constructor
  · intro h
    obtain ⟨y, hy, rfl⟩ := List.mem_map.mp h
    obtain ⟨j, h1, _, h2⟩ := g.1 y hy
    have h2 : ts.getD j (0, 0, 0) = y.1 := h2
    rw [← h2, List.getD_eq_getElem?_getD, List.getElem?_eq_getElem (by omega)]
    exact List.getElem_mem _
  · intro h
    obtain ⟨j, hj, e⟩ := List.getElem_of_mem h
    have : ts.getD j (0, 0, 0) ∈ _ := g.2 j (by omega)
    rwa [List.getD_eq_getElem?_getD, List.getElem?_eq_getElem hj, Option.getD_some, e] at this
theorem xo3 {ta : TA} (hc : X.calm = true) (hu : X.A.units + 64 < cLine) (hg : Gl X "set") (hm : X.mg "set" = none) (ha : PA X [e] ta) (hs : starEach [e] X.env = [(false, eval e X.env)] := by rfl) :
    PSt X (.Call (.Name "set" p) [e] [] pos) (yt7 X.K ta) := by
  intro pins s σ H R I h
  refine Call_ (zd1 I hg hm wq7 (PyProof.Rows.callWith_type1 (thn (ha pos pins s σ H _ I h) fun us s1 ⟨vs, H1, I1, r1, q1⟩ => ?_) hs rfl))
  obtain ⟨a, ws, ts, e1, hq, h3, hB, k⟩ := q1
  subst e1
  cases r1 with
  | cons r rr =>
    cases rr
    cases r
    have key : ∀ {its : List Value}, Vals ws its → (∀ l : List T3, l.Nodup → (∀ x ∈ l, ∃ j, j < its.toArray.size ∧ ts.getD j (0, 0, 0) = x) → l.length < 63) ∧
        (∀ i v, i < its.toArray.size → its.toArray[i]? = some v → ∃ b, v = .ref b ∧ TK X.prog X.w s1.heap (ts.getD i (0, 0, 0)) b) ∧
        ∀ (h' : Heap) (tk : Nat) xs, KpH s1.heap h' → SetG X.prog X.w (hT X.prog X.w) h' s1.heap.objs.size xs → Got (fun i v => its.toArray[i]? = some v) (fun i => ts.getD i (0, 0, 0)) its.toArray.size xs → SE X pins σ R (.ref s1.heap.objs.size) { s1 with heap := h', toks := tk } := fun {its} rv => by
      have l1 := h3.len
      have l2 := rv.length
      have l3 : its.toArray.size = its.length := List.size_toArray
      have B : ∀ l : List T3, l.Nodup → (∀ x ∈ l, ∃ j, j < its.toArray.size ∧ ts.getD j (0, 0, 0) = x) → l.length < 63 := fun l nd hl => hB l nd fun x hx => by
        obtain ⟨j, h1, h2⟩ := hl x hx
        rw [← h2, List.getD_eq_getElem?_getD, List.getElem?_eq_getElem (by omega)]
        exact List.getElem_mem _
      refine ⟨B, fun i v lt e => (ws4 (ws0 I1 h3 rv) (by simpa using e)).2, fun h' tk xs kp sg g => ?_⟩
      have sq : ∀ x ∈ xs, SqT X.K H1 x.2 (vT x.1) := fun x hx => ?_
      · exact ⟨_, xs, H1, rfl, I1.kept kp, I1.fpOk (Nat.le_refl _) (I1.hok.fresh (Nat.le_refl _)), sg, sq, g.len (Nat.le_refl _) sg.nd B, k xs sg.nd (yr5 (items := its) (by omega) (by rw [← l3]; exact g)) sq⟩
      obtain ⟨j, _, h2, h3'⟩ := g.1 x hx
      have h3' : ts.getD j (0, 0, 0) = x.1 := h3'
      have := xs4 h3 rv (i := j) (b := x.2) (by simpa using h2)
      rwa [h3'] at this
    rcases hq with hq | hq
    · obtain ⟨its, rv, pl, hz⟩ := I1.list hq
      obtain ⟨k1, k2, k3⟩ := key rv
      exact zm1 (I1.ok.hd hc) (by omega) pl.isList k2 k1 k3
    · obtain ⟨its, rv, pl, hz⟩ := I1.tuple hq
      obtain ⟨k1, k2, k3⟩ := key rv
      exact xj3 (I1.ok.hd hc) (by omega) pl k2 k1 k3
noncomputable def xt7 (K : Fg) (ts : TSt) : TE := fun σ H Q => ts σ H fun xs H1 => ∀ (ys : List (T3 × Addr)), ys.Perm xs → ∀ q : Array Nat, q.Perm (List.toArray (List.range ys.length)) → Ms.Up (ltI (ys.map (·.1))) q ys.length → V3s K H1 (ys.map fun x => V.ref x.2) (ys.map (·.1)) →
  ∀ r, H1 r = none → Q (.ref r) (upd H1 r (.lst (q.toList.map fun i => (ys.map fun x => V.ref x.2).getD i .non)))
theorem wr4 {K : Fg} {H : Hp} : ∀ {ys : List (T3 × Addr)}, (∀ x ∈ ys, SqT K H x.2 (vT x.1)) → V3s K H (ys.map fun x => V.ref x.2) (ys.map (·.1))
  | [], _ => trivial
  | y :: ys, h => ⟨⟨_, rfl, h y (List.mem_cons_self ..)⟩, wr4 fun x hx => h x (List.mem_cons_of_mem _ hx)⟩
theorem yf3 : ∀ (ys : List (T3 × Addr)), Vals (ys.map fun x => V.ref x.2) (ys.map fun x => Value.ref x.2)
  | [] => .nil
  | y :: ys => .cons rfl (yf3 ys)
theorem wm5 {ts : TSt} (hc : X.calm = true) (hg : Gl X "sorted") (hm : X.mg "sorted" = none) (hp : PSt X e ts) (hs : starEach [e] X.env = [(false, eval e X.env)] := by rfl) : PE X (.Call (.Name "sorted" p) [e] [] pos) (xt7 X.K ts) := by
  intro pins s σ H Q I h
  refine Call_ (zd1 I hg hm yu0 (PyProof.Rows.callWith_builtin1 ?_ hs rfl))
  rw [hs]
  show wpAny _ _ (spliced ((false, eval e X.env) :: backTo pos (starEach [] X.env))) _ _ s
  refine Calls.spliced_cons ?_
  refine thn (hp pins s σ H _ I h) fun u s1 q => ?_
  obtain ⟨a, xs, H1, rfl, I1, fp, sg, sq, ln, k⟩ := q
  refine Calls.spliced_nil ?_
  refine wv2 (I1.ok.hd hc) sg (by omega) fun ys q h1 h' c tk py a1 a2 a3 a4 a5 => ?_
  have I2 : Inv X pins σ H1 { s1 with heap := h1, toks := tk } := I1.kept a3
  have sz : q.toList.length = ys.length := by have := a1.size_eq; simpa using this
  have l0 := py.length_eq
  have lt' : ∀ i ∈ q.toList, i < (ys.map fun x => V.ref x.2).length := fun i hi => by
    have e : i ∈ List.toArray (List.range ys.length) := a1.mem_iff.mp (by simpa using hi)
    rw [List.length_map]
    simpa using e
  refine ⟨.ref _, _, I2.laid (t' := tk) a4 (Nat.le_refl _) (show ObjOk X.prog X.w _ h' _ (.lst (q.toList.map fun i => (ys.map fun x => V.ref x.2).getD i .non)) from ⟨by rw [List.length_map, sz, sizeLine_eq]; omega, _, c, zs0 (yf3 ys) _ lt', a5⟩), rfl, ?_⟩
  exact k ys py q a1 a2 (wr4 fun x hx => sq x (py.mem_iff.mp hx)) _ (I2.hok.fresh (Nat.le_refl _))
end
noncomputable abbrev TSt3 := St3 → Mu → (List T3 → Mu → Prop) → Prop
noncomputable def RdSt (K : Fg) (tv : TSt) (t : TSt3) : Prop := ∀ σ H R ρ μ R3, RSt K H ρ σ → RelM K μ H → t ρ μ R3 → (∀ xs μ' H', R3 (xs.map (·.1)) μ' → (xs.map (·.1)).Nodup → (∀ x ∈ xs, SqT K H' x.2 (vT x.1)) → Kp H H' → RelM K μ' H' → R xs H') → tv σ H R
noncomputable def REs (X : Cx) (e : Expr) (t : TSt3) : Prop := ∃ tv, PSt X e tv ∧ RdSt X.K tv t
noncomputable def zv1 (t : TA3) : TSt3 := fun ρ μ R => t ρ μ fun ds μ1 => ∃ ts, (match ds with
  | [.ref p] => μ1 p = some (.lst (ts.map encT))
  | [.tup l] => l = ts.map encT
  | _ => False) ∧ SB ts ∧ ∀ ks : List T3, ks.Nodup → (∀ x, x ∈ ks ↔ x ∈ ts) → R ks μ1
noncomputable def yh3 (t : TSt3) : TE3 := fun ρ μ Q => t ρ μ fun ks μ1 => ∀ us : List T3, us.Perm ks → us.Pairwise le3 → ∀ r, μ1 r = none → Q (.ref r) (updM μ1 r (.lst (us.map encT)))
section
variable {X : Cx} {e : Expr} {p p2 pos pos2 : Pos} {t : TE3}
theorem xr0 (he : RE X e t) (hm : X.mg "set" = none) (hu : X.A.units + 64 < cLine) (hc : X.calm = true := by rfl) (hg : Gl X "set" := by rfl) (hs : starEach [e] X.env = [(false, eval e X.env)] := by rfl) : REs X (.Call (.Name "set" p) [e] [] pos) (zv1 (cons3 t nil3)) := by
  obtain ⟨va, pa, ra⟩ := xa0 he xb0 hs
  refine ⟨_, xo3 hc hu hg hm pa hs, fun σ H R ρ μ R3 s m h k => ra σ H _ ρ μ _ s m h fun ds μ1 vs H1 h1 k1 r1 m1 => ?_⟩
  obtain ⟨ts, hd, hB, q⟩ := h1
  cases r1 with
  | nil => exact hd.elim
  | cons r1 r2 =>
    cases r2 with
    | cons _ _ => cases r1 <;> exact hd.elim
    | nil =>
      cases r1 with
      | ref a =>
        obtain ⟨us, hv, rv⟩ := m1 a _ hd
        exact ⟨a, us, ts, rfl, .inl (SqL.of hv), wl2 rv, hB, fun ys nd al sq => k ys μ1 H1 (q _ nd al) nd sq k1 m1⟩
      | tup hq rv =>
        have hd : _ = ts.map encT := hd
        subst hd
        exact ⟨_, _, ts, rfl, .inr hq, wl2 rv, hB, fun ys nd al sq => k ys μ1 H1 (q _ nd al) nd sq k1 m1⟩
      | _ => exact hd.elim
theorem wn1 {ts : TSt3} (he : REs X e ts) (hm : X.mg "sorted" = none) (hc : X.calm = true := by rfl) (hg : Gl X "sorted" := by rfl) (hs : starEach [e] X.env = [(false, eval e X.env)] := by rfl) : RE X (.Call (.Name "sorted" p) [e] [] pos) (yh3 ts) := by
  obtain ⟨va, pa, ra⟩ := he
  refine ⟨_, wm5 hc hg hm pa hs, fun σ H Q ρ μ Q3 s m h k => ra σ H _ ρ μ _ s m h fun xs μ1 H1 h1 nd1 sq1 k1 m1 => ?_⟩
  intro ys py q a1 a2 v3 r hr
  have l1 : (ys.map (·.1)).length = ys.length := List.length_map _
  rw [← l1] at a1 a2
  have lt' : ∀ i ∈ q.toList, i < (ys.map fun x => V.ref x.2).length := fun i hi => by
    have e : i ∈ List.toArray (List.range (ys.map (·.1)).length) := a1.mem_iff.mp (by simpa using hi)
    rw [List.length_map] at e ⊢
    simpa using e
  exact k _ _ _ _ (h1 _ ((za1 a1).trans (py.map _)) (yg2 a1 a2) r (m1.free hr)) (k1.trans (Kp.new hr)) (.ref r) (m1.newL hr (wp0 (zn1 v3) _ lt'))
end
end Pv

namespace Pv
open PySem PySem.Spec PySem.W PyProof.Rows L2
noncomputable def xq5 : C3 := fun ds μ Q => match ds with
  | [.tup l] => ∀ r, μ r = none → Q (.ref r) (updM μ r (.lst l))
  | [.ref p] => match μ p with
    | some (.lst l) => ∀ r, μ r = none → Q (.ref r) (updM μ r (.lst l))
    | _ => False
  | _ => False
section
variable {X : Cx} {o e : Expr} {es : List Expr} {to : TE3} {t : TA3} {apos cpos : Pos}
theorem wb7 : RC X (.type "list") xq5 := by
  refine ⟨_, xc2, fun xs vs H Q μ Q3 m r h k => ?_⟩
  cases r with
  | nil => exact h.elim
  | cons r1 r2 =>
    cases r2 with
    | cons _ _ => cases r1 <;> exact h.elim
    | nil =>
      cases r1 with
      | tup hq rs => exact ⟨_, _, rfl, .inr hq, fun r hr => k _ _ _ _ (h r (m.free hr)) (Kp.new hr) (.ref r) (m.newL hr rs)⟩
      | ref p =>
        dsimp only [xq5] at h
        cases e0 : μ p with
        | none => rw [e0] at h; exact h.elim
        | some oo =>
          cases oo with
          | ins _ _ => rw [e0] at h; exact h.elim
          | dct _ => rw [e0] at h; exact h.elim
          | lst l =>
            rw [e0] at h
            dsimp only at h
            obtain ⟨us, hv, rs⟩ := m p l e0
            exact ⟨_, _, rfl, .inl (SqL.of hv), fun r hr => k _ _ _ _ (h r (m.free hr)) (Kp.new hr) (.ref r) (m.newL hr rs)⟩
      | _ => exact h.elim
end
end Pv

namespace Pv
open PySem PySem.Spec PySem.W PyProof.Rows L2
theorem ersL {α : Type} (xs : Array α) (p : Nat) : (SetTable.eraseAt xs p).toList = xs.toList.eraseIdx p := by
  unfold SetTable.eraseAt
  rw [List.eraseIdx_eq_take_drop_succ]
  simp
  exact List.take_of_length_le (by simp)
theorem zz4 {α : Type} {l : List α} {i k : Nat} {x : α} (h : (l.eraseIdx i)[k]? = some x) : ∃ k', l[k']? = some x ∧ (k' = if k < i then k else k + 1) := by
  rw [List.getElem?_eraseIdx] at h
  by_cases c : k < i
  · rw [if_pos c] at h ⊢
    exact ⟨k, h, rfl⟩
  · rw [if_neg c] at h ⊢
    exact ⟨k + 1, h, rfl⟩
theorem TOk.drop {t : SetTable} {hs : List Int} {i j : Nat} (k : TOk t hs) (hj : t.place[i]? = some j) : TOk (t.drop i) (hs.eraseIdx i) ∧ (t.drop i).fill = t.fill ∧ (t.drop i).mask = t.mask ∧ (t.drop i).plain = t.plain ∧ (t.drop i).led = t.led := by
  have ed : t.drop i = { t with place := SetTable.eraseAt t.place i, dummies := SetTable.insertAt t.dummies (SetTable.below t.dummies j) j } := by
    unfold SetTable.drop
    rw [hj]
  rw [ed]
  have jp : j ∈ t.place.toList := zg1 hj
  have jd : j ∉ t.dummies.toList := fun z => k.dj j z jp
  have md : ∀ x, x ∈ (SetTable.insertAt t.dummies (SetTable.below t.dummies j) j).toList ↔ x = j ∨ x ∈ t.dummies.toList := fun x => by
    rw [SetTable.toList_insertAt]
    exact wt0 ..
  have mp : ∀ x, x ∈ (SetTable.eraseAt t.place i).toList ↔ x ∈ t.place.toList ∧ x ≠ j := fun x => xw3 k.ris hj x
  have hlt : i < t.place.size := (Array.getElem?_eq_some_iff.mp hj).1
  have s1 : (SetTable.eraseAt t.place i).size = t.place.size - 1 := by
    rw [← Array.length_toList, ersL, List.length_eraseIdx, Array.length_toList, if_pos hlt]
  have s2 : (SetTable.insertAt t.dummies (SetTable.below t.dummies j) j).size = t.dummies.size + 1 := by
    rw [← Array.length_toList, SetTable.toList_insertAt, ← Array.length_toList]
    exact zl0 ..
  have oc : ∀ x, Occ { t with place := SetTable.eraseAt t.place i, dummies := SetTable.insertAt t.dummies (SetTable.below t.dummies j) j } x ↔ Occ t x := fun x => by
    unfold Occ
    dsimp only
    rw [mp, md]
    constructor
    · rintro (h | h | h)
      · exact .inl h.1
      · subst h; exact .inl jp
      · exact .inr h
    · rintro (h | h)
      · by_cases e : x = j
        · exact .inr (.inl e)
        · exact .inl ⟨h, e⟩
      · exact .inr (.inr h)
  refine ⟨⟨yp2 k.ris i, ?_, ?_, ?_, ?_, k.msk, ?_, ?_⟩, ?_, rfl, rfl, rfl⟩
  · show (SetTable.insertAt t.dummies (SetTable.below t.dummies j) j).toList.Pairwise (· < ·)
    rw [SetTable.toList_insertAt]
    exact xp2 k.rid jd
  · intro x hx
    dsimp only at hx ⊢
    rw [mp]
    rcases (md x).mp hx with rfl | h
    · exact fun z => z.2 rfl
    · exact fun z => k.dj x h z.1
  · intro x hx
    exact k.inP x ((mp x).mp hx).1
  · intro x hx
    rcases (md x).mp hx with rfl | h
    · exact k.inP _ jp
    · exact k.inD x h
  · show (SetTable.eraseAt t.place i).size = _
    rw [s1, List.length_eraseIdx, if_pos (by rw [← k.sz]; exact hlt), k.sz]
  · intro n x h e1 e2
    dsimp only at e1
    rw [← Array.getElem?_toList, ersL] at e1
    obtain ⟨n1, f1, g1⟩ := zz4 e1
    obtain ⟨n2, f2, g2⟩ := zz4 e2
    have : n1 = n2 := by rw [g1, g2]
    subst this
    obtain ⟨m, a1, a2⟩ := k.reach n1 x h (by rw [← Array.getElem?_toList]; exact f1) f2
    exact ⟨m, a1, fun l hl => (oc _).mpr (a2 l hl)⟩
  · show (SetTable.eraseAt t.place i).size + (SetTable.insertAt t.dummies (SetTable.below t.dummies j) j).size = t.place.size + t.dummies.size
    rw [s1, s2]
    omega
section
variable {prog : Program} {w : World} {A : Around} {E : Value → Shared → Prop} {s : Shared} {a : Addr} {o : Obj} {es : Array (Int × Value)} {ep : Nat} {t : SetTable} {xs : List (T3 × Addr)} {hf : T3 → Int}
theorem xk2 {α β : Type} (f : α → β) : ∀ (l : List α) (i : Nat), (l.map f).eraseIdx i = (l.eraseIdx i).map f
  | [], _ => rfl
  | _ :: _, 0 => rfl
  | v :: vs, i + 1 => by rw [List.map_cons, List.eraseIdx_cons_succ, xk2 f vs i, List.eraseIdx_cons_succ, List.map_cons]
theorem wk1 {k : T3} {b : Addr} {Q : Bool → Shared → Prop} (hu : A.units < cLine) (S : SetG prog w hf s.heap a xs) (hk : TK prog w s.heap k b) (hn : xs.length < 64)
    (no : k ∉ xs.map (·.1) → Q false s)
    (yes : k ∈ xs.map (·.1) → ∀ h' xs', Heap.SameBut a s.heap h' → SetG prog w hf h' a xs' → (∃ b', xs.Perm ((k, b') :: xs')) → Q true { s with heap := h' }) : wpAny (model prog w) A (setDiscardHashed a (.ref b) (hf k)) Q E s := by
  obtain ⟨o, es, ep, t, S, rm5⟩ := S
  have sz := S.size
  unfold setDiscardHashed
  refine wpAny_bind (zv3 hu S hk (fun i b' e => ?_) fun e => wpAny_pure (no e))
  dsimp only
  refine wpAny_bind (wpAny_setState_of S.ho S.hd S.fits ?_)
  dsimp only
  have hi : i < xs.length := (List.getElem?_eq_some_iff.mp e).1
  have hlt : i < t.place.size := by rw [S.ok.sz, List.length_map]; exact hi
  have hj : t.place[i]? = some t.place[i] := Array.getElem?_eq_getElem hlt
  obtain ⟨ok', f1, f2, f3, f4⟩ := S.ok.drop hj
  have el' : (SetTable.eraseAt es i).toList = (xs.eraseIdx i).map (ent hf) := by rw [ersL, S.el, xk2]
  have pm : xs.Perm ((k, b') :: xs.eraseIdx i) := by
    have := zr1 (l := xs) hi
    rw [(List.getElem?_eq_some_iff.mp e).2] at this
    exact this.symm
  have nd' : ((k, b') :: xs.eraseIdx i).map (·.1) |>.Nodup := (pm.map _).nodup_iff.mp S.nd
  have S' := S.store el' (fun x hx => S.ks x (List.mem_of_mem_eraseIdx hx)) (List.nodup_cons.mp nd').2 (by rw [← xk2]; exact ok') (by rw [f1, f2]; exact S.rm) (by rw [f3]; exact S.pl) (by rw [f4]; exact S.le)
  refine wpAny_bind (wpAny_storeSet_of S.ho S.hd ?_ (by
    rw [← Array.length_toList, el', List.length_map, sizeLine_eq]
    have := List.length_eraseIdx_le xs i
    omega))
  refine wpAny_bind (wpAny_point (wpAny_pure ?_))
  exact yes (List.mem_map.mpr ⟨_, List.mem_of_getElem? e, rfl⟩) _ _ (Heap.SameBut.update ..) ⟨_, _, _, _, S', by rw [f1, f2]; exact rm5⟩ ⟨b', pm⟩
theorem yl1 {others : List Addr} {fl : Option Addr} {Q : Array (Int × Value) → Shared → Prop} (S : SObj prog w s.heap a o es ep t) (h : Q (ordS prog w a ep es) s) : wpAny (model prog w) A (setWalkUnseen a others fl) Q E s := by
  have wk : wpAny (model prog w) A (setWalk a) Q E s := by
    unfold setWalk setsByText
    refine wpAny_bind (wpAny_setState_of S.ho S.hd S.fits ?_)
    dsimp only
    refine wpAny_bind (wpAny_bind (wpAny_askSetting (wpAny_pure ?_)))
    unfold ordS at h
    by_cases c : bT prog w = true
    · rw [if_pos (show (model prog w).w.params.followText "set-order" = true from c)]
      rw [if_pos c] at h
      exact wpAny_bind (wpAny_askSetting (wpAny_pure h))
    · have cf : bT prog w = false := by simpa using c
      rw [if_neg (show ¬ (model prog w).w.params.followText "set-order" = true from c)]
      rw [if_neg c] at h
      split
      · next dr =>
        have : (!t.plain && decide (es.size > 1)) = true := dr
        rw [S.pl] at this
        cases this
      · refine wpAny_bind ?_
        show wpAny _ _ (ite (_ = true) _ (pure PUnit.unit)) _ _ _
        rw [if_neg (by rw [S.le, cf]; simp)]
        exact wpAny_pure (wpAny_pure h)
  unfold setWalkUnseen setsByText
  refine wpAny_bind (wpAny_setState_of S.ho S.hd S.fits ?_)
  dsimp only
  refine wpAny_bind (wpAny_bind (wpAny_askSetting (wpAny_pure ?_)))
  rw [if_pos]
  · exact wk
  · show (bT prog w || t.led && t.plain || decide (es.size ≤ 1)) = true
    rw [S.le, S.pl]
    cases bT prog w <;> simp
end
end Pv

namespace Pv
open PySem PySem.Spec PySem.W PyProof.Rows L2
theorem xw2 : ∀ n, n < 64 → SetTable.sizeAbove (n * 2) - 1 ∈ okM ∧ n * 5 < (SetTable.sizeAbove (n * 2) - 1) * 3 ∧ SetTable.sizeAbove (n * 2) ≤ 256 := by decide +kernel
section
variable {prog : Program} {w : World} {A : Around} {E : Value → Shared → Prop} {s : Shared} {a r : Addr} {xs : List (T3 × Addr)} {hf : T3 → Int}
theorem zt0 {Q : Value → Shared → Prop} (h : Q (.ref s.heap.objs.size) { s with heap := s.heap.push (nset (!bT prog w)) }) : wpAny (model prog w) A (newSet (.type "set")) Q E s := by
  unfold newSet setsByText
  refine wpAny_bind (wpAny_bind (wpAny_askSetting (wpAny_pure ?_)))
  dsimp only
  simp only [newObj]
  exact wpAny_bind (wpAny_alloc (wpAny_pure h))
theorem yp0 {Q : Bool → Shared → Prop} (ty : s.TypeIs (.ref a) "set") (h : Q true s) : wpAny (model prog w) A (Builtin.Frozenset.isAnySet (.ref a)) Q E s := by
  unfold Builtin.Frozenset.isAnySet
  exact wpAny_bind (wpAny_isInstance ty sub_set_self (wpAny_pure h))
theorem zu1 {Q : Value → Shared → Prop} (ty : s.TypeIs (.ref a) "set") (h : Q (.type "set") s) : wpAny (model prog w) A (Builtin.Frozenset.baseOf a) Q E s := by
  unfold Builtin.Frozenset.baseOf
  exact wpAny_bind (wpAny_isInstance ty sub_set_self (wpAny_pure h))
theorem SetIs.ty {o : Obj} {es : Array (Int × Value)} {ep : Nat} {t : SetTable} (S : SetIs prog w hf s.heap a o es ep t xs) : s.TypeIs (.ref a) "set" := ⟨o, S.ho, S.ex.1⟩
theorem yh5 {h : Heap} (e : h.get? r = some (nset (!bT prog w))) : SetIs prog w hf h r (nset (!bT prog w)) #[] 0 (.fresh 0 0 (!bT prog w)) [] := by
  refine ⟨e, ⟨rfl, rfl, rfl⟩, rfl, rfl, (fun x hx => nomatch hx), List.nodup_nil, ?_, (show 0 ≤ 7 by decide), rfl, rfl⟩
  refine ⟨by simp [Rise, SetTable.fresh], by simp [Rise, SetTable.fresh], (fun j h => by simp [SetTable.fresh] at h), (fun j h => by simp [SetTable.fresh] at h), (fun j h => by simp [SetTable.fresh] at h), (show 7 ∈ okM by decide), rfl, (fun i j h z => by simp [SetTable.fresh] at z)⟩
theorem TOk.like {t t' : SetTable} {hs : List Int} (k : TOk t hs) (e1 : t'.mask = t.mask) (e2 : t'.place = t.place) (e3 : t'.dummies = t.dummies) : TOk t' hs := by
  obtain ⟨m, p, d, f, l, mo, pl⟩ := t
  obtain ⟨m', p', d', f', l', mo', pl'⟩ := t'
  dsimp only at e1 e2 e3
  subst e1 e2 e3
  exact ⟨k.ris, k.rid, k.dj, k.inP, k.inD, k.msk, k.sz, k.reach⟩
theorem SetIs.same {h h' : Heap} {o or : Obj} {es er : Array (Int × Value)} {ep er' : Nat} {t tr : SetTable} {zs : List (T3 × Addr)} (S : SetIs prog w hf h a o es ep t xs) (R : SetIs prog w hf h r or er er' tr zs) (ne : r ≠ a) (sb : Heap.SameBut r h h') : SetIs prog w hf h' a o es ep t xs := by
  refine ⟨?_, S.ex, S.hd, S.el, fun x hx => R.tkept sb (S.ks x hx), S.nd, S.ok, S.rm, S.pl, S.le⟩
  rw [sb.2 a (Ne.symm ne)]
  exact S.ho
theorem zi5 {Q : Unit → Shared → Prop} {n : Nat} (e0 : s.heap.get? r = some (nset (!bT prog w))) (hn : n < 63)
    (h : ∀ h' o2 e2 ep2 t2, Heap.SameBut r s.heap h' → SetIs prog w hf h' r o2 e2 ep2 t2 [] → t2.dummies = #[] → n * 5 < t2.mask * 3 → Q () { s with heap := h' }) : wpAny (model prog w) A (setRoomFor r n) Q E s := by
  have S0 : SetIs prog w hf s.heap r _ _ _ _ [] := yh5 e0
  unfold setRoomFor
  refine wpAny_bind (wpAny_setState_of S0.ho S0.hd S0.fits ?_)
  dsimp only
  have er : (SetTable.fresh 0 0 (!bT prog w)).roomFor n = if n * 5 ≥ 21 then some (n * 2) else none := by
    show (if (0 + n) * 5 ≥ 7 * 3 then some ((0 + n) * 2) else none) = _
    rw [Nat.zero_add]
  rw [er]
  by_cases c : n * 5 ≥ 21
  · rw [if_pos c]
    obtain ⟨m1, m2, m3⟩ := xw2 n (by omega)
    exact ww1 S0 m1 (by have := yw0 _ m1; simp only [List.length_nil]; omega) m3 fun h' o' es' ep' t' xs' q1 q2 q3 q4 q5 q6 => by
      have : xs' = [] := List.length_eq_zero_iff.mp (by rw [q3.length_eq]; rfl)
      subst this
      exact h h' o' es' ep' t' q1 q2 q6 (by rw [q5]; exact m2)
  · rw [if_neg c]
    exact wpAny_pure (h s.heap _ _ _ _ ⟨rfl, fun _ _ => rfl⟩ S0 rfl (show n * 5 < 7 * 3 by omega))
theorem zr2 {Q : Unit → Shared → Prop} {each : Sem Unit} (hne : r ≠ a) (e0 : s.heap.get? r = some (nset (!bT prog w))) (S : SetG prog w hf s.heap a xs) (hn : xs.length < 63)
    (h : ∀ h' xs', Heap.SameBut r s.heap h' → SetG prog w hf h' r xs' → xs'.Perm xs → Q () { s with heap := h' }) : wpAny (model prog w) A (setMerge r a each) Q E s := by
  obtain ⟨o, es, ep, t, S, rm⟩ := S
  have S0 : SetIs prog w hf s.heap r _ _ _ _ [] := yh5 e0
  have sz := S.size
  unfold setMerge
  rw [if_neg (by simpa using hne)]
  refine wpAny_bind (wpAny_setState_of S.ho S.hd S.fits ?_)
  dsimp only
  by_cases c0 : es.isEmpty = true
  · rw [if_pos c0]
    have : xs = [] := by
      have : es.size = 0 := by simpa using c0
      exact List.length_eq_zero_iff.mp (by omega)
    subst this
    exact wpAny_pure (h s.heap [] ⟨rfl, fun _ _ => rfl⟩ (set0 e0) (List.Perm.refl _))
  · rw [if_neg c0]
    refine wpAny_bind (zi5 (hf := hf) e0 (by omega) fun h1 o2 e2 ep2 t2 q1 S2 hd m2 => ?_)
    have S1 := S.same S0 hne q1
    refine wpAny_bind (wpAny_setState_of S2.ho S2.hd S2.fits ?_)
    dsimp only
    rw [sz] at m2
    have z2 : t2.place.size = 0 := by have := S2.ok.sz; simpa using this
    have f0 : t2.fill = 0 := by unfold SetTable.fill; rw [z2, hd]; rfl
    have mm := yw0 _ S2.ok.msk
    have le2 : (t2.led && t.led) = !bT prog w := by rw [S2.le, S.le, Bool.and_self]
    have pl2 : (t2.plain && t.plain) = true := by rw [S2.pl, S.pl]; rfl
    unfold SetTable.road
    rw [f0]
    simp only [bne_self_eq_false, Bool.false_eq_true, if_false]
    split
    · refine wpAny_storeSet_of (s := { s with heap := h1 }) S2.ho S2.hd ?_ (by rw [sz, sizeLine_eq]; omega)
      exact h _ xs (q1.trans (Heap.SameBut.update ..)) ⟨_, _, _, _, S2.store S.el S1.ks S.nd (S.ok.like rfl rfl rfl) S.rm pl2 le2, rm⟩ (List.Perm.refl _)
    · obtain ⟨t', order, xs', e1, fm', pm, hz, hok, g2, g3, g4, g5⟩ := ys3 (fi := t2.finger) (mo := t2.moves) (le := t2.led && t.led) (pl := t2.plain && t.plain) S2.ok.msk (by omega) S.el
      rw [e1]
      refine yb6 (m' := if ((order.filterMap fun k => es[k]?).size != es.size) = true then (unsupported "internal:set-table-lost-an-element" >>= fun (_ : PUnit) => pure ((order.filterMap fun k => es[k]?), t')) else pure ((order.filterMap fun k => es[k]?), t')) rfl ?_
      rw [hz]
      simp only [bne_self_eq_false, Bool.false_eq_true, if_false]
      have h1' := hok.sz
      rw [List.length_map, pm.length_eq] at h1'
      have fl : t'.fill = xs.length := by unfold SetTable.fill; rw [h1', g3]; rfl
      refine wpAny_bind (wpAny_pure (wpAny_storeSet_of (s := { s with heap := h1 }) S2.ho S2.hd ?_ (by rw [hz, sz, sizeLine_eq]; omega)))
      exact h _ xs' (q1.trans (Heap.SameBut.update ..)) ⟨_, _, _, _, S2.store fm' (fun x hx => S1.ks x (pm.mem_iff.mp hx)) ((pm.map _).nodup_iff.mpr S.nd) hok (by rw [fl, g2]; omega) (by rw [g5, pl2]) (by rw [g4, le2]), by rw [fl, g2]; exact m2⟩ pm
    · next hq => split at hq <;> cases hq
theorem xu5 {Q : Value → Shared → Prop} (S : SetG prog w hf s.heap a xs) (hn : xs.length < 63)
    (h : ∀ h' xs', KpH s.heap h' → SetG prog w hf h' s.heap.objs.size xs' → xs'.Perm xs → Q (.ref s.heap.objs.size) { s with heap := h' }) : wpAny (model prog w) A (Builtin.Frozenset.copyOf a) Q E s := by
  obtain ⟨o, es, ep, t, S, rm⟩ := S
  have lt := Heap.lt_size S.ho
  unfold Builtin.Frozenset.copyOf
  refine wpAny_bind (zu1 S.ty (wpAny_bind (zt0 ?_)))
  have S1 : SetG prog w hf (s.heap.push (nset (!bT prog w))) a xs := SetG.keep ⟨o, es, ep, t, S, rm⟩ (fun o e => Heap.get?_push_of_some _ e) fun x hx => (S.ks x hx).kept fun o e _ => Heap.get?_push_of_some _ e
  show wpAny _ _ (pure s.heap.objs.size >>= _) _ _ _
  refine wpAny_bind (wpAny_pure (wpAny_bind (zr2 (s := { s with heap := s.heap.push (nset (!bT prog w)) }) (Nat.ne_of_gt lt) (Heap.get?_push_size _ rfl) S1 hn fun h' xs' q1 q2 q3 => wpAny_pure ?_)))
  refine h h' xs' (fun b o e => ?_) q2 q3
  rw [q1.2 b (Nat.ne_of_lt (Heap.lt_size e))]
  exact Heap.get?_push_of_some _ e
end
end Pv

namespace Pv
open PySem PySem.Spec PySem.W PyProof.Rows L2
noncomputable abbrev ky (xs : List (T3 × Addr)) : List T3 := xs.map (·.1)
theorem wd1 (xs ys : List (T3 × Addr)) : ky (xs ++ ys) = ky xs ++ ky ys := List.map_append ..
section
variable {prog : Program} {w : World} {A : Around} {E : Value → Shared → Prop} {s : Shared} {a c r : Addr} {xs ys : List (T3 × Addr)} {hf : T3 → Int}
theorem xq1 {B : Int × Value → PUnit → Sem (ForInStep PUnit)} {Q : PUnit → Shared → Prop} {ys : List (T3 × Addr)} (Iv : List (T3 × Addr) → Heap → Prop) (h0 : Iv [] s.heap)
    (step : ∀ done y rest h, ys = done ++ y :: rest → Iv done h → wpAny (model prog w) A (B (ent hf y) PUnit.unit) (fun q s' => ∃ h', q = .yield PUnit.unit ∧ s' = { s with heap := h' } ∧ Iv (done ++ [y]) h') E { s with heap := h })
    (fin : ∀ h, Iv ys h → Q PUnit.unit { s with heap := h }) : wpAny (model prog w) A (forIn (ys.map (ent hf)) PUnit.unit B) Q E s := by
  refine wpAny_forIn_list _ (fun rest _ s' => ∃ done rs h, rest = rs.map (ent hf) ∧ ys = done ++ rs ∧ s' = { s with heap := h } ∧ Iv done h) _ ?_ ?_ _ _ ⟨[], ys, s.heap, rfl, rfl, rfl, h0⟩
  · rintro x rest b s' ⟨done, rs, h, e1, e2, rfl, iv⟩
    cases rs with
    | nil => cases e1
    | cons y rs =>
      rw [List.map_cons] at e1
      injection e1 with e3 e4
      subst e3 e4
      refine wpAny_mono (step done y rs h e2 iv) (fun q s' hq => ?_) fun _ _ h' => h'
      obtain ⟨h', rfl, rfl, iv'⟩ := hq
      exact ⟨done ++ [y], rs, h', rfl, by rw [e2]; simp, rfl, iv'⟩
  · rintro b s' ⟨done, rs, h, e1, e2, rfl, iv⟩
    cases rs with
    | cons _ _ => cases e1
    | nil =>
      rw [List.append_nil] at e2
      subst e2
      exact fin h iv
theorem SetG.same {h h' : Heap} {zs : List (T3 × Addr)} (S : SetG prog w hf h a xs) (R : SetG prog w hf h r zs) (ne : r ≠ a) (sb : Heap.SameBut r h h') : SetG prog w hf h' a xs := by
  obtain ⟨o, es, ep, t, S, q⟩ := S
  obtain ⟨_, _, _, _, R, _⟩ := R
  exact ⟨o, es, ep, t, S.same R ne sb, q⟩
theorem wz0 {id : String} {o : Obj} {es : Array (Int × Value)} {ep : Nat} {t : SetTable} {Q : Unit → Shared → Prop} (S : SObj prog w s.heap a o es ep t) (h : Q () s) : wpAny (model prog w) A (Builtin.Frozenset.unchanged id a ep) Q E s := by
  unfold Builtin.Frozenset.unchanged
  refine wpAny_bind (wpAny_setEpoch_of S.ho S.hd S.fits ?_)
  rw [if_neg (by simp)]
  exact wpAny_pure h
theorem wj8 {k : T3} {b : Addr} {Q : Option Nat → Shared → Prop} (hu : A.units < cLine) (S : SetG prog w hf s.heap a xs) (hk : TK prog w s.heap k b)
    (found : ∀ i, k ∈ ky xs → Q (some i) s) (none' : k ∉ ky xs → Q none s) : wpAny (model prog w) A (setFind a (.ref b) (hf k)) Q E s := by
  obtain ⟨o, es, ep, t, S, _⟩ := S
  exact zv3 hu S hk (fun i b' e => found i (List.mem_map.mpr ⟨_, List.mem_of_getElem? e, rfl⟩)) none'
noncomputable def Flt (b : Bool) (done A zs : List (T3 × Addr)) : Prop := (∀ z ∈ zs, z ∈ done) ∧ ∀ k, k ∈ ky zs ↔ k ∈ ky done ∧ (b = true ↔ k ∈ ky A)
theorem Flt.skip {b : Bool} {done A zs : List (T3 × Addr)} {y : T3 × Addr} (f : Flt b done A zs) (h : ¬ (b = true ↔ y.1 ∈ ky A)) : Flt b (done ++ [y]) A zs := by
  refine ⟨fun z hz => List.mem_append_left _ (f.1 z hz), fun k => ?_⟩
  rw [f.2, wd1]
  constructor
  · rintro ⟨h1, h2⟩
    exact ⟨List.mem_append_left _ h1, h2⟩
  · rintro ⟨h1, h2⟩
    rcases List.mem_append.mp h1 with h1 | h1
    · exact ⟨h1, h2⟩
    · have : k = y.1 := by simpa [ky] using h1
      subst this
      exact absurd h2 h
theorem Flt.take {b : Bool} {done A zs zs' : List (T3 × Addr)} {y : T3 × Addr} (f : Flt b done A zs) (h : b = true ↔ y.1 ∈ ky A) (p : zs'.Perm (y :: zs)) : Flt b (done ++ [y]) A zs' := by
  refine ⟨fun z hz => ?_, fun k => ?_⟩
  · rcases List.mem_cons.mp (p.mem_iff.mp hz) with rfl | h
    · simp
    · exact List.mem_append_left _ (f.1 z h)
  · rw [(p.map (·.1)).mem_iff, List.map_cons, List.mem_cons, wd1, List.mem_append]
    have := f.2 k
    constructor
    · rintro (rfl | h')
      · exact ⟨.inr (by simp [ky]), h⟩
      · exact ⟨.inl (this.mp h').1, (this.mp h').2⟩
    · rintro ⟨h1 | h1, h2⟩
      · exact .inr (this.mpr ⟨h1, h2⟩)
      · exact .inl (by simpa [ky] using h1)
theorem yr2 {done rest : List (T3 × Addr)} {y : T3 × Addr} {ys : List (T3 × Addr)} (nd : (ky ys).Nodup) (e : ys = done ++ y :: rest) : y.1 ∉ ky done := by
  rw [e, wd1] at nd
  intro h
  exact (List.nodup_append.mp nd).2.2 _ h _ (by simp [ky]) rfl
theorem za2 {b : Bool} {done rest zs : List (T3 × Addr)} {y : T3 × Addr} {h : Heap} {o : Obj} {es : Array (Int × Value)} {ep : Nat} {t : SetTable} {ws : List (T3 × Addr)} (hu : A.units < cLine) (na : r ≠ a) (nw : r ≠ c) (nd : (ky ws).Nodup) (e : ws = done ++ y :: rest) (hl : ws.length < 62)
    (SA : SetG prog w hf h a xs) (SW : SetIs prog w hf h c o es ep t ys) (hy : TK prog w h y.1 y.2) (SR : SetG prog w hf h r zs) (f : Flt b done xs zs) {Q : Unit → Shared → Prop}
    (q : ∀ h' zs', Heap.SameBut r h h' → SetG prog w hf h' r zs' → Flt b (done ++ [y]) xs zs' → SetIs prog w hf h' c o es ep t ys → SetG prog w hf h' a xs → Q () { s with heap := h' }) :
    wpAny (model prog w) A (setFind a (.ref y.2) (hf y.1)) (fun u s' => s' = { s with heap := h } ∧ (((b = true ↔ u.isSome = true) → wpAny (model prog w) A (setAddHashed r (.ref y.2) (hf y.1)) (fun _ s'' => Q () s'') E s') ∧ (¬ (b = true ↔ u.isSome = true) → Q () s'))) E { s with heap := h } := by
  have yn := yr2 nd e
  have lz : zs.length + 1 < 64 := by
    have nz := SR.nd
    have : (ky zs).length ≤ (ky done).length := List.Nodup.length_le_of_subset nz fun k hk => ((f.2 k).mp hk).1
    rw [List.length_map, List.length_map] at this
    have h2 := congrArg List.length e
    rw [List.length_append] at h2
    omega
  have kn : y.1 ∉ ky zs := fun z => yn ((f.2 _).mp z).1
  have fin : ∀ u : Option Nat, (u.isSome = true ↔ y.1 ∈ ky xs) → (((b = true ↔ u.isSome = true) → wpAny (model prog w) A (setAddHashed r (.ref y.2) (hf y.1)) (fun _ s'' => Q () s'') E { s with heap := h }) ∧ (¬ (b = true ↔ u.isSome = true) → Q () { s with heap := h })) := fun u hu2 => by
    refine ⟨fun hb => ?_, fun hb => ?_⟩
    · refine wb4 (s := { s with heap := h }) hu SR hy lz (fun old => absurd old kn) fun _ h' zs' sb sg pm => ?_
      obtain ⟨_, _, _, _, R, _⟩ := id SR
      exact q h' zs' sb sg (f.take (hb.trans hu2) pm) (SW.same R nw sb) (SA.same SR na sb)
    · exact q h zs ⟨rfl, fun _ _ => rfl⟩ SR (f.skip fun z => hb (z.trans hu2.symm)) SW SA
  exact wj8 (s := { s with heap := h }) hu SA hy (fun i hm => ⟨rfl, fin _ (by simp [hm])⟩) fun hm => ⟨rfl, fin _ (by simp [hm])⟩
theorem xp1 {h : Heap} {o : Obj} {es : Array (Int × Value)} {ep : Nat} {t : SetTable} (S : SetIs prog w hf h a o es ep t xs) : ∃ ws : List (T3 × Addr), ws.Perm xs ∧ (ordS prog w a ep es).toList = ws.map (ent hf) := wq2 (f := ent hf) wo1 xs S.el
theorem Flt.perm {b : Bool} {ws xs A zs : List (T3 × Addr)} (f : Flt b ws A zs) (p : ws.Perm xs) : Flt b xs A zs := ⟨fun z hz => p.mem_iff.mp (f.1 z hz), fun k => by rw [f.2, (p.map (·.1)).mem_iff]⟩
theorem xm4 {nm : String} {Q : Value → Shared → Prop} (hu : A.units < cLine) (ne : a ≠ c) (SA : SetG prog w hf s.heap a xs) (SC : SetG prog w hf s.heap c ys) (hl : xs.length + ys.length < 62)
    (h : ∀ h' zs, KpH s.heap h' → SetG prog w hf h' s.heap.objs.size zs → (∀ z ∈ zs, z ∈ xs ∨ z ∈ ys) → (∀ k, k ∈ ky zs ↔ k ∈ ky xs ∧ k ∈ ky ys) → Q (.ref s.heap.objs.size) { s with heap := h' }) : wpAny (model prog w) A (Builtin.Frozenset.intersection nm a (.ref c)) Q E s := by
  obtain ⟨o, es, ep, t, S, rm⟩ := SA
  obtain ⟨o2, es2, ep2, t2, S2, rm2⟩ := SC
  have la := Heap.lt_size S.ho
  have lc := Heap.lt_size S2.ho
  unfold Builtin.Frozenset.intersection
  rw [if_neg (by simpa using Ne.symm ne)]
  refine wpAny_bind (zu1 S.ty (wpAny_bind (zt0 ?_)))
  have kp : ∀ b o, s.heap.get? b = some o → (s.heap.push (nset (!bT prog w))).get? b = some o := fun b o e => Heap.get?_push_of_some _ e
  have P : SetIs prog w hf (s.heap.push (nset (!bT prog w))) a o es ep t xs := ⟨kp _ _ S.ho, S.ex, S.hd, S.el, fun x hx => (S.ks x hx).kept fun o e _ => kp _ o e, S.nd, S.ok, S.rm, S.pl, S.le⟩
  have P2 : SetIs prog w hf (s.heap.push (nset (!bT prog w))) c o2 es2 ep2 t2 ys := ⟨kp _ _ S2.ho, S2.ex, S2.hd, S2.el, fun x hx => (S2.ks x hx).kept fun o e _ => kp _ o e, S2.nd, S2.ok, S2.rm, S2.pl, S2.le⟩
  have G0 : SetG prog w hf (s.heap.push (nset (!bT prog w))) s.heap.objs.size [] := set0 (Heap.get?_push_size _ rfl)
  have nra : s.heap.objs.size ≠ a := Nat.ne_of_gt la
  have nrc : s.heap.objs.size ≠ c := Nat.ne_of_gt lc
  have fin : ∀ h' zs, Heap.SameBut s.heap.objs.size (s.heap.push (nset (!bT prog w))) h' → SetG prog w hf h' s.heap.objs.size zs → (∀ z ∈ zs, z ∈ xs ∨ z ∈ ys) → (∀ k, k ∈ ky zs ↔ k ∈ ky xs ∧ k ∈ ky ys) → Q (.ref s.heap.objs.size) { s with heap := h' } := fun h' zs sb => h h' zs fun b o e => by
    rw [sb.2 b (Nat.ne_of_lt (Heap.lt_size e))]
    exact kp b o e
  generalize s.heap.push (nset (!bT prog w)) = hp at *
  generalize s.heap.objs.size = r at *
  show wpAny _ _ (pure r >>= _) _ _ _
  refine wpAny_bind (wpAny_pure (wpAny_bind (wpAny_holding (wpAny_bind (yp0 (s := { s with heap := hp }) P2.ty ?_)))))
  rw [if_pos rfl]
  show wpAny _ _ (pure c >>= _) _ _ _
  unfold Builtin.Frozenset.sizeOf
  refine wpAny_bind (wpAny_pure (wpAny_bind (wpAny_bind (wpAny_setEntries_of (s := { s with heap := hp }) P2.ho P2.hd P2.fits (wpAny_pure (wpAny_bind (wpAny_bind (wpAny_setEntries_of (s := { s with heap := hp }) P.ho P.hd P.fits (wpAny_pure ?_)))))))))
  split
  next asked walked heq =>
  have un : ∃ xsA xsW o es ep t, SetG prog w hf hp asked xsA ∧ SetIs prog w hf hp walked o es ep t xsW ∧ r ≠ asked ∧ r ≠ walked ∧ xsW.length < 62 ∧ (∀ z ∈ xsW, z ∈ xs ∨ z ∈ ys) ∧ ∀ k, (k ∈ ky xsW ∧ k ∈ ky xsA) ↔ (k ∈ ky xs ∧ k ∈ ky ys) := by
    split at heq
    · injection heq with h1 h2
      subst h1 h2
      exact ⟨ys, xs, _, _, _, _, ⟨_, _, _, _, P2, rm2⟩, P, nrc, nra, by omega, fun z hz => .inl hz, fun k => Iff.rfl⟩
    · injection heq with h1 h2
      subst h1 h2
      exact ⟨xs, ys, _, _, _, _, ⟨_, _, _, _, P, rm⟩, P2, nra, nrc, by omega, fun z hz => .inr hz, fun k => And.comm⟩
  obtain ⟨xsA, xsW, o3, es3, ep3, t3, GA, SW, n1, n2, lw, hz, hk⟩ := un
  refine wpAny_bind (wpAny_setEpoch_of (s := { s with heap := hp }) SW.ho SW.hd SW.fits ?_)
  refine wpAny_bind (yl1 (s := { s with heap := hp }) SW.obj ?_)
  obtain ⟨ws, pw, ew⟩ := xp1 SW
  rw [← Array.forIn_toList, ew]
  have ndw : (ky ws).Nodup := (pw.map (·.1)).nodup_iff.mpr SW.nd
  refine wpAny_bind (xq1 (hf := hf) (s := { s with heap := hp }) (fun done h => Heap.SameBut r hp h ∧ ∃ zs, SetG prog w hf h r zs ∧ Flt true done xsA zs ∧ SetIs prog w hf h walked o3 es3 ep3 t3 xsW ∧ SetG prog w hf h asked xsA) ⟨⟨rfl, fun _ _ => rfl⟩, [], G0, ⟨(fun z hz => nomatch hz), fun k => by simp [ky]⟩, SW, GA⟩ ?_ ?_)
  · rintro done y rest hh e ⟨sb, zs, SR, f, SW', GA'⟩
    have hy : TK prog w hh y.1 y.2 := SW'.ks y (pw.mem_iff.mp (by rw [e]; simp))
    have fs := za2 (b := true) (s := s) (E := E) hu n1 n2 ndw e (by rw [pw.length_eq]; exact lw) GA' SW' hy SR f (Q := fun _ s'' => ∃ h', s'' = { s with heap := h' } ∧ Heap.SameBut r hp h' ∧ ∃ zs, SetG prog w hf h' r zs ∧ Flt true (done ++ [y]) xsA zs ∧ SetIs prog w hf h' walked o3 es3 ep3 t3 xsW ∧ SetG prog w hf h' asked xsA) fun h' zs' sb' a1 a2 a3 a4 => ⟨h', rfl, sb.trans sb', zs', a1, a2, a3, a4⟩
    have un2 : ∀ s2 : Shared, (∃ h', s2 = { s with heap := h' } ∧ Heap.SameBut r hp h' ∧ ∃ zs, SetG prog w hf h' r zs ∧ Flt true (done ++ [y]) xsA zs ∧ SetIs prog w hf h' walked o3 es3 ep3 t3 xsW ∧ SetG prog w hf h' asked xsA) →
        wpAny (model prog w) A (Builtin.Frozenset.unchanged nm walked ep3) (fun _ s' => wpAny (model prog w) A (pure (ForInStep.yield PUnit.unit)) (fun q s' => ∃ h', q = .yield PUnit.unit ∧ s' = { s with heap := h' } ∧ Heap.SameBut r hp h' ∧ ∃ zs, SetG prog w hf h' r zs ∧ Flt true (done ++ [y]) xsA zs ∧ SetIs prog w hf h' walked o3 es3 ep3 t3 xsW ∧ SetG prog w hf h' asked xsA) E s') E s2 := fun s2 ⟨h', e1, e2, zs', e3, e4, e5, e6⟩ => by
      subst e1
      exact wz0 (s := { s with heap := h' }) e5.obj (wpAny_pure ⟨h', rfl, rfl, e2, zs', e3, e4, e5, e6⟩)
    refine wpAny_bind (wpAny_holding (wpAny_bind (wpAny_mono fs (fun u s' hq => ?_) fun _ _ h' => h')))
    obtain ⟨rfl, q1, q2⟩ := hq
    by_cases c : u.isSome = true
    · rw [if_pos c]
      refine wpAny_bind (wpAny_mono (q1 (by simp [c])) (fun _ s2 h2 => wpAny_pure (wpAny_bind (un2 s2 h2))) fun _ _ h' => h')
    · rw [if_neg c]
      exact wpAny_pure (wpAny_bind (un2 _ (q2 (by simp [c]))))
  · rintro hh ⟨sb, zs, SR, f, _, _⟩
    refine wpAny_pure (wpAny_pure ?_)
    have f2 := f.perm pw
    exact fin hh zs sb SR (fun z h => hz z (f2.1 z h)) fun k => by rw [f2.2, ← hk]; simp
end
end Pv

namespace Pv
open PySem PySem.Spec PySem.W PyProof.Rows L2
section
variable {prog : Program} {w : World} {A : Around} {E : Value → Shared → Prop} {s : Shared} {a c r : Addr} {xs ys : List (T3 × Addr)} {hf : T3 → Int}
noncomputable def Out (R done zs : List (T3 × Addr)) : Prop := (∀ z ∈ zs, z ∈ R) ∧ ∀ k, k ∈ ky zs ↔ k ∈ ky R ∧ k ∉ ky done
theorem Out.skip {R done zs : List (T3 × Addr)} {y : T3 × Addr} (f : Out R done zs) (h : y.1 ∉ ky zs) : Out R (done ++ [y]) zs := by
  refine ⟨f.1, fun k => ?_⟩
  rw [wd1, List.mem_append, not_or]
  constructor
  · intro hk
    refine ⟨((f.2 k).mp hk).1, ((f.2 k).mp hk).2, fun z => h ?_⟩
    have : k = y.1 := by simpa [ky] using z
    rw [← this]
    exact hk
  · rintro ⟨h1, h2, _⟩
    exact (f.2 k).mpr ⟨h1, h2⟩
theorem Out.take {R done zs zs' : List (T3 × Addr)} {y : T3 × Addr} {b' : Addr} (f : Out R done zs) (nd : (ky zs).Nodup) (p : zs.Perm ((y.1, b') :: zs')) : Out R (done ++ [y]) zs' := by
  have nd' : (ky ((y.1, b') :: zs')).Nodup := (p.map (·.1)).nodup_iff.mp nd
  have yn : y.1 ∉ ky zs' := (List.nodup_cons.mp nd').1
  have pk : ∀ k, k ∈ ky zs ↔ k = y.1 ∨ k ∈ ky zs' := fun k => by
    rw [show (k ∈ ky zs) = (k ∈ ky ((y.1, b') :: zs')) from propext (p.map (·.1)).mem_iff]
    simp [ky]
  refine ⟨fun z hz => f.1 z (p.mem_iff.mpr (List.mem_cons_of_mem _ hz)), fun k => ?_⟩
  rw [wd1, List.mem_append, not_or]
  constructor
  · intro hk
    have := (f.2 k).mp ((pk k).mpr (.inr hk))
    refine ⟨this.1, this.2, fun z => yn ?_⟩
    have e : k = y.1 := by simpa [ky] using z
    rw [← e]
    exact hk
  · rintro ⟨h1, h2, h3⟩
    rcases (pk k).mp ((f.2 k).mpr ⟨h1, h2⟩) with e | h
    · exact absurd (by simp [ky, e]) h3
    · exact h
theorem Out.perm {R done zs done' zs' : List (T3 × Addr)} (f : Out R done zs) (p : done.Perm done') (q : zs'.Perm zs) : Out R done' zs' :=
  ⟨fun z hz => f.1 z (q.mem_iff.mp hz), fun k => by rw [show (k ∈ ky zs') = (k ∈ ky zs) from propext (q.map (·.1)).mem_iff, f.2, show (k ∈ ky done) = (k ∈ ky done') from propext (p.map (·.1)).mem_iff]⟩
theorem Out.len {R done zs : List (T3 × Addr)} (f : Out R done zs) (nd : (ky zs).Nodup) : zs.length ≤ R.length := by
  have : (ky zs).length ≤ (ky R).length := List.Nodup.length_le_of_subset nd fun k hk => ((f.2 k).mp hk).1
  rwa [List.length_map, List.length_map] at this
theorem ye5 {Q : Unit → Shared → Prop} (S : SetG prog w hf s.heap a xs) (hn : xs.length < 64) (h : ∀ h' xs', Heap.SameBut a s.heap h' → SetG prog w hf h' a xs' → xs'.Perm xs → Q () { s with heap := h' }) : wpAny (model prog w) A (setTidy a) Q E s := by
  obtain ⟨o, es, ep, t, S, rm⟩ := S
  have sz := S.size
  unfold setTidy
  refine wpAny_bind (wpAny_setState_of S.ho S.hd S.fits ?_)
  dsimp only
  split
  · rw [show SetTable.grown es.size = xs.length * 4 from by unfold SetTable.grown; rw [if_neg (by omega), sz]]
    exact wp2 S hn rfl fun h' o' es' ep' t' xs' q1 q2 q3 q4 => h h' xs' q1 ⟨_, _, _, _, q2, q4⟩ q3
  · exact wpAny_pure (h s.heap xs ⟨rfl, fun _ _ => rfl⟩ ⟨_, _, _, _, S, rm⟩ (List.Perm.refl _))
theorem xk8 {nm : String} {Q : Unit → Shared → Prop} (hu : A.units < cLine) (ne : r ≠ c) (SR : SetG prog w hf s.heap r xs) (SC : SetG prog w hf s.heap c ys) (hl : xs.length < 62) (h8 : ys.length / 8 ≤ xs.length)
    (h : ∀ h' zs, Heap.SameBut r s.heap h' → SetG prog w hf h' r zs → Out xs ys zs → Q () { s with heap := h' }) : wpAny (model prog w) A (Builtin.Frozenset.differenceUpdate nm r (.ref c)) Q E s := by
  obtain ⟨o, es, ep, t, S, rm⟩ := id SR
  obtain ⟨o2, es2, ep2, t2, S2, rm2⟩ := SC
  unfold Builtin.Frozenset.differenceUpdate
  rw [if_neg (by simpa using Ne.symm ne)]
  refine wpAny_bind (yp0 S2.ty ?_)
  rw [if_pos rfl]
  show wpAny _ _ (pure c >>= _) _ _ _
  unfold Builtin.Frozenset.sizeOf
  refine wpAny_bind (wpAny_pure (wpAny_bind (wpAny_bind (wpAny_setEntries_of S2.ho S2.hd S2.fits (wpAny_pure (wpAny_bind (wpAny_bind (wpAny_setEntries_of S.ho S.hd S.fits (wpAny_pure ?_)))))))))
  rw [if_neg (by rw [S.size, S2.size]; omega)]
  show wpAny _ _ (setEpoch c >>= _) _ _ _
  refine wpAny_bind (wpAny_setEpoch_of S2.ho S2.hd S2.fits (wpAny_bind (wpAny_holding (wpAny_bind (yl1 S2.obj ?_)))))
  obtain ⟨ws, pw, ew⟩ := xp1 S2
  rw [← Array.forIn_toList, ew]
  refine wpAny_bind (xq1 (hf := hf) (fun done h => Heap.SameBut r s.heap h ∧ ∃ zs, SetG prog w hf h r zs ∧ Out xs done zs ∧ SetIs prog w hf h c o2 es2 ep2 t2 ys) ⟨⟨rfl, fun _ _ => rfl⟩, xs, SR, ⟨(fun z hz => hz), fun k => by simp [ky]⟩, S2⟩ ?_ ?_)
  · rintro done y rest hh e ⟨sb, zs, SR, f, SW⟩
    have hy : TK prog w hh y.1 y.2 := SW.ks y (pw.mem_iff.mp (by rw [e]; simp))
    have lz := f.len SR.nd
    refine wpAny_bind (wpAny_holding (wk1 (s := { s with heap := hh }) hu SR hy (by omega) (fun no => ?_) fun yes h' zs' sb' SR' ⟨b', pm⟩ => ?_))
    · exact wpAny_bind (wz0 (s := { s with heap := hh }) SW.obj (wpAny_pure ⟨hh, rfl, rfl, sb, zs, SR, f.skip no, SW⟩))
    · obtain ⟨_, _, _, _, R, _⟩ := id SR
      have SW' := SW.same R ne sb'
      exact wpAny_bind (wz0 (s := { s with heap := h' }) SW'.obj (wpAny_pure ⟨h', rfl, rfl, sb.trans sb', zs', SR', f.take SR.nd pm, SW'⟩))
  · rintro hh ⟨sb, zs, SR, f, _⟩
    have lz := f.len SR.nd
    refine wpAny_pure (ye5 (s := { s with heap := hh }) SR (by omega) fun h' zs' sb' SR' pm => ?_)
    exact h h' zs' (sb.trans sb') SR' (f.perm pw pm)
theorem SetG.kp {h h' : Heap} (S : SetG prog w hf h a xs) (k : KpH h h') : SetG prog w hf h' a xs := by
  obtain ⟨o, es, ep, t, S, q⟩ := S
  exact SetG.keep ⟨o, es, ep, t, S, q⟩ (fun o e => k _ o e) fun x hx => (S.ks x hx).kept fun o e _ => k _ o e
theorem SetIs.kp {h h' : Heap} {o : Obj} {es : Array (Int × Value)} {ep : Nat} {t : SetTable} (S : SetIs prog w hf h a o es ep t xs) (k : KpH h h') : SetIs prog w hf h' a o es ep t xs :=
  ⟨k _ _ S.ho, S.ex, S.hd, S.el, fun x hx => (S.ks x hx).kept fun o e _ => k _ o e, S.nd, S.ok, S.rm, S.pl, S.le⟩
theorem yt5 {nm : String} {Q : Value → Shared → Prop} (hu : A.units < cLine) (ne : a ≠ c) (SA : SetG prog w hf s.heap a xs) (SC : SetG prog w hf s.heap c ys) (hl : xs.length + ys.length < 62)
    (h : ∀ h' zs, KpH s.heap h' → SetG prog w hf h' s.heap.objs.size zs → (∀ z ∈ zs, z ∈ xs ∨ z ∈ ys) → (∀ k, k ∈ ky zs ↔ k ∈ ky xs ∧ k ∉ ky ys) → Q (.ref s.heap.objs.size) { s with heap := h' }) : wpAny (model prog w) A (Builtin.Frozenset.difference nm a (.ref c)) Q E s := by
  obtain ⟨o, es, ep, t, S, rm⟩ := id SA
  obtain ⟨o2, es2, ep2, t2, S2, rm2⟩ := id SC
  have la := Heap.lt_size S.ho
  have lc := Heap.lt_size S2.ho
  have nra : s.heap.objs.size ≠ a := Nat.ne_of_gt la
  have nrc : s.heap.objs.size ≠ c := Nat.ne_of_gt lc
  unfold Builtin.Frozenset.difference
  refine wpAny_bind (yp0 S2.ty ?_)
  simp only [Bool.not_true, Bool.false_eq_true, if_false, Bool.false_and, if_true]
  show wpAny _ _ (pure c >>= _) _ _ _
  unfold Builtin.Frozenset.sizeOf
  refine wpAny_bind (wpAny_pure (wpAny_bind (wpAny_bind (wpAny_setEntries_of S2.ho S2.hd S2.fits (wpAny_pure (wpAny_bind (wpAny_bind (wpAny_setEntries_of S.ho S.hd S.fits (wpAny_pure ?_)))))))))
  rw [S.size, S2.size]
  by_cases c4 : xs.length / 4 > ys.length
  · rw [if_pos c4]
    refine wpAny_bind (wpAny_rule (wpAny_bind (xu5 SA (by omega) fun h1 xs1 kp G1 p1 => ?_)))
    show wpAny _ _ (pure s.heap.objs.size >>= _) _ _ _
    have lp := p1.length_eq
    refine wpAny_bind (wpAny_pure (wpAny_bind (wpAny_holding (xk8 (s := { s with heap := h1 }) hu nrc G1 (SC.kp kp) (by omega) (by omega) fun h2 zs sb G2 f => wpAny_pure ?_))))
    refine h h2 zs (fun b o e => by rw [sb.2 b (Nat.ne_of_lt (Heap.lt_size e))]; exact kp b o e) G2 (fun z hz => .inl (p1.mem_iff.mp (f.1 z hz))) fun k => ?_
    rw [f.2, show (k ∈ ky xs1) = (k ∈ ky xs) from propext (p1.map (·.1)).mem_iff]
  · rw [if_neg c4]
    refine wpAny_bind (zu1 S.ty (wpAny_bind (zt0 ?_)))
    have kp : KpH s.heap (s.heap.push (nset (!bT prog w))) := fun b o e => Heap.get?_push_of_some _ e
    have P := S.kp kp
    have GC := SC.kp kp
    have G0 : SetG prog w hf (s.heap.push (nset (!bT prog w))) s.heap.objs.size [] := set0 (Heap.get?_push_size _ rfl)
    have fin : ∀ h' zs, Heap.SameBut s.heap.objs.size (s.heap.push (nset (!bT prog w))) h' → SetG prog w hf h' s.heap.objs.size zs → (∀ z ∈ zs, z ∈ xs ∨ z ∈ ys) → (∀ k, k ∈ ky zs ↔ k ∈ ky xs ∧ k ∉ ky ys) → Q (.ref s.heap.objs.size) { s with heap := h' } := fun h' zs sb => h h' zs fun b o e => by
      rw [sb.2 b (Nat.ne_of_lt (Heap.lt_size e))]
      exact kp b o e
    clear kp
    generalize s.heap.push (nset (!bT prog w)) = hp at *
    generalize s.heap.objs.size = r at *
    show wpAny _ _ (pure r >>= _) _ _ _
    refine wpAny_bind (wpAny_pure (wpAny_bind (wpAny_setEpoch_of (s := { s with heap := hp }) P.ho P.hd P.fits (wpAny_bind (wpAny_holding (wpAny_bind (yl1 (s := { s with heap := hp }) P.obj ?_)))))))
    obtain ⟨ws, pw, ew⟩ := xp1 P
    rw [← Array.forIn_toList, ew]
    have ndw : (ky ws).Nodup := (pw.map (·.1)).nodup_iff.mpr P.nd
    refine wpAny_bind (xq1 (hf := hf) (s := { s with heap := hp }) (fun done h => Heap.SameBut r hp h ∧ ∃ zs, SetG prog w hf h r zs ∧ Flt false done ys zs ∧ SetIs prog w hf h a o es ep t xs ∧ SetG prog w hf h c ys) ⟨⟨rfl, fun _ _ => rfl⟩, [], G0, ⟨(fun z hz => nomatch hz), fun k => by simp [ky]⟩, P, GC⟩ ?_ ?_)
    · rintro done y rest hh e ⟨sb, zs, SR, f, SW', GA'⟩
      have hy : TK prog w hh y.1 y.2 := SW'.ks y (pw.mem_iff.mp (by rw [e]; simp))
      have fs := za2 (b := false) (s := s) (E := E) hu nrc nra ndw e (by rw [pw.length_eq]; omega) GA' SW' hy SR f (Q := fun _ s'' => ∃ h', s'' = { s with heap := h' } ∧ Heap.SameBut r hp h' ∧ ∃ zs, SetG prog w hf h' r zs ∧ Flt false (done ++ [y]) ys zs ∧ SetIs prog w hf h' a o es ep t xs ∧ SetG prog w hf h' c ys) fun h' zs' sb' a1 a2 a3 a4 => ⟨h', rfl, sb.trans sb', zs', a1, a2, a3, a4⟩
      have un2 : ∀ s2 : Shared, (∃ h', s2 = { s with heap := h' } ∧ Heap.SameBut r hp h' ∧ ∃ zs, SetG prog w hf h' r zs ∧ Flt false (done ++ [y]) ys zs ∧ SetIs prog w hf h' a o es ep t xs ∧ SetG prog w hf h' c ys) →
          wpAny (model prog w) A (Builtin.Frozenset.unchanged nm a ep) (fun _ s' => wpAny (model prog w) A (pure (ForInStep.yield PUnit.unit)) (fun q s' => ∃ h', q = .yield PUnit.unit ∧ s' = { s with heap := h' } ∧ Heap.SameBut r hp h' ∧ ∃ zs, SetG prog w hf h' r zs ∧ Flt false (done ++ [y]) ys zs ∧ SetIs prog w hf h' a o es ep t xs ∧ SetG prog w hf h' c ys) E s') E s2 := fun s2 ⟨h', e1, e2, zs', e3, e4, e5, e6⟩ => by
        subst e1
        exact wz0 (s := { s with heap := h' }) e5.obj (wpAny_pure ⟨h', rfl, rfl, e2, zs', e3, e4, e5, e6⟩)
      refine wpAny_bind (wpAny_holding (wpAny_bind (wpAny_mono fs (fun u s' hq => wpAny_bind (wpAny_pure ?_)) fun _ _ h' => h')))
      obtain ⟨rfl, q1, q2⟩ := hq
      by_cases c : u.isSome = true
      · rw [if_neg (by simp [c])]
        exact wpAny_pure (wpAny_bind (un2 _ (q2 (by simp [c]))))
      · rw [if_pos (by simpa using c)]
        refine wpAny_bind (wpAny_mono (q1 (by simp [c])) (fun _ s2 h2 => wpAny_pure (wpAny_bind (un2 s2 h2))) fun _ _ h' => h')
    · rintro hh ⟨sb, zs, SR, f, _, _⟩
      refine wpAny_pure (wpAny_pure ?_)
      have f2 := f.perm pw
      exact fin hh zs sb SR (fun z h => .inl (f2.1 z h)) fun k => by rw [f2.2]; simp
noncomputable def Flp (R done zs : List (T3 × Addr)) : Prop := (∀ z ∈ zs, z ∈ R ∨ z ∈ done) ∧ ∀ k, k ∈ ky zs ↔ (k ∈ ky R ∧ k ∉ ky done) ∨ (k ∈ ky done ∧ k ∉ ky R)
theorem Flp.len {R done zs : List (T3 × Addr)} (f : Flp R done zs) (nd : (ky zs).Nodup) : zs.length ≤ R.length + done.length := by
  have : (ky zs).length ≤ (ky R ++ ky done).length := List.Nodup.length_le_of_subset nd fun k hk => by
    rcases (f.2 k).mp hk with h | h
    · exact List.mem_append_left _ h.1
    · exact List.mem_append_right _ h.1
  rwa [List.length_append, List.length_map, List.length_map, List.length_map] at this
theorem Flp.add {R done zs zs' : List (T3 × Addr)} {y : T3 × Addr} (f : Flp R done zs) (yd : y.1 ∉ ky done) (h : y.1 ∉ ky zs) (p : zs'.Perm (y :: zs)) : Flp R (done ++ [y]) zs' := by
  have yR : y.1 ∉ ky R := fun z => h ((f.2 _).mpr (.inl ⟨z, yd⟩))
  have pk : ∀ k, k ∈ ky zs' ↔ k = y.1 ∨ k ∈ ky zs := fun k => by
    rw [show (k ∈ ky zs') = (k ∈ ky (y :: zs)) from propext (p.map (·.1)).mem_iff]
    simp [ky]
  have sk : ∀ k, k ∈ ky [y] ↔ k = y.1 := fun k => by simp [ky]
  refine ⟨fun z hz => ?_, fun k => ?_⟩
  · rcases List.mem_cons.mp (p.mem_iff.mp hz) with rfl | hz
    · exact .inr (by simp)
    · exact (f.1 z hz).elim .inl fun h => .inr (List.mem_append_left _ h)
  · rw [pk, f.2, wd1, List.mem_append, sk]
    by_cases e : k = y.1
    · subst e
      simp [yR]
    · simp [e]
theorem Flp.sub {R done zs zs' : List (T3 × Addr)} {y : T3 × Addr} {b' : Addr} (f : Flp R done zs) (yd : y.1 ∉ ky done) (nd : (ky zs).Nodup) (p : zs.Perm ((y.1, b') :: zs')) : Flp R (done ++ [y]) zs' := by
  have nd' : (ky ((y.1, b') :: zs')).Nodup := (p.map (·.1)).nodup_iff.mp nd
  have yn : y.1 ∉ ky zs' := (List.nodup_cons.mp nd').1
  have pk : ∀ k, k ∈ ky zs ↔ k = y.1 ∨ k ∈ ky zs' := fun k => by
    rw [show (k ∈ ky zs) = (k ∈ ky ((y.1, b') :: zs')) from propext (p.map (·.1)).mem_iff]
    simp [ky]
  have sk : ∀ k, k ∈ ky [y] ↔ k = y.1 := fun k => by simp [ky]
  have yR : y.1 ∈ ky R := by
    rcases (f.2 _).mp ((pk y.1).mpr (.inl rfl)) with h | h
    · exact h.1
    · exact absurd h.1 yd
  refine ⟨fun z hz => (f.1 z (p.mem_iff.mpr (List.mem_cons_of_mem _ hz))).elim .inl fun h => .inr (List.mem_append_left _ h), fun k => ?_⟩
  rw [wd1, List.mem_append, sk]
  by_cases e : k = y.1
  · subst e
    simp [yR, yn]
  · have := f.2 k
    rw [pk] at this
    simp only [e, false_or, or_false] at this ⊢
    exact this
theorem wa6 {nm : String} {Q : Value → Shared → Prop} (hu : A.units < cLine) (ne : a ≠ c) (SA : SetG prog w hf s.heap a xs) (SC : SetG prog w hf s.heap c ys) (hl : xs.length + ys.length < 62)
    (h : ∀ h' zs, KpH s.heap h' → SetG prog w hf h' s.heap.objs.size zs → (∀ z ∈ zs, z ∈ xs ∨ z ∈ ys) → (∀ k, k ∈ ky zs ↔ (k ∈ ky xs ∧ k ∉ ky ys) ∨ (k ∈ ky ys ∧ k ∉ ky xs)) → Q (.ref s.heap.objs.size) { s with heap := h' }) :
    wpAny (model prog w) A (Builtin.Frozenset.baseOf a >>= fun cl => Builtin.Frozenset.newFrom nm cl (.ref c) >>= fun v => Builtin.Frozenset.addrOf v >>= fun r => holding [v] (Builtin.Frozenset.symmetricDifferenceUpdate nm r (.ref a)) >>= fun _ => pure v) Q E s := by
  obtain ⟨o, es, ep, t, S, rm⟩ := id SA
  obtain ⟨o2, es2, ep2, t2, S2, rm2⟩ := id SC
  have la := Heap.lt_size S.ho
  have lc := Heap.lt_size S2.ho
  have nra : s.heap.objs.size ≠ a := Nat.ne_of_gt la
  have nrc : s.heap.objs.size ≠ c := Nat.ne_of_gt lc
  refine wpAny_bind (zu1 S.ty (wpAny_bind ?_))
  unfold Builtin.Frozenset.newFrom
  refine wpAny_bind (zt0 ?_)
  have kp : KpH s.heap (s.heap.push (nset (!bT prog w))) := fun b o e => Heap.get?_push_of_some _ e
  have gr : (s.heap.push (nset (!bT prog w))).get? s.heap.objs.size = some (nset (!bT prog w)) := Heap.get?_push_size _ rfl
  have P := S.kp kp
  have GC := SC.kp kp
  have fin : ∀ h' zs, Heap.SameBut s.heap.objs.size (s.heap.push (nset (!bT prog w))) h' → SetG prog w hf h' s.heap.objs.size zs → (∀ z ∈ zs, z ∈ xs ∨ z ∈ ys) → (∀ k, k ∈ ky zs ↔ (k ∈ ky xs ∧ k ∉ ky ys) ∨ (k ∈ ky ys ∧ k ∉ ky xs)) → Q (.ref s.heap.objs.size) { s with heap := h' } := fun h' zs sb => h h' zs fun b o e => by
    rw [sb.2 b (Nat.ne_of_lt (Heap.lt_size e))]
    exact kp b o e
  clear kp
  generalize s.heap.push (nset (!bT prog w)) = hp at *
  generalize s.heap.objs.size = r at *
  show wpAny _ _ (pure r >>= _) _ _ _
  refine wpAny_bind (wpAny_pure (wpAny_bind (wpAny_holding ?_)))
  unfold Builtin.Frozenset.updateFrom
  have tc : Shared.TypeIs { s with heap := hp } (.ref c) "set" := by
    obtain ⟨o, _, _, _, S, _⟩ := id GC
    exact ⟨o, S.ho, S.ex.1⟩
  refine wpAny_bind (yp0 tc ?_)
  rw [if_pos rfl]
  show wpAny _ _ (pure c >>= _) _ _ _
  unfold Builtin.Frozenset.merge
  obtain ⟨o3, es3, ep3, t3, S3, rm3⟩ := id GC
  refine wpAny_bind (wpAny_pure (wpAny_bind (wpAny_setEpoch_of (s := { s with heap := hp }) S3.ho S3.hd S3.fits (zr2 (s := { s with heap := hp }) nrc gr GC (by omega) fun h1 ys1 sb1 G1 p1 => wpAny_pure ?_))))
  have lp := p1.length_eq
  have P1 := P.same (yh5 (hf := hf) gr) nra sb1
  show wpAny _ _ (pure r >>= _) _ _ _
  refine wpAny_bind (wpAny_pure (wpAny_bind (wpAny_holding ?_)))
  unfold Builtin.Frozenset.symmetricDifferenceUpdate
  rw [if_neg (by simpa using Ne.symm nra)]
  refine wpAny_bind (wpAny_typeOf (P1.ty (s := { s with heap := h1 })) ?_)
  rw [if_neg (by decide)]
  refine wpAny_bind (yp0 (P1.ty (s := { s with heap := h1 })) ?_)
  rw [if_pos rfl]
  refine wpAny_bind (wpAny_pure ?_)
  show wpAny _ _ (pure a >>= _) _ _ _
  refine wpAny_bind (wpAny_pure (wpAny_bind (wpAny_setEpoch_of (s := { s with heap := h1 }) P1.ho P1.hd P1.fits (wpAny_holding (wpAny_bind (yl1 (s := { s with heap := h1 }) P1.obj ?_))))))
  obtain ⟨ws, pw, ew⟩ := xp1 P1
  rw [← Array.forIn_toList, ew]
  have ndw : (ky ws).Nodup := (pw.map (·.1)).nodup_iff.mpr P1.nd
  have lw := pw.length_eq
  refine wpAny_bind (xq1 (hf := hf) (s := { s with heap := h1 }) (fun done h => Heap.SameBut r hp h ∧ ∃ zs, SetG prog w hf h r zs ∧ Flp ys1 done zs ∧ SetIs prog w hf h a o es ep t xs) ⟨sb1, ys1, G1, ⟨(fun z hz => .inl hz), fun k => by simp [ky]⟩, P1⟩ ?_ ?_)
  · rintro done y rest hh e ⟨sb, zs, SR, f, SW⟩
    have hy : TK prog w hh y.1 y.2 := SW.ks y (pw.mem_iff.mp (by rw [e]; simp))
    have yd := yr2 ndw e
    have lz := f.len SR.nd
    have le := congrArg List.length e
    rw [List.length_append, List.length_cons] at le
    have un : ∀ (h' : Heap) zs', Heap.SameBut r hh h' → SetG prog w hf h' r zs' → Flp ys1 (done ++ [y]) zs' → wpAny (model prog w) A (Builtin.Frozenset.unchanged nm a ep) (fun _ s' => wpAny (model prog w) A (pure (ForInStep.yield PUnit.unit)) (fun q s' => ∃ h', q = .yield PUnit.unit ∧ s' = { s with heap := h' } ∧ Heap.SameBut r hp h' ∧ ∃ zs, SetG prog w hf h' r zs ∧ Flp ys1 (done ++ [y]) zs ∧ SetIs prog w hf h' a o es ep t xs) E s') E { s with heap := h' } := fun h' zs' sb' SR' f' => by
      obtain ⟨_, _, _, _, R, _⟩ := id SR
      have SW' := SW.same R nra sb'
      exact wz0 (s := { s with heap := h' }) SW'.obj (wpAny_pure ⟨h', rfl, rfl, sb.trans sb', zs', SR', f', SW'⟩)
    refine wpAny_bind (wpAny_holding (wpAny_bind (wk1 (s := { s with heap := hh }) hu SR hy (by omega) (fun no => ?_) fun yes h' zs' sb' SR' ⟨b', pm⟩ => ?_)))
    · rw [if_pos (by decide)]
      refine wpAny_bind (wb4 (s := { s with heap := hh }) hu SR hy (by omega) (fun old => absurd old no) fun _ h' zs' sb' SR' pm => wpAny_pure (wpAny_bind (un h' zs' sb' SR' (f.add yd no pm))))
    · rw [if_neg (by decide)]
      exact wpAny_pure (wpAny_bind (un h' zs' sb' SR' (f.sub yd SR.nd pm)))
  · rintro hh ⟨sb, zs, SR, f, _⟩
    refine wpAny_pure (wpAny_pure ?_)
    have e1 : ∀ k, k ∈ ky ys1 ↔ k ∈ ky ys := fun k => (p1.map (·.1)).mem_iff
    have e2 : ∀ k, k ∈ ky ws ↔ k ∈ ky xs := fun k => (pw.map (·.1)).mem_iff
    refine fin hh zs sb SR (fun z hz => ?_) fun k => ?_
    · exact (f.1 z hz).elim (fun h => .inr (p1.mem_iff.mp h)) fun h => .inl (pw.mem_iff.mp h)
    · rw [f.2, e1, e2]
      exact Or.comm
end
end Pv

namespace Pv
open PySem PySem.Spec PySem.W PyProof.Rows L2
theorem zb2 : entryFor table "set.__and__" = some Builtin.«frozenset.__and__» := by exact entryFor_alias (id' := "frozenset.__and__") (by kernel_rfl) rfl (by decide +kernel) (by kernel_rfl)
theorem yb2 : entryFor table "set.__sub__" = some Builtin.«frozenset.__sub__» := by exact entryFor_alias (id' := "frozenset.__sub__") (by kernel_rfl) rfl (by decide +kernel) (by kernel_rfl)
theorem xb2 : entryFor table "set.__xor__" = some Builtin.«frozenset.__xor__» := by exact entryFor_alias (id' := "frozenset.__xor__") (by kernel_rfl) rfl (by decide +kernel) (by kernel_rfl)
section
variable {prog : Program} {w : World} {A : Around} {E : Value → Shared → Prop} {s : Shared} {a c r : Addr} {xs ys : List (T3 × Addr)} {hf : T3 → Int}
theorem SetG.ty {s : Shared} (S : SetG prog w hf s.heap a xs) : s.TypeIs (.ref a) "set" := by
  obtain ⟨o, _, _, _, S, _⟩ := S
  exact ⟨o, S.ho, S.ex.1⟩
theorem xs7 {Q : Value → Shared → Prop} (hu : A.units + 1 < cLine) (ne : a ≠ c) (SA : SetG prog w hf s.heap a xs) (SC : SetG prog w hf s.heap c ys) (hl : xs.length + ys.length < 62)
    (h : ∀ h' zs, KpH s.heap h' → SetG prog w hf h' s.heap.objs.size zs → (∀ z ∈ zs, z ∈ xs ∨ z ∈ ys) → (∀ k, k ∈ ky zs ↔ k ∈ ky xs ∧ k ∈ ky ys) → Q (.ref s.heap.objs.size) { s with heap := h' }) : wpAny (model prog w) A (binaryOp .BitAnd (.ref a) (.ref c)) Q E s := by
  refine wpAny_binaryOp_same (T := "set") (id := "set.__and__") SA.ty SC.ty F.fills_set_and F.slot_set_and (wpAny_call_entry F.slot_set_and SA.ty zb2 ?_ (F.args_set_and_2 _ _))
  show wpAny _ _ (Builtin.Frozenset.slot1 "__and__" _ >>= _) _ _ s
  refine wpAny_bind (m := Builtin.Frozenset.slot1 _ _) (wpAny_pure (wpAny_bind (wpAny_bind (yp0 SA.ty (yp0 SC.ty ?_)))))
  rw [if_neg (by decide)]
  show wpAny _ _ (pure a >>= _) _ _ s
  refine wpAny_bind (wpAny_pure (wpAny_bind ?_))
  exact xm4 (A := A.in1) hu ne SA SC hl fun h' zs b1 b2 b3 b4 => wpAny_pure ⟨_, rfl, (by simp), h h' zs b1 b2 b3 b4⟩
theorem wr7 {Q : Value → Shared → Prop} (hu : A.units + 1 < cLine) (ne : a ≠ c) (SA : SetG prog w hf s.heap a xs) (SC : SetG prog w hf s.heap c ys) (hl : xs.length + ys.length < 62)
    (h : ∀ h' zs, KpH s.heap h' → SetG prog w hf h' s.heap.objs.size zs → (∀ z ∈ zs, z ∈ xs ∨ z ∈ ys) → (∀ k, k ∈ ky zs ↔ k ∈ ky xs ∧ k ∉ ky ys) → Q (.ref s.heap.objs.size) { s with heap := h' }) : wpAny (model prog w) A (binaryOp .Sub (.ref a) (.ref c)) Q E s := by
  refine wpAny_binaryOp_same (T := "set") (id := "set.__sub__") SA.ty SC.ty F.fills_set_sub F.slot_set_sub (wpAny_call_entry F.slot_set_sub SA.ty yb2 ?_ (F.args_set_sub_2 _ _))
  show wpAny _ _ (Builtin.Frozenset.slot1 "__sub__" _ >>= _) _ _ s
  refine wpAny_bind (m := Builtin.Frozenset.slot1 _ _) (wpAny_pure (wpAny_bind (wpAny_bind (yp0 SA.ty (yp0 SC.ty ?_)))))
  rw [if_neg (by decide)]
  show wpAny _ _ (pure a >>= _) _ _ s
  refine wpAny_bind (wpAny_pure (wpAny_bind ?_))
  exact yt5 (A := A.in1) hu ne SA SC hl fun h' zs b1 b2 b3 b4 => wpAny_pure ⟨_, rfl, (by simp), h h' zs b1 b2 b3 b4⟩
theorem zr7 {Q : Value → Shared → Prop} (hu : A.units + 1 < cLine) (ne : a ≠ c) (SA : SetG prog w hf s.heap a xs) (SC : SetG prog w hf s.heap c ys) (hl : xs.length + ys.length < 62)
    (h : ∀ h' zs, KpH s.heap h' → SetG prog w hf h' s.heap.objs.size zs → (∀ z ∈ zs, z ∈ xs ∨ z ∈ ys) → (∀ k, k ∈ ky zs ↔ (k ∈ ky xs ∧ k ∉ ky ys) ∨ (k ∈ ky ys ∧ k ∉ ky xs)) → Q (.ref s.heap.objs.size) { s with heap := h' }) : wpAny (model prog w) A (binaryOp .BitXor (.ref a) (.ref c)) Q E s := by
  refine wpAny_binaryOp_same (T := "set") (id := "set.__xor__") SA.ty SC.ty F.fills_set_xor F.slot_set_xor (wpAny_call_entry F.slot_set_xor SA.ty xb2 ?_ (F.args_set_xor_2 _ _))
  show wpAny _ _ (Builtin.Frozenset.slot1 "__xor__" _ >>= _) _ _ s
  refine wpAny_bind (m := Builtin.Frozenset.slot1 _ _) (wpAny_pure (wpAny_bind (wpAny_bind (yp0 SA.ty (yp0 SC.ty ?_)))))
  rw [if_neg (by decide)]
  show wpAny _ _ (pure a >>= _) _ _ s
  refine wpAny_bind (wpAny_pure (wpAny_bind ?_))
  exact wa6 (A := A.in1) hu ne SA SC hl fun h' zs b1 b2 b3 b4 => wpAny_pure ⟨_, rfl, (by simp), h h' zs b1 b2 b3 b4⟩
end
section
variable {X : Cx}
noncomputable def HO (X : Cx) (op : Operator) (P : Prop → Prop → Prop) : Prop := ∀ (s : Shared) (a c : Addr) (xs ys : List (T3 × Addr)) (Q : Value → Shared → Prop), a ≠ c → SetG X.prog X.w (hT X.prog X.w) s.heap a xs → SetG X.prog X.w (hT X.prog X.w) s.heap c ys → xs.length + ys.length < 62 →
  (∀ h' zs, KpH s.heap h' → SetG X.prog X.w (hT X.prog X.w) h' s.heap.objs.size zs → (∀ z ∈ zs, z ∈ xs ∨ z ∈ ys) → (∀ k, k ∈ ky zs ↔ P (k ∈ ky xs) (k ∈ ky ys)) → Q (.ref s.heap.objs.size) { s with heap := h' }) → wpAny (model X.prog X.w) X.A (binaryOp op (.ref a) (.ref c)) Q X.xe s
theorem wm7 (hu : X.A.units + 64 < cLine) : HO X .BitAnd fun p q => p ∧ q := fun s a c xs ys Q ne SA SC hl h => xs7 (by omega) ne SA SC hl h
theorem zm7 (hu : X.A.units + 64 < cLine) : HO X .Sub fun p q => p ∧ ¬ q := fun s a c xs ys Q ne SA SC hl h => wr7 (by omega) ne SA SC hl h
theorem ym7 (hu : X.A.units + 64 < cLine) : HO X .BitXor fun p q => (p ∧ ¬ q) ∨ (q ∧ ¬ p) := fun s a c xs ys Q ne SA SC hl h => zr7 (by omega) ne SA SC hl h
theorem wv7 {pins : List (Addr × Obj)} {σ : L2.St} {H : Hp} {s : Shared} (I : Inv X pins σ H s) {t : T3} {b : Addr} (h : SqT X.K H b (vT t)) : TK X.prog X.w s.heap t b := by
  have := ws0 I (vs := [.ref b]) (ts := [t]) (us := [.ref b]) ⟨⟨b, rfl, h⟩, trivial⟩ (.cons rfl .nil)
  exact IsT3.key this.1
noncomputable def tSop (K : Fg) (P : Prop → Prop → Prop) (t1 t2 : TSt) : TSt := fun σ H R => t1 σ H fun xs H1 => t2 σ H1 fun ys H2 => xs.length + ys.length < 62 ∧ (∀ x ∈ xs, SqT K H2 x.2 (vT x.1)) ∧
  ∀ zs : List (T3 × Addr), (ky zs).Nodup → (∀ z ∈ zs, SqT K H2 z.2 (vT z.1)) → (∀ k, k ∈ ky zs ↔ P (k ∈ ky xs) (k ∈ ky ys)) → R zs H2
theorem xf8 {op : Operator} {P : Prop → Prop → Prop} {e1 e2 : Expr} {t1 t2 : TSt} {pos : Pos} (ho : HO X op P) (h1 : PSt X e1 t1) (h2 : PSt X e2 t2) : PSt X (.BinOp e1 op e2 pos) (tSop X.K P t1 t2) := by
  intro pins s σ H R I h
  refine wpAny_BinOp (thn (h1 pins s σ H _ I h) fun v s1 q1 => ?_)
  obtain ⟨a, xs, H1, rfl, I1, f1, G1, sq1, l1, q1⟩ := q1
  obtain ⟨o, es, ep, t, S, rm⟩ := id G1
  have I1p := I1.pinned (fp := [a]) (fun b hb => by rw [List.mem_singleton.mp hb]; exact f1) fun b hb => by
    rw [List.mem_singleton.mp hb]
    exact ⟨o, S.ho, fun v z => by rw [S.hd] at z; cases z⟩
  refine thn (h2 _ s1 σ H1 _ I1p q1) fun u s2 q2 => ?_
  obtain ⟨c, ys, H2, rfl, I2, f2, G2, sq2, l2, hl, sx, k⟩ := q2
  have mp : (a, o) ∈ yc1 [a] s1.heap := zm0 (List.mem_singleton.mpr rfl) S.ho
  have mp2 : (a, o) ∈ X.pn ++ (pins ++ yc1 [a] s1.heap) := List.mem_append_right _ (List.mem_append_right _ mp)
  have ga := (I2.pin _ mp2).1
  have nac : a ≠ c := f2.2.2.2.2.2 _ mp2
  have G1' : SetG X.prog X.w (hT X.prog X.w) s2.heap a xs := G1.keep (fun o' e => by rw [S.ho] at e; cases e; exact ga) fun x hx => wv7 I2 (sx x hx)
  have I3 := I2.unpinned
  refine ho s2 a c xs ys _ nac G1' G2 hl fun h' zs kp sg mem al => ?_
  have sz : ∀ z ∈ zs, SqT X.K H2 z.2 (vT z.1) := fun z hz => (mem z hz).elim (sx z) (sq2 z)
  have lz : zs.length ≤ xs.length + ys.length := by
    have : (ky zs).length ≤ (ky xs ++ ky ys).length := List.Nodup.length_le_of_subset sg.nd fun k hk => by
      obtain ⟨z, hz, rfl⟩ := List.mem_map.mp hk
      exact List.mem_append.mpr ((mem z hz).elim (fun h => .inl (List.mem_map.mpr ⟨z, h, rfl⟩)) fun h => .inr (List.mem_map.mpr ⟨z, h, rfl⟩))
    rwa [List.length_append, List.length_map, List.length_map, List.length_map] at this
  exact ⟨_, zs, H2, rfl, I3.kept kp, I3.fpOk (Nat.le_refl _) (I3.hok.fresh (Nat.le_refl _)), sg, sz, by omega, k zs sg.nd sz al⟩
noncomputable def sop3 (P : Prop → Prop → Prop) (t1 t2 : TSt3) : TSt3 := fun ρ μ R => t1 ρ μ fun ks1 μ1 => t2 ρ μ1 fun ks2 μ2 => ks1.length + ks2.length < 62 ∧ ∀ ks : List T3, ks.Nodup → (∀ k, k ∈ ks ↔ P (k ∈ ks1) (k ∈ ks2)) → R ks μ2
theorem xl3 {op : Operator} {P : Prop → Prop → Prop} {e1 e2 : Expr} {t1 t2 : TSt3} {pos : Pos} (ho : HO X op P) (h1 : REs X e1 t1) (h2 : REs X e2 t2) : REs X (.BinOp e1 op e2 pos) (sop3 P t1 t2) := by
  obtain ⟨v1, p1, r1⟩ := h1
  obtain ⟨v2, p2, r2⟩ := h2
  refine ⟨_, xf8 ho p1 p2, fun σ H R ρ μ R3 s m h k => r1 σ H _ ρ μ _ s m h fun xs μ1 H1 h1 nd1 sq1 k1 m1 => r2 σ H1 _ ρ μ1 _ (s.mono k1) m1 h1 fun ys μ2 H2 h2 nd2 sq2 k2 m2 => ?_⟩
  refine ⟨by have := h2.1; simpa using this, fun x hx => SqT.mono k2 (sq1 x hx), fun zs nd sq al => k zs μ2 H2 (h2.2 _ nd al) nd sq (k1.trans k2) m2⟩
end
end Pv

namespace Pv
open PySem PySem.Spec PyProof.Rows L2
theorem ws1 {CX : CXT} {P : Program} {w : World} {K : Fg} {mg : Str → Option Value} {base : Heap} {N : List Str} {qual : Str} {sc : Scope} {f : Addr} {cdv : Value} {A : Around} {outer : List Env} {s : Shared} {H : Hp} {E : XK} {NN : List Str} {scope : Scope} {js : List (Option Nat)}
    (hcell : ∀ y ∈ scope.names, y.2 ≠ .cell := by decide +kernel) (hk : scope.kind = .function := by rfl) (hfn : sc.kind = .function := by rfl)
    (hn : ∀ y ∈ scope.names, y.2 = .local → scope.names.lookup y.1 = some .local := by decide +kernel) (hfree : ∀ y ∈ scope.names, y.2 = .free → sc.names.lookup y.1 = some .cell := by decide +kernel)
    (hlook : ∀ y ∈ scope.names, y.2 = .free → scope.names.lookup y.1 = some .free := by decide +kernel) (len : js.length = NN.length := by rfl)
    (hout : ∀ i ∈ List.range js.length, ∀ j ∈ (js.getD i none).toList, ∃ x ∈ NN[i]?.toList, N[j]? = some x ∧ scope.names.lookup x = some .free := by decide +kernel) :
    CompSc (cxOf CX P w K mg base N qual sc f cdv A outer s H E) NN scope (xx0 (cxOf CX P w K mg base N qual sc f cdv A outer s H E).env.cells scope.names []) js :=
  CompSc.free (X := cxOf CX P w K mg base N qual sc f cdv A outer s H E) hcell hk hfn hn hfree hlook (fun x h => by
    obtain ⟨c, hc⟩ := yz0 (n := _) h
    exact Option.isSome_iff_exists.mpr ⟨c, hc⟩) len fun i hi j hj => by
      obtain ⟨x, h1, h2, h3⟩ := hout i hi j (by rw [hj]; simp)
      exact ⟨x, by simpa using h1, h2, h3⟩
end Pv

namespace Mw
noncomputable abbrev Pen := Int × Int × Int
noncomputable def cs (h : Int) : Int := if h = 0 then 1 else if h = 2 then -1 else 0
noncomputable def sn (h : Int) : Int := if h = 1 then 1 else if h = 3 then -1 else 0
noncomputable def led (p q : Pen) : Pen := (p.1 + q.1 * cs p.2.2 - q.2.1 * sn p.2.2, p.2.1 + q.1 * sn p.2.2 + q.2.1 * cs p.2.2, (p.2.2 + q.2.2) % 4)
noncomputable def st : Pen := (0, 0, 0)
noncomputable def Hd (p : Pen) : Prop := p.2.2 = 0 ∨ p.2.2 = 1 ∨ p.2.2 = 2 ∨ p.2.2 = 3
noncomputable def pw (p : Pen) : Nat → Pen
  | 0 => st
  | n + 1 => led (pw p n) p
noncomputable def rep (p : Pen) (n : Int) : Pen := if p.2.2 = 0 then (p.1 * n, p.2.1 * n, 0) else pw p (n % 4).toNat
inductive Dd where
  | go (n : Int) | jump (n : Int) | turn (n : Int) | times (n : Int) (w : List Dd)
noncomputable def G : Int := 99999999999999999999
mutual
noncomputable def sk : Dd → Int
  | .go n => n
  | .times n w => n * sks w
  | _ => 0
noncomputable def sks : List Dd → Int
  | [] => 0
  | d :: r => sk d + sks r
end
mutual
noncomputable def dn : Dd → Int
  | .times n w => n * dns w
  | _ => 1
noncomputable def dns : List Dd → Int
  | [] => 0
  | d :: r => dn d + dns r
end
mutual
noncomputable def pd : Dd → Pen
  | .go n => (n, 0, 0)
  | .jump n => (n, 0, 0)
  | .turn n => (0, 0, n % 4)
  | .times n w => rep (pb w) n
noncomputable def pb : List Dd → Pen
  | [] => st
  | d :: r => led (pd d) (pb r)
end
end Mw

namespace Mw
noncomputable def ab (x : Int) : Int := if x < 0 then -x else x
noncomputable def pm (p : Pen) : Int := max (ab p.1) (ab p.2.1)
noncomputable def G2 : Int := 200000000000000000000
end Mw

namespace Pv
open PySem
noncomputable abbrev yq1 : D := .tup [.tup [.int 1, .int 0], .tup [.int 0, .int 1], .tup [.int (-1), .int 0], .tup [.int 0, .int (-1)]]
noncomputable abbrev zq0 : D := .tup [.int 0, .int 1]
noncomputable abbrev wo0 : D := .tup [.tup [.int 0, .int 0], .tup [.int 0, .int 1], .tup [.int 0, .int 2], .tup [.int 0, .int 3], .tup [.int 1, .int 0], .tup [.int 1, .int 1], .tup [.int 1, .int 2], .tup [.int 1, .int 3]]
noncomputable def xnames : List Str := ["NoPicture"]
noncomputable def subX (cls c : Str) : Option Bool := if xnames.contains c then some (cls == c || cls == "PenError" || cls == "ValueError") else none
noncomputable def okX (c : Str) : Bool := xnames.contains c
noncomputable def wy5 : List Str := ["pen", "part", "ahead", "x", "y"]
noncomputable def xg6 : TS3 :=
  (seq3 (set3 2 (o3 ixR (c3 yq1) (o3 ixR (v3 0) (c3 (.int 2))))) (seq3 (set3 3 (o3 subR (o3 addR (o3 ixR (v3 0) (c3 (.int 0))) (o3 mulR (o3 ixR (v3 1) (c3 (.int 0))) (o3 ixR (v3 2) (c3 (.int 0))))) (o3 mulR (o3 ixR (v3 1) (c3 (.int 1))) (o3 ixR (v3 2) (c3 (.int 1)))))) (seq3 (set3 4 (o3 addR (o3 addR (o3 ixR (v3 0) (c3 (.int 1))) (o3 mulR (o3 ixR (v3 1) (c3 (.int 0))) (o3 ixR (v3 2) (c3 (.int 1))))) (o3 mulR (o3 ixR (v3 1) (c3 (.int 1))) (o3 ixR (v3 2) (c3 (.int 0)))))) (ret3 (tup3 (cons3 (v3 3) (cons3 (v3 4) (cons3 (o3 modR (o3 addR (o3 ixR (v3 0) (c3 (.int 2))) (o3 ixR (v3 1) (c3 (.int 2)))) (c3 (.int 4))) nil3))))))))
noncomputable def zr4 : List Str := ["picture", "stroke", "place"]
noncomputable def we5 (XE : XE3) (spx_q12 : XE3 → Sp3) : TS3 :=
  (seq3 (for3 (is3 (v3 0)) (gn3 1) (drop3 (call3 (spx_q12 XE) (cons3 (v3 1) nil3)))) (for3 (ir23 (cons3 (c3 (.int 1)) (cons3 (call3 lenR (cons3 (v3 0) nil3)) nil3))) (gn3 2) (ifs3 (b3 (o3 ge3R (o3 ixR (v3 0) (o3 subR (v3 2) (c3 (.int 1)))) (o3 ixR (v3 0) (v3 2)))) (yq2 XE "NoPicture" (cons3 (c3 (.str "the strokes of a picture rise, each once")) nil3)) next3)))
noncomputable def ya6 : List Str := ["stroke"]
noncomputable def zh6 (XE : XE3) : TS3 :=
  (ifs3 (or3 (b3 (o3 neR (call3 lenR (cons3 (v3 0) nil3)) (c3 (.int 3)))) (b3 (o3 (inR true) (o3 ixR (v3 0) (c3 (.int 2))) (c3 zq0)))) (yq2 XE "NoPicture" (cons3 (c3 (.str "there is no such stroke")) nil3)) next3)
noncomputable def za6 : List Str := ["one", "other"]
noncomputable def wh6 (XE : XE3) (spx_q10 : XE3 → Sp3) : TS3 :=
  (seq3 (drop3 (call3 (spx_q10 XE) (cons3 (v3 0) nil3))) (drop3 (call3 (spx_q10 XE) (cons3 (v3 1) nil3))))
noncomputable def wz5 : List Str := ["stroke"]
noncomputable def xh6 : TS3 :=
  (seq3 (ifs3 (b3 (o3 eqR (o3 ixR (v3 0) (c3 (.int 2))) (c3 (.int 0)))) (ret3 (tup3 (cons3 (tup3 (cons3 (o3 ixR (v3 0) (c3 (.int 0))) (cons3 (o3 ixR (v3 0) (c3 (.int 1))) nil3))) (cons3 (tup3 (cons3 (o3 addR (o3 ixR (v3 0) (c3 (.int 0))) (c3 (.int 1))) (cons3 (o3 ixR (v3 0) (c3 (.int 1))) nil3))) nil3)))) next3) (ret3 (tup3 (cons3 (tup3 (cons3 (o3 ixR (v3 0) (c3 (.int 0))) (cons3 (o3 ixR (v3 0) (c3 (.int 1))) nil3))) (cons3 (tup3 (cons3 (o3 ixR (v3 0) (c3 (.int 0))) (cons3 (o3 addR (o3 ixR (v3 0) (c3 (.int 1))) (c3 (.int 1))) nil3))) nil3)))))
noncomputable def yr4 : List Str := ["point", "other", "low"]
noncomputable def ze5 : TS3 :=
  (seq3 (set3 2 (call3 minR (cons3 (v3 0) (cons3 (v3 1) nil3)))) (ret3 (tup3 (cons3 (o3 ixR (v3 2) (c3 (.int 0))) (cons3 (o3 ixR (v3 2) (c3 (.int 1))) (cons3 (if3 (b3 (o3 eqR (o3 ixR (v3 0) (c3 (.int 1))) (o3 ixR (v3 1) (c3 (.int 1))))) (c3 (.int 0)) (c3 (.int 1))) nil3))))))
noncomputable def yx5 : List Str := ["strokes"]
noncomputable def ze6 : TS3 :=
  (ret3 (call3 tupR (cons3 (yh3 (zv1 (cons3 (v3 0) nil3))) nil3)))
noncomputable def xy5 : List Str := ["picture", "x", "y"]
noncomputable def yf6 (XE : XE3) (spx_q10 : XE3 → Sp3) (sp_q22 : Sp3) : TS3 :=
  (seq3 (drop3 (call3 (spx_q10 XE) (cons3 (v3 0) nil3))) (ret3 (call3 tupR (cons3 (comp3 [none, some 1, some 2] (is3 (v3 0)) (gn3 0) tt3 (call3 sp_q22 (cons3 (v3 0) (cons3 (v3 1) (cons3 (v3 2) nil3))))) nil3))))
noncomputable def wx5 : List Str := ["stroke", "x", "y"]
noncomputable def xf6 : TS3 :=
  (ret3 (tup3 (cons3 (o3 addR (o3 ixR (v3 0) (c3 (.int 0))) (v3 1)) (cons3 (o3 addR (o3 ixR (v3 0) (c3 (.int 1))) (v3 2)) (cons3 (o3 ixR (v3 0) (c3 (.int 2))) nil3)))))
noncomputable def zw5 : List Str := ["picture", "quarters"]
noncomputable def wd6 (XE : XE3) (spx_q10 : XE3 → Sp3) (sp_q30 : Sp3) : TS3 :=
  (seq3 (drop3 (call3 (spx_q10 XE) (cons3 (v3 0) nil3))) (ret3 (call3 tupR (cons3 (call3 zv0 (cons3 (comp3 [none, some 1] (is3 (v3 0)) (gn3 0) tt3 (call3 sp_q30 (cons3 (v3 0) (cons3 (o3 modR (v3 1) (c3 (.int 4))) nil3)))) nil3)) nil3))))
noncomputable def xw5 : List Str := ["stroke", "quarters", "ends"]
noncomputable def yd6 (sp_q14 : Sp3) (sp_q27 : Sp3) (sp_q29 : Sp3) : TS3 :=
  (seq3 (set3 2 (call3 sp_q14 (cons3 (v3 0) nil3))) (ret3 (call3 sp_q27 (cons3 (call3 sp_q29 (cons3 (o3 ixR (v3 2) (c3 (.int 0))) (cons3 (v3 1) nil3))) (cons3 (call3 sp_q29 (cons3 (o3 ixR (v3 2) (c3 (.int 1))) (cons3 (v3 1) nil3))) nil3)))))
noncomputable def yw5 : List Str := ["point", "quarters", "pen"]
noncomputable def zd6 (sp_q18 : Sp3) : TS3 :=
  (seq3 (set3 2 (call3 sp_q18 (cons3 (tup3 (cons3 (c3 (.int 0)) (cons3 (c3 (.int 0)) (cons3 (v3 1) nil3)))) (cons3 (tup3 (cons3 (o3 ixR (v3 0) (c3 (.int 0))) (cons3 (o3 ixR (v3 0) (c3 (.int 1))) (cons3 (c3 (.int 0)) nil3)))) nil3)))) (ret3 (tup3 (cons3 (o3 ixR (v3 2) (c3 (.int 0))) (cons3 (o3 ixR (v3 2) (c3 (.int 1))) nil3)))))
noncomputable def zy5 : List Str := ["picture"]
noncomputable def wf6 (XE : XE3) (spx_q10 : XE3 → Sp3) (sp_q20 : Sp3) : TS3 :=
  (seq3 (drop3 (call3 (spx_q10 XE) (cons3 (v3 0) nil3))) (ret3 (call3 tupR (cons3 (call3 zv0 (cons3 (comp3 [none] (is3 (v3 0)) (gn3 0) tt3 (call3 sp_q20 (cons3 (v3 0) nil3))) nil3)) nil3))))
noncomputable def yy5 : List Str := ["stroke", "ends"]
noncomputable def zf6 (sp_q14 : Sp3) (sp_q27 : Sp3) : TS3 :=
  (seq3 (set3 1 (call3 sp_q14 (cons3 (v3 0) nil3))) (ret3 (call3 sp_q27 (cons3 (tup3 (cons3 (un3 negR (o3 ixR (o3 ixR (v3 1) (c3 (.int 0))) (c3 (.int 0)))) (cons3 (o3 ixR (o3 ixR (v3 1) (c3 (.int 0))) (c3 (.int 1))) nil3))) (cons3 (tup3 (cons3 (un3 negR (o3 ixR (o3 ixR (v3 1) (c3 (.int 1))) (c3 (.int 0)))) (cons3 (o3 ixR (o3 ixR (v3 1) (c3 (.int 1))) (c3 (.int 1))) nil3))) nil3)))))
noncomputable def N_q9 : List Str := ["one", "other"]
noncomputable def t_q9 (XE : XE3) (spx_q11 : XE3 → Sp3) (sp_q24 : Sp3) : TS3 :=
  (seq3 (drop3 (call3 (spx_q11 XE) (cons3 (v3 0) (cons3 (v3 1) nil3)))) (ret3 (call3 sp_q24 (cons3 (o3 addR (v3 0) (v3 1)) nil3))))
noncomputable def xa6 : List Str := ["one", "other"]
noncomputable def yh6 (XE : XE3) (spx_q11 : XE3 → Sp3) : TS3 :=
  (seq3 (drop3 (call3 (spx_q11 XE) (cons3 (v3 0) (cons3 (v3 1) nil3)))) (ret3 (call3 tupR (cons3 (yh3 (sop3 (fun p q => p ∧ q) (zv1 (cons3 (v3 0) nil3)) (zv1 (cons3 (v3 1) nil3)))) nil3))))
noncomputable def wv5 : List Str := ["one", "other"]
noncomputable def xd6 (XE : XE3) (spx_q11 : XE3 → Sp3) : TS3 :=
  (seq3 (drop3 (call3 (spx_q11 XE) (cons3 (v3 0) (cons3 (v3 1) nil3)))) (ret3 (call3 tupR (cons3 (yh3 (sop3 (fun p q => p ∧ ¬ q) (zv1 (cons3 (v3 0) nil3)) (zv1 (cons3 (v3 1) nil3)))) nil3))))
noncomputable def zx5 : List Str := ["one", "other", "parting"]
noncomputable def we6 (XE : XE3) (spx_q11 : XE3 → Sp3) : TS3 :=
  (seq3 (drop3 (call3 (spx_q11 XE) (cons3 (v3 0) (cons3 (v3 1) nil3)))) (seq3 (set3 2 (yh3 (sop3 (fun p q => (p ∧ ¬ q) ∨ (q ∧ ¬ p)) (zv1 (cons3 (v3 0) nil3)) (zv1 (cons3 (v3 1) nil3))))) (seq3 (ifs3 (b3 (o3 eqR (call3 lenR (cons3 (v3 2) nil3)) (c3 (.int 0)))) (ret3 (c3 .non)) next3) (ret3 (o3 ixR (v3 2) (c3 (.int 0)))))))
noncomputable def zz5 : List Str := ["picture", "ways", "laying", "shift"]
noncomputable def wg6 (XE : XE3) (spx_q10 : XE3 → Sp3) (spx_q16 : XE3 → Sp3) (spx_q26 : XE3 → Sp3) : TS3 :=
  (seq3 (drop3 (call3 (spx_q10 XE) (cons3 (v3 0) nil3))) (seq3 (set3 1 (lst3 nil3)) (seq3 (for3 (is3 (c3 wo0)) (gn3 2) (seq3 (set3 3 (call3 (spx_q26 XE) (cons3 (call3 (spx_q16 XE) (cons3 (v3 0) (cons3 (v3 2) nil3))) (cons3 (v3 0) nil3)))) (ifs3 (b3 (o3 (isNR true) (v3 3) (c3 .non))) (drop3 (mt3 appR (v3 1) (cons3 (tup3 (cons3 (o3 ixR (v3 2) (c3 (.int 0))) (cons3 (o3 ixR (v3 2) (c3 (.int 1))) (cons3 (o3 ixR (v3 3) (c3 (.int 0))) (cons3 (o3 ixR (v3 3) (c3 (.int 1))) nil3))))) nil3))) next3))) (ret3 (v3 1)))))
noncomputable def xx5 : List Str := ["one", "other"]
noncomputable def ye6 (XE : XE3) (spx_q11 : XE3 → Sp3) (spx_q16 : XE3 → Sp3) (spx_q26 : XE3 → Sp3) : TS3 :=
  (seq3 (drop3 (call3 (spx_q11 XE) (cons3 (v3 0) (cons3 (v3 1) nil3)))) (ret3 (call3 anyR (cons3 (comp3 [none, some 1, some 0] (is3 (c3 wo0)) (gn3 0) tt3 (o3 (isNR true) (call3 (spx_q26 NX) (cons3 (call3 (spx_q16 NX) (cons3 (v3 2) (cons3 (v3 0) nil3))) (cons3 (v3 1) nil3))) (c3 .non))) nil3))))
noncomputable def yz5 : List Str := ["picture", "laying"]
noncomputable def zg6 (XE : XE3) (spx_q19 : XE3 → Sp3) (spx_q28 : XE3 → Sp3) : TS3 :=
  (seq3 (ifs3 (b3 (o3 eqR (o3 ixR (v3 1) (c3 (.int 0))) (c3 (.int 1)))) (ret3 (call3 (spx_q28 XE) (cons3 (call3 (spx_q19 XE) (cons3 (v3 0) nil3)) (cons3 (o3 ixR (v3 1) (c3 (.int 1))) nil3)))) next3) (ret3 (call3 (spx_q28 XE) (cons3 (v3 0) (cons3 (o3 ixR (v3 1) (c3 (.int 1))) nil3)))))
noncomputable def ww5 : List Str := ["one", "other", "shift"]
noncomputable def xe6 (XE : XE3) (spx_q21 : XE3 → Sp3) : TS3 :=
  (seq3 (ifs3 (b3 (o3 neR (call3 lenR (cons3 (v3 0) nil3)) (call3 lenR (cons3 (v3 1) nil3)))) (ret3 (c3 .non)) next3) (seq3 (ifs3 (b3 (o3 eqR (call3 lenR (cons3 (v3 0) nil3)) (c3 (.int 0)))) (ret3 (tup3 (cons3 (c3 (.int 0)) (cons3 (c3 (.int 0)) nil3)))) next3) (seq3 (set3 2 (tup3 (cons3 (o3 subR (o3 ixR (o3 ixR (v3 1) (c3 (.int 0))) (c3 (.int 0))) (o3 ixR (o3 ixR (v3 0) (c3 (.int 0))) (c3 (.int 0)))) (cons3 (o3 subR (o3 ixR (o3 ixR (v3 1) (c3 (.int 0))) (c3 (.int 1))) (o3 ixR (o3 ixR (v3 0) (c3 (.int 0))) (c3 (.int 1)))) nil3)))) (seq3 (ifs3 (b3 (o3 neR (call3 (spx_q21 XE) (cons3 (v3 0) (cons3 (o3 ixR (v3 2) (c3 (.int 0))) (cons3 (o3 ixR (v3 2) (c3 (.int 1))) nil3)))) (v3 1))) (ret3 (c3 .non)) next3) (ret3 (v3 2))))))
noncomputable def N_q2 : List Str := ["script", "k"]
noncomputable def t_q2 : TS3 :=
  (seq3 (ifs3 (b3 (o3 ltR (v3 1) (call3 lenR (cons3 (v3 0) nil3)))) (ret3 (o3 ixR (v3 0) (v3 1))) next3) (ret3 (c3 (.int 0))))
noncomputable def N_q7 : List Str := ["script", "k", "cell"]
noncomputable def t_q7 (sp_q2 : Sp3) : TS3 :=
  (seq3 (set3 2 (call3 sp_q2 (cons3 (v3 0) (cons3 (v3 1) nil3)))) (seq3 (ifs3 (b3 (o3 ge3R (v3 2) (o3 powR (c3 (.int 10)) (c3 (.int 18))))) (ret3 (lst3 (cons3 (o3 subR (v3 2) (o3 powR (c3 (.int 10)) (c3 (.int 18)))) (cons3 (c3 (.bl true)) nil3)))) next3) (ret3 (lst3 (cons3 (o3 modR (v3 2) (c3 (.int 2147483647))) (cons3 (c3 (.bl false)) nil3))))))
noncomputable def N_q3 : List Str := ["state", "many", "found", "mixed"]
noncomputable def t_q3 : TS3 :=
  (seq3 (ifs3 (b3 (o3 ixR (v3 0) (c3 (.int 1)))) (seq3 (set3 2 (o3 modR (o3 ixR (v3 0) (c3 (.int 0))) (v3 1))) (seq3 (asg3 (o3 fdivR (o3 ixR (v3 0) (c3 (.int 0))) (v3 1)) (sub3 (v3 0) (c3 (.int 0)))) (ret3 (v3 2)))) next3) (seq3 (asg3 (o3 modR (o3 addR (o3 mulR (o3 ixR (v3 0) (c3 (.int 0))) (c3 (.int 48271))) (c3 (.int 29))) (c3 (.int 2147483647))) (sub3 (v3 0) (c3 (.int 0)))) (seq3 (set3 3 (o3 modR (o3 addR (o3 addR (o3 mulR (o3 ixR (v3 0) (c3 (.int 0))) (o3 ixR (v3 0) (c3 (.int 0)))) (o3 mulR (c3 (.int 39373)) (o3 ixR (v3 0) (c3 (.int 0))))) (c3 (.int 7))) (c3 (.int 2147483629)))) (seq3 (set3 3 (o3 modR (o3 addR (o3 mulR (v3 3) (v3 3)) (o3 mulR (c3 (.int 16807)) (v3 3))) (c3 (.int 2147483587)))) (ret3 (o3 modR (o3 fdivR (v3 3) (c3 (.int 8))) (v3 1)))))))
noncomputable def N_q5 : List Str := ["state", "most", "found", "x", "y", "wide", "k"]
noncomputable def xm0 (sp_q3 : Sp3) : TS3 :=
  (ret3 (call3 tupR (cons3 (call3 zv0 (cons3 (v3 2) nil3)) nil3)))
noncomputable def xv0 (sp_q3 : Sp3) : TS3 :=
  (seq3 (for3 (ir3 (cons3 (call3 sp_q3 (cons3 (v3 0) (cons3 (o3 addR (v3 1) (c3 (.int 1))) nil3))) nil3)) (gn3 6) (seq3 (ifs3 (b3 (o3 eqR (call3 sp_q3 (cons3 (v3 0) (cons3 (c3 (.int 3)) nil3))) (c3 (.int 0)))) (seq3 (set3 3 (o3 subR (call3 sp_q3 (cons3 (v3 0) (cons3 (v3 5) nil3))) (c3 (.int 2)))) (set3 4 (o3 subR (call3 sp_q3 (cons3 (v3 0) (cons3 (v3 5) nil3))) (c3 (.int 2))))) next3) (seq3 (xt5 (v3 2) (cons3 (v3 3) (cons3 (v3 4) (cons3 (call3 sp_q3 (cons3 (v3 0) (cons3 (c3 (.int 2)) nil3))) nil3))) (c3 (.bl true))) (seq3 (set3 3 (o3 addR (v3 3) (o3 ixR (lst3 (cons3 (c3 (.int 1)) (cons3 (c3 (.int 0)) (cons3 (un3 negR (c3 (.int 1))) (cons3 (c3 (.int 0)) nil3))))) (call3 sp_q3 (cons3 (v3 0) (cons3 (c3 (.int 4)) nil3)))))) (set3 4 (o3 addR (v3 4) (o3 ixR (lst3 (cons3 (c3 (.int 0)) (cons3 (c3 (.int 1)) (cons3 (c3 (.int 0)) (cons3 (un3 negR (c3 (.int 1))) nil3))))) (call3 sp_q3 (cons3 (v3 0) (cons3 (c3 (.int 4)) nil3)))))))))) (xm0 sp_q3))
noncomputable def yv0 (sp_q3 : Sp3) : TS3 :=
  (seq3 (set3 5 (o3 addR (c3 (.int 1)) (call3 sp_q3 (cons3 (v3 0) (cons3 (c3 (.int 5)) nil3))))) (xv0 sp_q3))
noncomputable def wh0 (sp_q3 : Sp3) : TS3 :=
  (seq3 (asg3 (tup3 (cons3 (c3 (.int 0)) (cons3 (c3 (.int 0)) nil3))) (gtup3 2 (gcons3 (gn3 3) (gcons3 (gn3 4) gnil3)))) (yv0 sp_q3))
noncomputable def t_q5 (sp_q3 : Sp3) : TS3 :=
  (seq3 (set3 2 zo7) (wh0 sp_q3))
noncomputable def N_q0 : List Str := ["state", "good", "far", "at", "kind", "spot", "bad"]
noncomputable def wn0 (sp_q3 : Sp3) (sp_q5 : Sp3) : TS3 :=
  (ret3 (call3 tupR (cons3 (o3 addR (o3 addR (sl3 slR (v3 1) np3 (pt3 (v3 3))) (lst3 (cons3 (v3 6) nil3))) (sl3 slR (v3 1) (pt3 (v3 3)) np3)) nil3)))
noncomputable def xj0 (sp_q3 : Sp3) (sp_q5 : Sp3) : TS3 :=
  (seq3 (set3 6 (o3 ixR (lst3 (cons3 (tup3 (cons3 (c3 (.int 0)) (cons3 (c3 (.int 0)) (cons3 (c3 (.int 2)) nil3)))) (cons3 (tup3 (cons3 (c3 (.int 0)) (cons3 (c3 (.int 0)) (cons3 (un3 negR (c3 (.int 1))) nil3)))) (cons3 (tup3 (cons3 (c3 (.int 0)) (cons3 (c3 (.int 0)) nil3))) (cons3 (tup3 (cons3 (c3 (.int 0)) (cons3 (c3 (.int 0)) (cons3 (c3 (.int 0)) (cons3 (c3 (.int 0)) nil3))))) (cons3 (tup3 nil3) (cons3 (tup3 (cons3 (c3 (.int 0)) (cons3 (c3 (.int 0)) (cons3 (v3 2) nil3)))) (cons3 (tup3 (cons3 (v3 2) (cons3 (v3 2) (cons3 (o3 subR (c3 (.int 0)) (v3 2)) nil3)))) nil3)))))))) (call3 sp_q3 (cons3 (v3 0) (cons3 (c3 (.int 7)) nil3))))) (wn0 sp_q3 sp_q5))
noncomputable def yj0 (sp_q3 : Sp3) (sp_q5 : Sp3) : TS3 :=
  (seq3 (ifs3 (and3 (b3 (o3 eqR (v3 4) (c3 (.int 1)))) (b3 (o3 gtR (call3 lenR (cons3 (v3 1) nil3)) (c3 (.int 0))))) (seq3 (set3 5 (o3 modR (v3 3) (call3 lenR (cons3 (v3 1) nil3)))) (ret3 (call3 tupR (cons3 (o3 addR (sl3 slR (v3 1) np3 (pt3 (o3 addR (v3 5) (c3 (.int 1))))) (sl3 slR (v3 1) (pt3 (v3 5)) np3)) nil3)))) next3) (xj0 sp_q3 sp_q5))
noncomputable def zj0 (sp_q3 : Sp3) (sp_q5 : Sp3) : TS3 :=
  (seq3 (ifs3 (and3 (b3 (o3 eqR (v3 4) (c3 (.int 0)))) (b3 (o3 gtR (call3 lenR (cons3 (v3 1) nil3)) (c3 (.int 1))))) (seq3 (set3 5 (o3 modR (v3 3) (o3 subR (call3 lenR (cons3 (v3 1) nil3)) (c3 (.int 1))))) (seq3 (asg3 (tup3 (cons3 (o3 ixR (v3 1) (o3 addR (v3 5) (c3 (.int 1)))) (cons3 (o3 ixR (v3 1) (v3 5)) nil3))) (gtup3 2 (gcons3 (sub3 (v3 1) (v3 5)) (gcons3 (sub3 (v3 1) (o3 addR (v3 5) (c3 (.int 1)))) gnil3)))) (ret3 (call3 tupR (cons3 (v3 1) nil3))))) next3) (yj0 sp_q3 sp_q5))
noncomputable def xo0 (sp_q3 : Sp3) (sp_q5 : Sp3) : TS3 :=
  (seq3 (set3 4 (call3 sp_q3 (cons3 (v3 0) (cons3 (c3 (.int 4)) nil3)))) (zj0 sp_q3 sp_q5))
noncomputable def yo0 (sp_q3 : Sp3) (sp_q5 : Sp3) : TS3 :=
  (seq3 (set3 3 (call3 sp_q3 (cons3 (v3 0) (cons3 (o3 addR (call3 lenR (cons3 (v3 1) nil3)) (c3 (.int 1))) nil3)))) (xo0 sp_q3 sp_q5))
noncomputable def zo0 (sp_q3 : Sp3) (sp_q5 : Sp3) : TS3 :=
  (seq3 (set3 2 (o3 addR (c3 (.int 2)) (o3 mulR (call3 sp_q3 (cons3 (v3 0) (cons3 (o3 powR (c3 (.int 10)) (c3 (.int 9))) nil3))) (o3 powR (c3 (.int 10)) (c3 (.int 12)))))) (yo0 sp_q3 sp_q5))
noncomputable def t_q0 (sp_q3 : Sp3) (sp_q5 : Sp3) : TS3 :=
  (seq3 (set3 1 (call3 xq5 (cons3 (call3 sp_q5 (cons3 (v3 0) (cons3 (c3 (.int 8)) nil3))) nil3))) (zo0 sp_q3 sp_q5))
noncomputable def N_q4 : List Str := ["e", "marks"]
noncomputable def t_q4 : TS3 :=
  (seq3 (set3 1 (lst3 (cons3 (isx3 (v3 0) (subX "NoWord")) (cons3 (isx3 (v3 0) (subX "NoRoom")) (cons3 (isx3 (v3 0) (subX "NoStep")) (cons3 (isx3 (v3 0) (subX "NoPicture")) nil3)))))) (ret3 (o3 addR (v3 1) (lst3 (cons3 (isx3 (v3 0) (subX "NoNumber")) (cons3 (isx3 (v3 0) (subX "BadNote")) (cons3 (isx3 (v3 0) (subX "ValueError")) nil3)))))))
noncomputable def N_q6 : List Str := ["marks", "which"]
noncomputable def t_q6 : TS3 :=
  (ret3 (o3 eqR (v3 0) (o3 addR (comp3 [none, some 1] (ir3 (cons3 (c3 (.int 6)) nil3)) (gn3 0) tt3 (o3 eqR (v3 0) (v3 1))) (lst3 (cons3 (c3 (.bl true)) nil3)))))
noncomputable def N_q1 : List Str := ["way", "one", "other"]
noncomputable def t_q1 (XE : XE3) (spx_q9 : XE3 → Sp3) (spx_q13 : XE3 → Sp3) (spx_q15 : XE3 → Sp3) (spx_q19 : XE3 → Sp3) (spx_q21 : XE3 → Sp3) (spx_q23 : XE3 → Sp3) (spx_q25 : XE3 → Sp3) (spx_q28 : XE3 → Sp3) (spx_q31 : XE3 → Sp3) : TS3 :=
  (ifs3 (b3 (o3 eqR (v3 0) (c3 (.int 0)))) (drop3 (call3 (spx_q21 XE) (cons3 (v3 1) (cons3 (c3 (.int 1)) (cons3 (c3 (.int 2)) nil3))))) (ifs3 (b3 (o3 eqR (v3 0) (c3 (.int 1)))) (drop3 (call3 (spx_q28 XE) (cons3 (v3 1) (cons3 (c3 (.int 0)) nil3)))) (ifs3 (b3 (o3 eqR (v3 0) (c3 (.int 2)))) (drop3 (call3 (spx_q19 XE) (cons3 (v3 1) nil3))) (ifs3 (b3 (o3 eqR (v3 0) (c3 (.int 3)))) (drop3 (call3 (spx_q15 XE) (cons3 (v3 1) nil3))) (ifs3 (b3 (o3 eqR (v3 0) (c3 (.int 4)))) (drop3 (call3 (spx_q9 XE) (cons3 (v3 1) (cons3 (v3 2) nil3)))) (ifs3 (b3 (o3 eqR (v3 0) (c3 (.int 5)))) (drop3 (call3 (spx_q13 XE) (cons3 (v3 1) (cons3 (v3 2) nil3)))) (ifs3 (b3 (o3 eqR (v3 0) (c3 (.int 6)))) (drop3 (call3 (spx_q31 XE) (cons3 (v3 1) (cons3 (v3 2) nil3)))) (ifs3 (b3 (o3 eqR (v3 0) (c3 (.int 7)))) (drop3 (call3 (spx_q23 XE) (cons3 (v3 1) (cons3 (v3 2) nil3)))) (drop3 (call3 (spx_q25 XE) (cons3 (v3 1) (cons3 (v3 2) nil3))))))))))))
noncomputable def N_q8 : List Str := ["way", "one", "other", "marks", "e"]
noncomputable def t_q8 (spx_q1 : XE3 → Sp3) (sp_q4 : Sp3) : TS3 :=
  (seq3 (set3 3 (lst3 nil3)) (seq3 (try3 4 spx_q1 wy4 okX (cons3 (v3 0) (cons3 (v3 1) (cons3 (v3 2) nil3))) (set3 3 (call3 sp_q4 (cons3 (v3 4) nil3)))) (ret3 (v3 3))))
noncomputable def xz5 : List Str := ["script", "good", "bad", "way"]
noncomputable def yd4 (sp_q0 : Sp3) (sp_q5 : Sp3) (sp_q6 : Sp3) (sp_q7 : Sp3) (sp_q8 : Sp3) : TS3 :=
  (ret3 (c3 (.bl true)))
noncomputable def zd4 (sp_q0 : Sp3) (sp_q5 : Sp3) (sp_q6 : Sp3) (sp_q7 : Sp3) (sp_q8 : Sp3) : TS3 :=
  (seq3 (for3 (ir3 (cons3 (c3 (.int 9)) nil3)) (gn3 3) (seq3 (ifs3 (or3 (not3 (b3 (call3 sp_q6 (cons3 (call3 sp_q8 (cons3 (v3 3) (cons3 (v3 2) (cons3 (v3 1) nil3)))) (cons3 (c3 (.int 3)) nil3))))) (b3 (o3 neR (call3 sp_q8 (cons3 (v3 3) (cons3 (v3 1) (cons3 (v3 1) nil3)))) (lst3 nil3)))) (ret3 (c3 (.bl false))) next3) (ifs3 (and3 (b3 (o3 gtR (v3 3) (c3 (.int 3)))) (not3 (b3 (call3 sp_q6 (cons3 (call3 sp_q8 (cons3 (v3 3) (cons3 (v3 1) (cons3 (v3 2) nil3)))) (cons3 (c3 (.int 3)) nil3)))))) (ret3 (c3 (.bl false))) next3))) (yd4 sp_q0 sp_q5 sp_q6 sp_q7 sp_q8))
noncomputable def wd4 (sp_q0 : Sp3) (sp_q5 : Sp3) (sp_q6 : Sp3) (sp_q7 : Sp3) (sp_q8 : Sp3) : TS3 :=
  (seq3 (set3 2 (call3 sp_q0 (cons3 (call3 sp_q7 (cons3 (v3 0) (cons3 (c3 (.int 1)) nil3))) nil3))) (zd4 sp_q0 sp_q5 sp_q6 sp_q7 sp_q8))
noncomputable def yg6 (sp_q0 : Sp3) (sp_q5 : Sp3) (sp_q6 : Sp3) (sp_q7 : Sp3) (sp_q8 : Sp3) : TS3 :=
  (seq3 (set3 1 (call3 sp_q5 (cons3 (call3 sp_q7 (cons3 (v3 0) (cons3 (c3 (.int 0)) nil3))) (cons3 (c3 (.int 8)) nil3)))) (wd4 sp_q0 sp_q5 sp_q6 sp_q7 sp_q8))
end Pv

namespace Pv
open PySem Mw
theorem kn_go_jump : ((("go" : Str) = ("jump" : Str)) = False) := eq_false (by decide)
theorem kn_go_turn : ((("go" : Str) = ("turn" : Str)) = False) := eq_false (by decide)
theorem kn_go_times : ((("go" : Str) = ("times" : Str)) = False) := eq_false (by decide)
theorem kn_jump_go : ((("jump" : Str) = ("go" : Str)) = False) := eq_false (by decide)
theorem kn_jump_turn : ((("jump" : Str) = ("turn" : Str)) = False) := eq_false (by decide)
theorem kn_jump_times : ((("jump" : Str) = ("times" : Str)) = False) := eq_false (by decide)
theorem kn_turn_go : ((("turn" : Str) = ("go" : Str)) = False) := eq_false (by decide)
theorem kn_turn_jump : ((("turn" : Str) = ("jump" : Str)) = False) := eq_false (by decide)
theorem kn_turn_times : ((("turn" : Str) = ("times" : Str)) = False) := eq_false (by decide)
theorem kn_times_go : ((("times" : Str) = ("go" : Str)) = False) := eq_false (by decide)
theorem kn_times_jump : ((("times" : Str) = ("jump" : Str)) = False) := eq_false (by decide)
theorem kn_times_turn : ((("times" : Str) = ("turn" : Str)) = False) := eq_false (by decide)
theorem kp_go : (["go", "jump", "turn"] : List Str).contains "go" = true := by decide
theorem kp_jump : (["go", "jump", "turn"] : List Str).contains "jump" = true := by decide
theorem kp_turn : (["go", "jump", "turn"] : List Str).contains "turn" = true := by decide
theorem kp_times : (["go", "jump", "turn"] : List Str).contains "times" = false := by decide
theorem kz_go : (["go", "times"] : List Str).contains "go" = true := by decide
theorem kz_jump : (["go", "times"] : List Str).contains "jump" = false := by decide
theorem kz_turn : (["go", "times"] : List Str).contains "turn" = false := by decide
theorem kz_times : (["go", "times"] : List Str).contains "times" = true := by decide
theorem cst0 : ((0 : Nat) : Int) = 0 := rfl
theorem cst1 : ((1 : Nat) : Int) = 1 := rfl
theorem cst2 : ((2 : Nat) : Int) = 2 := rfl
theorem cst3 : ((3 : Nat) : Int) = 3 := rfl
local macro_rules | `(tactic| simp_arith [$xs,*] $[$l]?) => `(tactic| simp only [$xs,*, Pv.seq3, Pv.next3, Pv.never3, Pv.brk3, Pv.cnt3, Pv.drop3, Pv.ret3, Pv.retN3, Pv.ifs3, Pv.gn3, Pv.gnil3, Pv.gcons3, Pv.gtup3, Pv.set3, Pv.asg3, Pv.par3, Pv.sub3, Pv.for3, Pv.is3, Pv.ir3, Pv.ir23, Pv.v3, Pv.c3, Pv.o3, Pv.un3, Pv.b3, Pv.and3, Pv.or3, Pv.not3, Pv.andV3, Pv.orV3, Pv.notV3, Pv.if3, Pv.nil3, Pv.cons3, Pv.tup3, Pv.lst3, Pv.call3, Pv.mt3, Pv.comp3, Pv.tt3, Pv.getI, List.set_cons_zero, List.set_cons_succ, Pv.int2, Pv.int20, Pv.subR, Pv.mulR, Pv.intR, Pv.sl3, Pv.np3, Pv.pt3, Pv.slR, Pv.modR, Pv.fdivR, Pv.powR, Pv.ltR, Pv.leR, Pv.gtR, Pv.geR, Pv.negR, Pv.addR, Pv.eqR_ii, Pv.eqR_ss, Pv.eqR_bb, Pv.eqR_is, Pv.neR_ii, Pv.neR_ss, Pv.neR_bb, Pv.inR, Pv.ixR, Pv.lenR, Pv.absR, Pv.tupR, Pv.sumR, Pv.tyN, Pv.isIn, Pv.isiR, Pv.appR, Pv.extR, Pv.smt3, Pv.joinR, Pv.splitR, Pv.startsR, Pv.pop3, Pv.lrev3, Pv.strR, Pv.start3, List.map_cons, List.map_nil, List.cons_append, List.nil_append, List.length_cons, List.length_nil, List.replicate, Pv.atI0, Pv.atI1, Pv.atI2, Nat.reduceAdd, Nat.reduceSub, Nat.zero_add, reduceIte, Pv.strs?, Bool.not_true, Bool.not_false, Bool.false_eq_true, if_false, if_true, decide_eq_true_eq, Bool.not_eq_true', decide_eq_false_iff_not, Pv.ixN0, Pv.ixN1, Pv.ixN2, true_and, and_true, Pv.cst0, Pv.cst1, Pv.cst2, Pv.cst3, Int.reduceEq, Option.bind_none, Option.bind_some, Pv.kn_go_jump, Pv.kn_go_turn, Pv.kn_go_times, Pv.kn_jump_go, Pv.kn_jump_turn, Pv.kn_jump_times, Pv.kn_turn_go, Pv.kn_turn_jump, Pv.kn_turn_times, Pv.kn_times_go, Pv.kn_times_jump, Pv.kn_times_turn, Pv.kp_go, Pv.kp_jump, Pv.kp_turn, Pv.kp_times, Pv.kz_go, Pv.kz_jump, Pv.kz_turn, Pv.kz_times] $[$l]?)
noncomputable def wy (s : T3) : Prop := s.2.2 = 0 ∨ s.2.2 = 1
noncomputable def gx (s : T3) : Int := s.1 + 1 - s.2.2
noncomputable def gy (s : T3) : Int := s.2.1 + s.2.2
noncomputable def encQ (p : Int × Int) : D := .tup [.int p.1, .int p.2]
noncomputable def decT (d : D) : T3 := (t3? d).getD (0, 0, 0)
noncomputable def encP (p : Pen) : D := .tup [.int p.1, .int p.2.1, .int p.2.2]
noncomputable def yg5 : Sp3 := fun ds μ Q => ∃ p q, ds = [encP p, encP q] ∧ Hd p ∧ Q (encP (led p q)) μ
theorem xr4 {h : Int} (hd : h = 0 ∨ h = 1 ∨ h = 2 ∨ h = 3) : atI [D.tup [D.int 1, D.int 0], D.tup [D.int 0, D.int 1], D.tup [D.int (-1), D.int 0], D.tup [D.int 0, D.int (-1)]] h = some (.tup [.int (cs h), .int (sn h)]) := by
  rcases hd with rfl | rfl | rfl | rfl <;> rfl
theorem xu2 (h : Int) : -(2 ^ 64) < cs h ∧ cs h < 2 ^ 64 := by unfold cs; split <;> (try split) <;> decide
theorem xo2 (h : Int) : -(2 ^ 64) < sn h ∧ sn h < 2 ^ 64 := by unfold sn; split <;> (try split) <;> decide
theorem wq5 {l : List D} {i : Int} {d : D} {μ : Mu} {Q : VK3} (e : atI l i = some d) (h : Q d μ) : ixR (.tup l) (.int i) μ Q := by
  unfold ixR
  simp only [e]
  exact h
theorem yy6 (ds : List D) (μ : Mu) (Q : VK3) (h : yg5 ds μ Q) : xg6 { nx := fun _ μ' => Q .non μ', rt := Q } (start3 wy5 ds) μ := by
  obtain ⟨p, q, rfl, hp, k⟩ := h
  have c1 : CMul q.1 (cs p.2.2) := .inl (.inr (xu2 _))
  have c2 : CMul q.2.1 (sn p.2.2) := .inl (.inr (xo2 _))
  have c3 : CMul q.1 (sn p.2.2) := .inl (.inr (xo2 _))
  have c4 : CMul q.2.1 (cs p.2.2) := .inl (.inr (xu2 _))
  have d1 : (0 : Int) < 4 := by decide
  have d2 : 3 ≤ sizeLine := by decide
  show ixR yq1 (.int p.2.2) μ (fun d μ1 => _)
  refine wq5 (xr4 hp) ?_
  exact And.intro c1 (And.intro c2 (And.intro c3 (And.intro c4 (And.intro d1 (And.intro d2 k)))))
theorem z2 : 2 ≤ sizeLine := by decide
theorem z3 : 3 ≤ sizeLine := by decide
noncomputable def wn2 : Sp3 := fun ds μ Q => ∃ s, ds = [encT s] ∧ wy s ∧ Q (.tup [encQ (s.1, s.2.1), encQ (gx s, gy s)]) μ
theorem yz6 (ds : List D) (μ : Mu) (Q : VK3) (h : wn2 ds μ Q) : xh6 { nx := fun _ μ' => Q .non μ', rt := Q } (start3 wz5 ds) μ := by
  obtain ⟨⟨x, y, w⟩, rfl, hw, q⟩ := h
  rcases hw with e | e
  · dsimp only at e; subst e
    simp only [gx, gy, Int.sub_zero, Int.add_zero] at q
    exact ⟨z2, z2, z2, q⟩
  · dsimp only at e; subst e
    simp only [gx, gy, Int.add_sub_cancel] at q
    exact ⟨z2, z2, z2, q⟩
noncomputable def Lt (a b : T3) : Prop := lt3 a b = true
noncomputable def Pc (ts : List T3) : Prop := ts.Pairwise Lt ∧ (∀ t ∈ ts, wy t) ∧ ts.length < 60
theorem wu1 {ts : List T3} {i : Int} (h0 : 0 ≤ i) (h1 : i < ts.length) : ∃ h : i.toNat < ts.length, atI (ts.map encT) i = some (encT ts[i.toNat]) := by
  have h2 : i.toNat < ts.length := by omega
  refine ⟨h2, ?_⟩
  unfold atI ixN
  rw [if_pos h0, if_pos (by rw [List.length_map]; omega)]
  simp [List.getElem?_eq_getElem h2]
noncomputable def mnP (p q : Int × Int) : Int × Int := if ltP q.1 q.2 p.1 p.2 = true then q else p
noncomputable def mxP (p q : Int × Int) : Int × Int := if ltP p.1 p.2 q.1 q.2 = true then q else p
noncomputable def btw (p q : Int × Int) : T3 := ((mnP p q).1, (mnP p q).2, if p.2 = q.2 then 0 else 1)
noncomputable def ze4 : Sp3 := fun ds μ Q => ∃ p q, ds = [encQ p, encQ q] ∧ Q (encT (btw p q)) μ
theorem zi7 (p q : Int × Int) (μ : Mu) (K : VK3) : minR [.tup [.int p.1, .int p.2], .tup [.int q.1, .int q.2]] μ K = K (encQ (mnP p q)) μ := by
  unfold mnP
  show K (if ltP q.1 q.2 p.1 p.2 then .tup [.int q.1, .int q.2] else .tup [.int p.1, .int p.2]) μ = _
  split <;> rfl
theorem xw6 (ds : List D) (μ : Mu) (Q : VK3) (h : ze4 ds μ Q) : ze5 { nx := fun _ μ' => Q .non μ', rt := Q } (start3 yr4 ds) μ := by
  obtain ⟨p, q, rfl, k⟩ := h
  unfold btw at k
  simp_arith [ze5, yr4, encQ, zi7]
  by_cases c : p.2 = q.2
  · rw [if_pos c] at k ⊢; exact ⟨z3, k⟩
  · rw [if_neg c] at k ⊢; exact ⟨z3, k⟩
noncomputable def mv (x y : Int) (s : T3) : T3 := (s.1 + x, s.2.1 + y, s.2.2)
noncomputable def xg5 : Sp3 := fun ds μ Q => ∃ s x y, ds = [encT s, .int x, .int y] ∧ Q (encT (mv x y s)) μ
theorem yx6 (ds : List D) (μ : Mu) (Q : VK3) (h : xg5 ds μ Q) : xf6 { nx := fun _ μ' => Q .non μ', rt := Q } (start3 wx5 ds) μ := by
  obtain ⟨s, x, y, rfl, q⟩ := h
  exact ⟨z3, q⟩
noncomputable def tp (q : Int) (p : Int × Int) : Int × Int := ((led (0, 0, q) (p.1, p.2, 0)).1, (led (0, 0, q) (p.1, p.2, 0)).2.1)
noncomputable def spTp : Sp3 := fun ds μ Q => ∃ p q, ds = [encQ p, .int q] ∧ (q = 0 ∨ q = 1 ∨ q = 2 ∨ q = 3) ∧ Q (encQ (tp q p)) μ
theorem zv6 (ds : List D) (μ : Mu) (Q : VK3) (h : spTp ds μ Q) : zd6 yg5 { nx := fun _ μ' => Q .non μ', rt := Q } (start3 yw5 ds) μ := by
  obtain ⟨p, q, rfl, hq, k⟩ := h
  exact ⟨z3, z3, (0, 0, q), (p.1, p.2, 0), rfl, hq, z2, k⟩
noncomputable def tS (q : Int) (s : T3) : T3 := btw (tp q (s.1, s.2.1)) (tp q (gx s, gy s))
noncomputable def spTs : Sp3 := fun ds μ Q => ∃ s q, ds = [encT s, .int q] ∧ wy s ∧ (q = 0 ∨ q = 1 ∨ q = 2 ∨ q = 3) ∧ Q (encT (tS q s)) μ
theorem yv6 (ds : List D) (μ : Mu) (Q : VK3) (h : spTs ds μ Q) : yd6 wn2 ze4 spTp { nx := fun _ μ' => Q .non μ', rt := Q } (start3 xw5 ds) μ := by
  obtain ⟨s, q, rfl, hw, hq, k⟩ := h
  exact ⟨s, rfl, hw, _, q, rfl, hq, _, q, rfl, hq, _, _, rfl, k⟩
noncomputable def mS (s : T3) : T3 := btw (-s.1, s.2.1) (-(gx s), gy s)
noncomputable def spMs : Sp3 := fun ds μ Q => ∃ s, ds = [encT s] ∧ wy s ∧ Q (encT (mS s)) μ
theorem wx6 (ds : List D) (μ : Mu) (Q : VK3) (h : spMs ds μ Q) : zf6 wn2 ze4 { nx := fun _ μ' => Q .non μ', rt := Q } (start3 yy5 ds) μ := by
  obtain ⟨s, rfl, hw, k⟩ := h
  exact ⟨s, rfl, hw, z2, z2, _, _, rfl, k⟩
theorem zj6 {p : Addr} {ts : List T3} {μ : Mu} {Q : VK3} (h : μ p = some (.lst (ts.map encT))) (h64 : ts.length < 64) (k : ∀ us : List T3, us.Perm ts → us.Pairwise le3 → ∀ r, μ r = none → Q (.ref r) (updM μ r (.lst (us.map encT)))) : zv0 [.ref p] μ Q := by
  refine Or.inl ?_
  unfold srtR
  simp only [h, zg3]
  exact ⟨h64, k⟩
theorem zv7 {p : Addr} {kvs : List (T3 × D)} {μ : Mu} {Q : VK3} (h : μ p = some (.dct kvs)) (h64 : kvs.length < 64) (k : ∀ us : List T3, us.Perm (kvs.map (·.1)) → us.Pairwise le3 → ∀ r, μ r = none → Q (.ref r) (updM μ r (.lst (us.map encT)))) : zv0 [.ref p] μ Q := by
  refine Or.inr ?_
  unfold xe4
  simp only [h]
  exact ⟨h64, k⟩
theorem xf2 {p : Addr} {l : List D} {μ : Mu} {Q : VK3} (h : μ p = some (.lst l)) (k : Q (.tup l) μ) : tupR [.ref p] μ Q := by
  unfold tupR
  simp only [h]
  exact k
theorem yi2 (g : T3 → T3) (ts : List T3) : (ts.map encT).map (fun d => encT (g (decT d))) = (ts.map g).map encT := by
  rw [List.map_map, List.map_map]
  rfl
theorem zl {ts : List T3} (h : ts.length < 60) : (ts.map encT).length ≤ sizeLine := by
  have : (100 : Nat) < sizeLine := by decide
  rw [List.length_map]
  omega
theorem mod4 (n : Int) : n % 4 = 0 ∨ n % 4 = 1 ∨ n % 4 = 2 ∨ n % 4 = 3 := by omega
noncomputable def lfe (p q : Int × Int) : T3 := ((mnP p q).1, (mnP p q).2, (mxP p q).2 - (mnP p q).2)
noncomputable def rotN : Nat → Int × Int → Int × Int
  | 0, p => p
  | n + 1, p => rotN n (0 - p.2, p.1)
noncomputable def wpt (m n x y : Int) (p : Int × Int) : Int × Int := ((rotN (n % 4).toNat (if m = 1 then 0 - p.1 else p.1, p.2)).1 + x, (rotN (n % 4).toNat (if m = 1 then 0 - p.1 else p.1, p.2)).2 + y)
noncomputable def lawS (m n x y : Int) (s : T3) : T3 := lfe (wpt m n x y (s.1, s.2.1)) (wpt m n x y (gx s, gy s))
noncomputable def wh3 : Sp3 := fun ds μ Q => ∃ (ns : List Int) (k : Int), ds = [.fls (ns.map D.int), .int k] ∧ 0 ≤ k ∧ ∀ i, Q (.int i) μ
theorem yc8 (ds : List D) (μ : Mu) (Q : VK3) (h : wh3 ds μ Q) : t_q2 { nx := fun _ μ' => Q .non μ', rt := Q } (start3 N_q2 ds) μ := by
  obtain ⟨ns, k, rfl, hk, q⟩ := h
  simp_arith [t_q2, N_q2]
  split
  · next h1 =>
    obtain ⟨d, hd, e⟩ := xd5 (l := ns.map D.int) hk h1
    obtain ⟨i, _, rfl⟩ := List.mem_map.mp hd
    simp only [e]
    exact q i
  · exact q 0
noncomputable def wf2 : Sp3 := fun ds μ Q => ∃ (ns : List Int) (k : Int), ds = [.fls (ns.map D.int), .int k] ∧ 0 ≤ k ∧ ∀ a b p, 0 ≤ a → μ p = none → Q (.ref p) (updM μ p (.lst [.int a, .bl b]))
theorem xb8 (ds : List D) (μ : Mu) (Q : VK3) (h : wf2 ds μ Q) : t_q7 wh3 { nx := fun _ μ' => Q .non μ', rt := Q } (start3 N_q7 ds) μ := by
  obtain ⟨ns, k, rfl, hk, q⟩ := h
  simp_arith [t_q7, N_q7]
  refine ⟨ns, k, rfl, hk, fun i => ?_⟩
  simp_arith [ge3R]
  refine ⟨⟨by decide, by decide, by decide⟩, ?_⟩
  have e : ((10 : Int) ^ (18 : Int).toNat) = 1000000000000000000 := by decide
  simp only [e]
  split
  · next h1 => exact ⟨⟨by decide, by decide, by decide⟩, by decide, fun p hp => q _ _ p (by omega) hp⟩
  · exact ⟨by decide, by decide, fun p hp => q _ _ p (Int.emod_nonneg _ (by decide)) hp⟩
noncomputable def wg0 : Sp3 := fun ds μ Q => ∃ (p : Addr) (m a : Int) (b : Bool) (rest : List D), ds = [.ref p, .int m] ∧ 0 < m ∧ m < 2 ^ 120 ∧ μ p = some (.lst (.int a :: .bl b :: rest)) ∧ 0 ≤ a ∧
  ∀ r a', 0 ≤ r → r < m → 0 ≤ a' → Q (.int r) (updM μ p (.lst (.int a' :: .bl b :: rest)))
theorem xc8 (ds : List D) (μ : Mu) (Q : VK3) (h : wg0 ds μ Q) : t_q3 { nx := fun _ μ' => Q .non μ', rt := Q } (start3 N_q3 ds) μ := by
  obtain ⟨p, m, a, b, rest, rfl, h1, h2, h3, h4, q⟩ := h
  simp_arith [t_q3, N_q3, h3]
  split
  · refine ⟨h1, ⟨h1, h2⟩, ?_⟩
    exact q _ _ (Int.emod_nonneg _ (by omega)) (Int.emod_lt_of_pos _ h1) (Int.ediv_nonneg h4 (by omega))
  · refine ⟨.inl (.inr (by decide)), by decide, ?_⟩
    simp_arith [yb0]
    have n1 := Int.emod_nonneg (a * 48271 + 29) (show (2147483647 : Int) ≠ 0 by decide)
    have n2 := Int.emod_lt_of_pos (a * 48271 + 29) (show (0 : Int) < 2147483647 by decide)
    generalize (a * 48271 + 29) % 2147483647 = c at n1 n2 ⊢
    refine ⟨.inl (.inl (by omega)), .inl (.inl (by decide)), by decide, ?_⟩
    have n3 := Int.emod_nonneg (c * c + 39373 * c + 7) (show (2147483629 : Int) ≠ 0 by decide)
    have n4 := Int.emod_lt_of_pos (c * c + 39373 * c + 7) (show (0 : Int) < 2147483629 by decide)
    generalize (c * c + 39373 * c + 7) % 2147483629 = e at n3 n4 ⊢
    refine ⟨.inl (.inl (by omega)), .inl (.inl (by decide)), by decide, ⟨by decide, by decide⟩, h1, ?_⟩
    exact q _ _ (Int.emod_nonneg _ (by omega)) (Int.emod_lt_of_pos _ h1) n1
noncomputable def WPic (z d : Addr) (most wide : Int) (c : Nat) : List D → St3 → Mu → Prop := fun l ρ μ' => ∃ (kvs : List (T3 × D)) (x y a : Int) (b : Bool) (kk : Option D), l.length + kvs.length ≤ c ∧
  ρ = [some (.ref z), some (.int most), some (.ref d), some (.int x), some (.int y), some (.int wide), kk] ∧ μ' z = some (.lst [.int a, .bl b]) ∧ 0 ≤ a ∧ μ' d = some (.dct kvs) ∧ (kvs.map (·.1)).Nodup ∧ ∀ t ∈ kvs.map (·.1), wy t
noncomputable def xg2 : Sp3 := fun ds μ Q => ∃ (z : Addr) (most a : Int) (b : Bool), ds = [.ref z, .int most] ∧ μ z = some (.lst [.int a, .bl b]) ∧ 0 ≤ a ∧ 0 ≤ most ∧ most < 50 ∧ ∀ (us : List T3) (a' : Int) (b' : Bool) μ', Pc us → (us.length : Int) ≤ most → 0 ≤ a' → μ' z = some (.lst [.int a', .bl b']) → Q (.tup (us.map encT)) μ'
theorem wn3 {kvs : List (T3 × D)} {t : T3} {v : D} (hn : (kvs.map (·.1)).Nodup) : ((putT kvs t v).map (·.1)).Nodup ∧ (putT kvs t v).length ≤ kvs.length + 1 ∧ ∀ s ∈ (putT kvs t v).map (·.1), s = t ∨ s ∈ kvs.map (·.1) := by
  unfold putT
  split
  · have e : (kvs.map fun kv => if kv.1 = t then (kv.1, v) else kv).map (·.1) = kvs.map (·.1) := by
      rw [List.map_map]
      apply List.map_congr_left
      intro kv _
      show (if kv.1 = t then (kv.1, v) else kv).1 = kv.1
      split <;> rfl
    rw [e]
    exact ⟨hn, by rw [List.length_map]; omega, fun s hs => .inr hs⟩
  · next c =>
    have ht : t ∉ kvs.map (·.1) := fun hm => by
      obtain ⟨kv, h1, h2⟩ := List.mem_map.mp hm
      exact c (List.any_eq_true.mpr ⟨kv, h1, decide_eq_true h2⟩)
    rw [List.map_append, List.length_append]
    refine ⟨?_, by simp, fun s hs => ?_⟩
    · rw [List.nodup_append]
      refine ⟨hn, by simp, fun a ha b hb => ?_⟩
      have : b = t := by simpa using hb
      subst this
      intro z
      subst z
      exact ht ha
    · rcases List.mem_append.mp hs with h | h
      · exact .inr h
      · exact .inl (by simpa using h)
theorem wf7 {ks us : List T3} (hn : ks.Nodup) (hw : ∀ t ∈ ks, wy t) (hl : ks.length < 60) (a1 : us.Perm ks) (a2 : us.Pairwise le3) : Pc us := by
  have hn' : us.Nodup := a1.nodup_iff.mpr hn
  refine ⟨?_, fun t ht => hw t (a1.mem_iff.mp ht), by rw [a1.length_eq]; exact hl⟩
  have both : us.Pairwise fun a b => le3 a b ∧ a ≠ b := List.Pairwise.and a2 hn'
  refine both.imp fun {a b} h => ?_
  obtain ⟨x1, x2, x3⟩ := a
  obtain ⟨y1, y2, y3⟩ := b
  obtain ⟨h1, h2⟩ := h
  unfold le3 at h1
  unfold Lt
  simp only [ne_eq, Prod.mk.injEq] at h2
  simp only [lt3, Bool.or_eq_false_iff, Bool.and_eq_false_iff, decide_eq_false_iff_not, beq_eq_false_iff_ne, ne_eq] at h1
  simp only [lt3, Bool.or_eq_true, Bool.and_eq_true, decide_eq_true_eq, beq_iff_eq]
  omega
theorem yt2 {a b c d : Int} : ∀ x ∈ ([D.int a, .int b, .int c, .int d] : List D), ∃ i : Int, x = .int i := by
  intro x hx
  simp only [List.mem_cons, List.not_mem_nil, or_false] at hx
  rcases hx with rfl | rfl | rfl | rfl <;> exact ⟨_, rfl⟩
theorem ys2 {p : Addr} {l : List D} {i : Int} {d : D} {μ : Mu} {K : VK3} (h : μ p = some (.lst l)) (e : atI l i = some d) (k : K d μ) : ixR (.ref p) (.int i) μ K := by
  unfold ixR
  simp only [h, e]
  exact k
theorem zc5 {l : List D} (h : ∀ d ∈ l, ∃ i : Int, d = .int i) {i : Int} (h0 : 0 ≤ i) (h1 : i < l.length) : ∃ x : Int, atI l i = some (.int x) := by
  obtain ⟨dv, hd, e⟩ := xd5 h0 h1
  obtain ⟨x, rfl⟩ := h dv hd
  exact ⟨x, e⟩
theorem zb8 (ds : List D) (μ : Mu) (Q : VK3) (h : xg2 ds μ Q) : t_q5 wg0 { nx := fun _ μ' => Q .non μ', rt := Q } (start3 N_q5 ds) μ := by
  obtain ⟨z, most, a, b, rfl, hm, ha, m0, m1, q⟩ := h
  intro d hd
  have hzd : z ≠ d := xh0 hm hd
  show wh0 wg0 { nx := fun _ μ' => Q .non μ', rt := Q } [some (.ref z), some (.int most), some (.ref d), none, none, none, none] (updM μ d (.dct []))
  simp_arith [wh0]
  refine ⟨z2, ?_⟩
  refine ⟨z, 5, a, b, [], rfl, by decide, by decide, by rw [xc0 hzd]; exact hm, ha, fun w0 a1 w1 w2 a1n => ?_⟩
  refine ⟨z, most + 1, a1, b, [], rfl, by omega, by omega, yb0, a1n, fun c a2 c0 c1 a2n => ⟨⟨by omega, by omega⟩, ?_⟩⟩
  refine ww0 (WPic z d most (1 + w0) c.toNat) ?_ (fun _ _ _ _ => trivial) ?_ ?_
  · refine ⟨[], 0, 0, a2, b, none, ?_, rfl, yb0, a2n, ?_, List.nodup_nil, fun t ht => by simp at ht⟩
    · simp [rngD]
    · rw [xc0 (Ne.symm hzd), xc0 (Ne.symm hzd), yb0]
  · rintro ρ μ' ⟨kvs, x, y, a3, b3, kk, el, rfl, ez, a3n, ed, hn, hw⟩
    rw [List.length_nil, Nat.zero_add] at el
    refine zv7 ed (by omega) fun us e1 e2 r hr => xf2 yb0 (q us a3 b3 _ (wf7 hn hw (by rw [List.length_map]; omega) e1 e2) (by rw [e1.length_eq, List.length_map]; omega) a3n (by rw [xc0 (xh0 ez hr)]; exact ez))
  · rintro dd rest ρ μ' ⟨kvs, x, y, a3, b3, kk, el, rfl, ez, a3n, ed, hn, hw⟩
    rw [List.length_cons] at el
    have main : ∀ (x y a4 : Int) (ν : Mu), ν z = some (.lst [.int a4, .bl b3]) → 0 ≤ a4 → ν d = some (.dct kvs) → (seq3 (xt5 (v3 2) (cons3 (v3 3) (cons3 (v3 4) (cons3 (call3 wg0 (cons3 (v3 0) (cons3 (c3 (.int 2)) nil3))) nil3))) (c3 (.bl true))) (seq3 (set3 3 (o3 addR (v3 3) (o3 ixR (lst3 (cons3 (c3 (.int 1)) (cons3 (c3 (.int 0)) (cons3 (un3 negR (c3 (.int 1))) (cons3 (c3 (.int 0)) nil3))))) (call3 wg0 (cons3 (v3 0) (cons3 (c3 (.int 4)) nil3)))))) (set3 4 (o3 addR (v3 4) (o3 ixR (lst3 (cons3 (c3 (.int 0)) (cons3 (c3 (.int 1)) (cons3 (c3 (.int 0)) (cons3 (un3 negR (c3 (.int 1))) nil3))))) (call3 wg0 (cons3 (v3 0) (cons3 (c3 (.int 4)) nil3)))))))) { nx := WPic z d most (1 + w0) c.toNat rest, rt := Q, bk := fun ρ μ => xm0 wg0 { nx := fun _ μ' => Q .non μ', rt := Q } ρ μ, ct := WPic z d most (1 + w0) c.toNat rest } [some (.ref z), some (.int most), some (.ref d), some (.int x), some (.int y), some (.int (1 + w0)), some dd] ν := fun x y a4 ν ez a4n ed => by
      refine ⟨z, 2, a4, b3, [], rfl, by decide, by decide, ez, a4n, fun w a5 w3 w4 a5n => ?_⟩
      have ed2 : updM ν z (.lst [.int a5, .bl b3]) d = some (.dct kvs) := by rw [xc0 (Ne.symm hzd)]; exact ed
      conv => whnf
      rw [ed2]
      refine ⟨by omega, ?_⟩
      obtain ⟨k1, k2, k3⟩ := wn3 (t := (x, y, w)) (v := .bl true) hn
      refine ⟨(show 4 ≤ sizeLine by decide), fun p hp => ?_⟩
      have hzp : z ≠ p := xh0 (by rw [xc0 hzd]; exact yb0) hp
      have hdp : d ≠ p := xh0 yb0 hp
      refine ⟨z, 4, a5, b3, [], rfl, by decide, by decide, by rw [xc0 hzp, xc0 hzd]; exact yb0, a5n, fun i a6 i0 i1 a6n => ?_⟩
      obtain ⟨dx, e5⟩ := zc5 (l := [D.int 1, .int 0, .int (-1), .int 0]) yt2 i0 (by simp only [List.length_cons, List.length_nil]; omega)
      refine ys2 (by rw [xc0 (Ne.symm hzp), yb0]) e5 ?_
      refine ⟨(show 4 ≤ sizeLine by decide), fun p2 hp2 => ?_⟩
      have hzp2 : z ≠ p2 := xh0 yb0 hp2
      have hdp2 : d ≠ p2 := xh0 (by rw [xc0 (Ne.symm hzd), xc0 hdp]; exact yb0) hp2
      refine ⟨z, 4, a6, b3, [], rfl, by decide, by decide, by rw [xc0 hzp2]; exact yb0, a6n, fun j a7 j0 j1 a7n => ?_⟩
      obtain ⟨dy, e6⟩ := zc5 (l := [D.int 0, .int 1, .int 0, .int (-1)]) yt2 j0 (by simp only [List.length_cons, List.length_nil]; omega)
      refine ys2 (by rw [xc0 (Ne.symm hzp2), yb0]) e6 ?_
      refine ⟨putT kvs (x, y, w) (.bl true), x + dx, y + dy, a7, b3, some dd, by omega, rfl, yb0, a7n, ?_, k1, fun t ht => ?_⟩
      · rw [xc0 (Ne.symm hzd), xc0 hdp2, xc0 (Ne.symm hzd), xc0 hdp, yb0]
      · rcases k3 t ht with rfl | h
        · show w = 0 ∨ w = 1
          omega
        · exact hw t h
    refine ⟨z, 3, a3, b3, [], rfl, by decide, by decide, ez, a3n, fun r a4 r0 r1 a4n => ?_⟩
    have ed1 : updM μ' z (.lst [.int a4, .bl b3]) d = some (.dct kvs) := by rw [xc0 (Ne.symm hzd)]; exact ed
    by_cases c3 : r = 0
    · subst c3
      refine ⟨z, 1 + w0, a4, b3, [], rfl, by omega, by omega, yb0, a4n, fun x2 a5 x0 x1 a5n => ?_⟩
      refine ⟨z, 1 + w0, a5, b3, [], rfl, by omega, by omega, yb0, a5n, fun y2 a6 y0 y1 a6n => ?_⟩
      exact main _ _ a6 _ yb0 a6n (by rw [xc0 (Ne.symm hzd), xc0 (Ne.symm hzd)]; exact ed1)
    · have er : (decide (r = 0)) = false := decide_eq_false c3
      simp_arith [cst0]
      simp only [c3, if_false]
      exact main x y a4 _ yb0 a4n ed1
noncomputable def pT (s : T3) : PyData := .tuple [.int s.1, .int s.2.1, .int s.2.2]
theorem zb5 : ∀ L : List T3, dats (L.map encT) = some (L.map pT)
  | [] => rfl
  | t :: r => by simp only [List.map_cons, dats, encT, dat, zb5 r, pT]
theorem ww3 : ∀ L : List T3, PyData.depthAll (L.map pT) ≤ 2
  | [] => by simp [PyData.depthAll]
  | t :: r => by
    have := ww3 r
    simp only [List.map_cons, PyData.depthAll, pT, PyData.depth]
    omega
theorem wt2 (L : List T3) : (PyData.tuple (L.map pT)).depth ≤ 64 := by
  have := ww3 L
  simp only [PyData.depth]
  omega
theorem wpt0 {q : Int} (x y : Int) : (q % 4 = 0 → wpt 0 q 0 0 (x, y) = (x, y)) ∧ (q % 4 = 1 → wpt 0 q 0 0 (x, y) = (-y, x)) ∧ (q % 4 = 2 → wpt 0 q 0 0 (x, y) = (-x, -y)) ∧ (q % 4 = 3 → wpt 0 q 0 0 (x, y) = (y, -x)) := by
  refine ⟨fun e => ?_, fun e => ?_, fun e => ?_, fun e => ?_⟩ <;> simp [wpt, e, rotN]
theorem wpt1 {q : Int} (x y : Int) : (q % 4 = 0 → wpt 1 q 0 0 (x, y) = (-x, y)) ∧ (q % 4 = 1 → wpt 1 q 0 0 (x, y) = (-y, -x)) ∧ (q % 4 = 2 → wpt 1 q 0 0 (x, y) = (x, -y)) ∧ (q % 4 = 3 → wpt 1 q 0 0 (x, y) = (y, x)) := by
  refine ⟨fun e => ?_, fun e => ?_, fun e => ?_, fun e => ?_⟩ <;> simp [wpt, e, rotN]
theorem tp4 (x y : Int) : tp 0 (x, y) = (x, y) ∧ tp 1 (x, y) = (-y, x) ∧ tp 2 (x, y) = (-x, -y) ∧ tp 3 (x, y) = (y, -x) := by
  refine ⟨?_, ?_, ?_, ?_⟩ <;> simp [tp, led, cs, sn]
theorem mn_r (x y : Int) : mnP (x, y) (x + 1, y) = (x, y) ∧ mxP (x, y) (x + 1, y) = (x + 1, y) ∧ mnP (x + 1, y) (x, y) = (x, y) ∧ mxP (x + 1, y) (x, y) = (x + 1, y) := by
  refine ⟨?_, ?_, ?_, ?_⟩ <;> simp [mnP, mxP, ltP] <;> omega
theorem mn_u (x y : Int) : mnP (x, y) (x, y + 1) = (x, y) ∧ mxP (x, y) (x, y + 1) = (x, y + 1) ∧ mnP (x, y + 1) (x, y) = (x, y) ∧ mxP (x, y + 1) (x, y) = (x, y + 1) := by
  refine ⟨?_, ?_, ?_, ?_⟩ <;> simp [mnP, mxP, ltP] <;> omega
theorem xd1 (x y : Int) : lfe (x, y) (x + 1, y) = (x, y, 0) ∧ lfe (x + 1, y) (x, y) = (x, y, 0) ∧ lfe (x, y) (x, y + 1) = (x, y, 1) ∧ lfe (x, y + 1) (x, y) = (x, y, 1) := by
  obtain ⟨a1, a2, a3, a4⟩ := mn_r x y
  obtain ⟨b1, b2, b3, b4⟩ := mn_u x y
  unfold lfe
  rw [a1, a2, a3, a4, b1, b2, b3, b4]
  dsimp only
  rw [Int.sub_self, show y + 1 - y = 1 by omega]
  exact ⟨rfl, rfl, rfl, rfl⟩
theorem xq4 (x y : Int) : btw (x, y) (x + 1, y) = (x, y, 0) ∧ btw (x + 1, y) (x, y) = (x, y, 0) ∧ btw (x, y) (x, y + 1) = (x, y, 1) ∧ btw (x, y + 1) (x, y) = (x, y, 1) := by
  obtain ⟨a1, _, a3, _⟩ := mn_r x y
  obtain ⟨b1, _, b3, _⟩ := mn_u x y
  unfold btw
  rw [a1, a3, b1, b3]
  refine ⟨?_, ?_, ?_, ?_⟩ <;> dsimp only <;> first | rw [if_pos rfl] | rw [if_neg (by omega)]
theorem as_r {p q p' q' : Int × Int} {F : Int × Int → Int × Int → T3} {t : T3} (h : F p' q' = t) (e1 : p = p') (e2 : q = q') : F p q = t := by rw [e1, e2, h]
theorem xz1 {m n : Int} (a b : Int) : lawS m n 0 0 (a, b, 0) = lfe (wpt m n 0 0 (a, b)) (wpt m n 0 0 (a + 1, b)) := by
  unfold lawS gx gy
  dsimp only
  rw [Int.sub_zero, Int.add_zero]
theorem wy1 {m n : Int} (a b : Int) : lawS m n 0 0 (a, b, 1) = lfe (wpt m n 0 0 (a, b)) (wpt m n 0 0 (a, b + 1)) := by
  unfold lawS gx gy
  dsimp only
  rw [Int.add_sub_cancel]
theorem wt7 {n : Int} (a b : Int) : tS n (a, b, 0) = btw (tp n (a, b)) (tp n (a + 1, b)) := by
  unfold tS gx gy
  dsimp only
  rw [Int.sub_zero, Int.add_zero]
theorem zt7 {n : Int} (a b : Int) : tS n (a, b, 1) = btw (tp n (a, b)) (tp n (a, b + 1)) := by
  unfold tS gx gy
  dsimp only
  rw [Int.add_sub_cancel]
theorem pr {a b c d : Int} (h1 : a = c) (h2 : b = d) : (a, b) = (c, d) := by rw [h1, h2]
theorem go0 {F : Int × Int → Int × Int → T3} (hF : ∀ x y, F (x, y) (x + 1, y) = (x, y, 0) ∧ F (x + 1, y) (x, y) = (x, y, 0) ∧ F (x, y) (x, y + 1) = (x, y, 1) ∧ F (x, y + 1) (x, y) = (x, y, 1)) (a b : Int) :
    F (a, b) (a + 1, b) = (a, b, 0) ∧ F (-b, a) (-b, a + 1) = (-b, a, 1) ∧ F (-a, -b) (-(a + 1), -b) = (-a - 1, -b, 0) ∧ F (b, -a) (b, -(a + 1)) = (b, -a - 1, 1) :=
  ⟨(hF a b).1, (hF (-b) a).2.2.1, as_r (hF (-a - 1) (-b)).2.1 (pr (by omega) rfl) (pr (by omega) rfl), as_r (hF b (-a - 1)).2.2.2 (pr rfl (by omega)) (pr rfl (by omega))⟩
theorem go1 {F : Int × Int → Int × Int → T3} (hF : ∀ x y, F (x, y) (x + 1, y) = (x, y, 0) ∧ F (x + 1, y) (x, y) = (x, y, 0) ∧ F (x, y) (x, y + 1) = (x, y, 1) ∧ F (x, y + 1) (x, y) = (x, y, 1)) (a b : Int) :
    F (a, b) (a, b + 1) = (a, b, 1) ∧ F (-b, a) (-(b + 1), a) = (-b - 1, a, 0) ∧ F (-a, -b) (-a, -(b + 1)) = (-a, -b - 1, 1) ∧ F (b, -a) (b + 1, -a) = (b, -a, 0) :=
  ⟨(hF a b).2.2.1, as_r (hF (-b - 1) a).2.1 (pr (by omega) rfl) (pr (by omega) rfl), as_r (hF (-a) (-b - 1)).2.2.2 (pr rfl (by omega)) (pr rfl (by omega)), (hF b (-a)).1⟩
theorem wx4 {n : Int} {s : T3} (h : wy s) : lawS 0 n 0 0 s = tS (n % 4) s := by
  obtain ⟨a, b, w⟩ := s
  rcases h with h | h <;> dsimp only at h <;> subst h
  · rw [xz1, wt7]
    obtain ⟨p1, p2, p3, p4⟩ := wpt0 (q := n) a b
    obtain ⟨q1, q2, q3, q4⟩ := wpt0 (q := n) (a + 1) b
    obtain ⟨t1, t2, t3, t4⟩ := tp4 a b
    obtain ⟨u1, u2, u3, u4⟩ := tp4 (a + 1) b
    obtain ⟨l1, l2, l3, l4⟩ := go0 xd1 a b
    obtain ⟨k1, k2, k3, k4⟩ := go0 xq4 a b
    rcases mod4 n with e | e | e | e
    · rw [p1 e, q1 e, e, t1, u1, l1, k1]
    · rw [p2 e, q2 e, e, t2, u2, l2, k2]
    · rw [p3 e, q3 e, e, t3, u3, l3, k3]
    · rw [p4 e, q4 e, e, t4, u4, l4, k4]
  · rw [wy1, zt7]
    obtain ⟨p1, p2, p3, p4⟩ := wpt0 (q := n) a b
    obtain ⟨q1, q2, q3, q4⟩ := wpt0 (q := n) a (b + 1)
    obtain ⟨t1, t2, t3, t4⟩ := tp4 a b
    obtain ⟨u1, u2, u3, u4⟩ := tp4 a (b + 1)
    obtain ⟨l1, l2, l3, l4⟩ := go1 xd1 a b
    obtain ⟨k1, k2, k3, k4⟩ := go1 xq4 a b
    rcases mod4 n with e | e | e | e
    · rw [p1 e, q1 e, e, t1, u1, l1, k1]
    · rw [p2 e, q2 e, e, t2, u2, l2, k2]
    · rw [p3 e, q3 e, e, t3, u3, l3, k3]
    · rw [p4 e, q4 e, e, t4, u4, l4, k4]
theorem xy4 {s : T3} (h : wy s) : lawS 1 0 0 0 s = mS s := by
  obtain ⟨a, b, w⟩ := s
  rcases h with h | h <;> dsimp only at h <;> subst h
  · rw [xz1, (wpt1 (q := 0) a b).1 rfl, (wpt1 (q := 0) (a + 1) b).1 rfl]
    unfold mS gx gy
    dsimp only
    rw [Int.sub_zero, Int.add_zero, as_r (F := lfe) (xd1 (-a - 1) b).2.1 (pr (by omega) rfl) (pr (by omega) rfl), as_r (F := btw) (xq4 (-a - 1) b).2.1 (pr (by omega) rfl) (pr (by omega) rfl)]
  · rw [wy1, (wpt1 (q := 0) a b).1 rfl, (wpt1 (q := 0) a (b + 1)).1 rfl]
    unfold mS gx gy
    dsimp only
    rw [Int.add_sub_cancel, (xd1 (-a) b).2.2.1, (xq4 (-a) b).2.2.1]
theorem xk4 {a b : T3} (h : le3 a b) (k : le3 b a) : a = b := by
  obtain ⟨x1, x2, x3⟩ := a
  obtain ⟨y1, y2, y3⟩ := b
  simp only [le3, lt3, Bool.or_eq_false_iff, Bool.and_eq_false_iff, decide_eq_false_iff_not, beq_eq_false_iff_ne, ne_eq] at h k
  simp only [Prod.mk.injEq]
  omega
theorem uniq {us vs : List T3} (a1 : us.Perm vs) (a2 : us.Pairwise le3) (a3 : vs.Pairwise le3) : us = vs := List.Perm.eq_of_pairwise (fun a b _ _ h k => xk4 h k) a2 a3 a1
theorem wi7 {f g : T3 → T3} {ts : List T3} (hw : ∀ t ∈ ts, wy t) (h : ∀ t, wy t → f t = g t) : ts.map f = ts.map g := List.map_congr_left fun t ht => h t (hw t ht)
noncomputable def srt (l : List T3) : List T3 := l.mergeSort fun a b => !lt3 b a
theorem yn2 (l : List T3) : (srt l).Perm l := List.mergeSort_perm _ _
theorem xt4 (l : List T3) : (srt l).Pairwise le3 := by
  have := List.pairwise_mergeSort (le := fun a b => !lt3 b a) (fun a b c h k => ?_) (fun a b => ?_) l
  · exact this.imp fun {a b} h => by simpa [le3] using h
  · obtain ⟨x1, x2, x3⟩ := a
    obtain ⟨y1, y2, y3⟩ := b
    obtain ⟨z1, z2, z3⟩ := c
    simp only [lt3, Bool.not_eq_true', Bool.or_eq_false_iff, Bool.and_eq_false_iff, decide_eq_false_iff_not, beq_eq_false_iff_ne, ne_eq] at h k ⊢
    omega
  · obtain ⟨x1, x2, x3⟩ := a
    obtain ⟨y1, y2, y3⟩ := b
    by_cases c : lt3 (y1, y2, y3) (x1, x2, x3) = true
    · have : lt3 (x1, x2, x3) (y1, y2, y3) = false := by
        simp only [lt3, Bool.or_eq_true, Bool.and_eq_true, decide_eq_true_eq, beq_iff_eq] at c
        simp only [lt3, Bool.or_eq_false_iff, Bool.and_eq_false_iff, decide_eq_false_iff_not, beq_eq_false_iff_ne, ne_eq]
        omega
      simp [this]
    · simp [c]
theorem zf5 {us l : List T3} (h : us.Perm l) (k : us.Pairwise le3) : us = srt l := uniq (h.trans (yn2 l).symm) k (xt4 l)
theorem wg8 {ts : List T3} (h : Pc ts) : ts.Nodup := h.1.imp fun {a b} h e => by
  subst e
  simp [Lt, lt3] at h
noncomputable def r1 (s : T3) : T3 := if s.2.2 = 0 then (-s.2.1, s.1, 1) else (-s.2.1 - 1, s.1, 0)
noncomputable def m1 (s : T3) : T3 := if s.2.2 = 0 then (-s.1 - 1, s.2.1, 0) else (-s.1, s.2.1, 1)
noncomputable def rS : Nat → T3 → T3
  | 0, s => s
  | n + 1, s => r1 (rS n s)
theorem ws7 {s : T3} : wy (r1 s) := by
  unfold wy r1
  split
  · exact .inr rfl
  · exact .inl rfl
theorem wu2 {s : T3} : wy (m1 s) := by
  unfold wy m1
  split
  · exact .inl rfl
  · exact .inr rfl
theorem xf3 {s : T3} (h : wy s) : ∀ n, wy (rS n s)
  | 0 => h
  | n + 1 => ws7
theorem law0 {q : Int} {s : T3} (h : wy s) : lawS 0 q 0 0 s = rS (q % 4).toNat s := by
  obtain ⟨a, b, w⟩ := s
  have c : ∀ s, rS (0 : Int).toNat s = s ∧ rS (1 : Int).toNat s = r1 s ∧ rS (2 : Int).toNat s = r1 (r1 s) ∧ rS (3 : Int).toNat s = r1 (r1 (r1 s)) := fun s => ⟨rfl, rfl, rfl, rfl⟩
  obtain ⟨c0, c1, c2, c3⟩ := c (a, b, w)
  rcases h with h | h <;> dsimp only at h <;> subst h
  · rw [xz1]
    obtain ⟨p1, p2, p3, p4⟩ := wpt0 (q := q) a b
    obtain ⟨q1, q2, q3, q4⟩ := wpt0 (q := q) (a + 1) b
    obtain ⟨l1, l2, l3, l4⟩ := go0 xd1 a b
    rcases mod4 q with e | e | e | e
    · rw [p1 e, q1 e, e, l1, c0]
    · rw [p2 e, q2 e, e, l2, c1]; rfl
    · rw [p3 e, q3 e, e, l3, c2]; rfl
    · rw [p4 e, q4 e, e, l4, c3]
      show _ = ((- -b : Int), (-a - 1 : Int), (1 : Int))
      rw [Int.neg_neg]
  · rw [wy1]
    obtain ⟨p1, p2, p3, p4⟩ := wpt0 (q := q) a b
    obtain ⟨q1, q2, q3, q4⟩ := wpt0 (q := q) a (b + 1)
    obtain ⟨l1, l2, l3, l4⟩ := go1 xd1 a b
    rcases mod4 q with e | e | e | e
    · rw [p1 e, q1 e, e, l1, c0]
    · rw [p2 e, q2 e, e, l2, c1]; rfl
    · rw [p3 e, q3 e, e, l3, c2]; rfl
    · rw [p4 e, q4 e, e, l4, c3]
      show _ = ((-(-b - 1) - 1 : Int), (-a : Int), (0 : Int))
      rw [show (-(-b - 1) - 1 : Int) = b by omega]
theorem zc4 (q x y : Int) : wpt 1 q 0 0 (x, y) = wpt 0 q 0 0 (-x, y) := by
  unfold wpt
  dsimp only
  rw [if_pos rfl, if_neg (by decide), Int.zero_sub]
theorem wj4 (q x y : Int) : lfe (wpt 0 q 0 0 (x + 1, y)) (wpt 0 q 0 0 (x, y)) = lfe (wpt 0 q 0 0 (x, y)) (wpt 0 q 0 0 (x + 1, y)) := by
  obtain ⟨p1, p2, p3, p4⟩ := wpt0 (q := q) x y
  obtain ⟨q1, q2, q3, q4⟩ := wpt0 (q := q) (x + 1) y
  obtain ⟨l1, l2, l3, l4⟩ := go0 xd1 x y
  rcases mod4 q with e | e | e | e
  · rw [p1 e, q1 e, l1, (xd1 x y).2.1]
  · rw [p2 e, q2 e, l2, (xd1 (-y) x).2.2.2]
  · rw [p3 e, q3 e, l3]; exact as_r (xd1 (-x - 1) (-y)).1 (pr (by omega) rfl) (pr (by omega) rfl)
  · rw [p4 e, q4 e, l4]; exact as_r (xd1 y (-x - 1)).2.2.1 (pr rfl (by omega)) (pr rfl (by omega))
theorem law1 {q : Int} {s : T3} (h : wy s) : lawS 1 q 0 0 s = rS (q % 4).toNat (m1 s) := by
  rw [← law0 wu2]
  obtain ⟨a, b, w⟩ := s
  rcases h with h | h <;> dsimp only at h <;> subst h
  · rw [xz1, zc4, zc4, show m1 (a, b, 0) = (-a - 1, b, 0) from rfl, xz1, ← wj4]
    rw [show -a - 1 + 1 = -a by omega, show -(a + 1) = -a - 1 by omega]
  · rw [wy1, zc4, zc4, show m1 (a, b, 1) = (-a, b, 1) from rfl, wy1]
theorem xk7 {s : T3} (h : wy s) : mS s = m1 s := by rw [← xy4 h, law1 h]; rfl
theorem wj7 {q : Int} {s : T3} (h : wy s) : lawS 1 q 0 0 s = tS (q % 4) (mS s) := by rw [xk7 h, law1 h, ← wx4 wu2, law0 wu2]
theorem r4 {s : T3} (h : wy s) : r1 (r1 (r1 (r1 s))) = s := by
  obtain ⟨a, b, w⟩ := s
  rcases h with h | h <;> dsimp only at h <;> subst h <;> simp [r1] <;> omega
theorem m2 {s : T3} (h : wy s) : m1 (m1 s) = s := by
  obtain ⟨a, b, w⟩ := s
  rcases h with h | h <;> dsimp only at h <;> subst h <;> simp [m1] <;> omega
theorem rmr {s : T3} (h : wy s) : r1 (m1 (r1 s)) = m1 s := by
  obtain ⟨a, b, w⟩ := s
  rcases h with h | h <;> dsimp only at h <;> subst h <;> simp [m1, r1] <;> omega
theorem xb6 {m q : Int} {s : T3} (h : wy s) (hm : m = 0 ∨ m = 1) : wy (lawS m q 0 0 s) := by
  rcases hm with rfl | rfl
  · rw [law0 h]; exact xf3 h _
  · rw [law1 h]; exact xf3 wu2 _
theorem wu4 (a b : Nat) (s : T3) : rS a (rS b s) = rS (a + b) s := by
  induction a with
  | zero => rw [Nat.zero_add]; rfl
  | succ a ih => rw [show a + 1 + b = (a + b) + 1 by omega]; show r1 _ = r1 _; rw [ih]
theorem xn3 {s : T3} (h : wy s) : ∀ n, rS (n + 4) s = rS n s
  | 0 => r4 h
  | n + 1 => by rw [show n + 1 + 4 = (n + 4) + 1 by omega]; show r1 _ = r1 _; rw [xn3 h n]
theorem yb7 {s : T3} (h : wy s) (n : Nat) : rS n s = rS (n % 4) s := by
  induction n using Nat.strongRecOn with
  | ind n ih =>
    by_cases c : n < 4
    · rw [Nat.mod_eq_of_lt c]
    · rw [show n = (n - 4) + 4 by omega, xn3 h, ih (n - 4) (by omega)]
      congr 1
      omega
theorem zb7 {s : T3} (h : wy s) : ∀ n, rS n (m1 (rS n s)) = m1 s
  | 0 => rfl
  | n + 1 => by
    have e : ∀ k t, rS (k + 1) t = rS k (r1 t) := fun k t => by rw [show k + 1 = k + 1 from rfl, ← wu4 k 1 t]; rfl
    rw [e]
    show rS n (r1 (m1 (r1 (rS n s)))) = m1 s
    rw [rmr (xf3 h n), zb7 h n]
noncomputable def bk (m q : Int) : Int := if m = 1 then q else 4 - q % 4
theorem yy4 {m q : Int} {s : T3} (h : wy s) (hm : m = 0 ∨ m = 1) : lawS m (bk m q) 0 0 (lawS m q 0 0 s) = s := by
  rcases hm with rfl | rfl
  · rw [law0 h, law0 (xf3 h _), wu4, show bk 0 q = 4 - q % 4 from rfl, yb7 h]
    rcases mod4 q with e | e | e | e <;> simp [e, rS]
  · rw [law1 h, law1 (xf3 wu2 _), show bk 1 q = q from rfl, zb7 wu2, m2 h]
theorem yq5 {m q : Int} {s t : T3} (h : wy s) (k : wy t) (hm : m = 0 ∨ m = 1) (e : lawS m q 0 0 s = lawS m q 0 0 t) : s = t := by rw [← yy4 (q := q) h hm, e, yy4 k hm]
theorem zw4 {f : T3 → T3} : ∀ {ts : List T3}, ts.Nodup → (∀ a ∈ ts, ∀ b ∈ ts, f a = f b → a = b) → (ts.map f).Nodup
  | [], _, _ => List.nodup_nil
  | t :: ts, h, k => by
    obtain ⟨h1, h2⟩ := List.nodup_cons.mp h
    rw [List.map_cons, List.nodup_cons]
    refine ⟨fun z => ?_, zw4 h2 fun a ha b hb => k a (List.mem_cons_of_mem _ ha) b (List.mem_cons_of_mem _ hb)⟩
    obtain ⟨s, hs, e⟩ := List.mem_map.mp z
    have := k s (List.mem_cons_of_mem _ hs) t (List.mem_cons_self ..) e
    exact h1 (this ▸ hs)
noncomputable def Wy (m q : Int) (ts : List T3) : List T3 := srt (ts.map (lawS m q 0 0))
theorem xo5 {m q : Int} {ts : List T3} (h : Pc ts) (hm : m = 0 ∨ m = 1) : Pc (Wy m q ts) :=
  wf7 (zw4 (wg8 h) fun a ha b hb e => yq5 (h.2.1 a ha) (h.2.1 b hb) hm e) (fun t ht => by
    obtain ⟨s, hs, rfl⟩ := List.mem_map.mp ht
    exact xb6 (h.2.1 s hs) hm) (by rw [List.length_map]; exact h.2.2) (yn2 _) (xt4 _)
noncomputable def shf (one other : List T3) : Option (Int × Int) := if one.length ≠ other.length then none else match one, other with
  | a :: _, b :: _ => if one.map (mv (b.1 - a.1) (b.2.1 - a.2.1)) = other then some (b.1 - a.1, b.2.1 - a.2.1) else none
  | _, _ => some (0, 0)
noncomputable def shD : Option (Int × Int) → D
  | none => .non
  | some p => encQ p
theorem wn7 (s t : T3) : PyData.eqv (pT s) (pT t) = decide (s = t) := by
  obtain ⟨a, b, c⟩ := s
  obtain ⟨d, e, f⟩ := t
  have q : ∀ x y : Int, (x == y) = decide (x = y) := fun x y => by by_cases h : x = y <;> simp [h]
  simp [pT, PyData.eqv, PyData.eqvAll, Bool.and_assoc, q]
theorem wa5 : ∀ L M : List T3, PyData.eqvAll (L.map pT) (M.map pT) = decide (L = M)
  | [], [] => by simp [PyData.eqvAll]
  | [], _ :: _ => by simp [PyData.eqvAll]
  | _ :: _, [] => by simp [PyData.eqvAll]
  | s :: L, t :: M => by
    simp only [List.map_cons, PyData.eqvAll, wa5 L M, wn7]
    simp
theorem xi8 (L M : List T3) (μ : Mu) (K : VK3) : neR (.tup (L.map encT)) (.tup (M.map encT)) μ K = K (.bl (!decide (L = M))) μ := by
  have dd : ∀ us : List T3, datM μ (.tup (us.map encT)) = some (.tuple (us.map pT)) := fun us => by simp only [datM, dat, zb5]
  rw [yr3 rfl (dd L) (dd M) (wt2 L) (wt2 M), show PyData.eqv (.tuple (L.map pT)) (.tuple (M.map pT)) = decide (L = M) from by simp only [PyData.eqv, wa5]]
noncomputable def encI (xs : List Int) : D := .tup (xs.map D.int)
noncomputable def okS (xs : List Int) : Prop := ∃ t, xs = kI t ∧ wy t
theorem okS3 {a b c : Int} (h : okS [a, b, c]) : c = 0 ∨ c = 1 := by
  obtain ⟨⟨x, y, z⟩, e, hw⟩ := h
  simp only [kI, List.cons.injEq, and_true] at e
  rw [e.2.2]
  exact hw
noncomputable def xm1 (XE : XE3) : Sp3 := fun ds μ Q => ∃ xs, ds = [encI xs] ∧ xs.length ≤ 4 ∧ ((okS xs ∧ Q .non μ) ∨ (¬ okS xs ∧ XE "NoPicture" μ))
theorem in_w {c : Int} (h : ¬ (c = 0 ∨ c = 1)) (μ : Mu) (K : VK3) : inR true (.int c) zq0 μ K = K (.bl true) μ := by
  show inD true (.int c) zq0 μ K = _
  unfold inD
  rw [show datM μ (.int c) = some (.int c) from rfl, show datM μ zq0 = some (.tuple [.int 0, .int 1]) from rfl]
  dsimp only
  have e : (([.int 0, .int 1] : List PyData).any fun e => PyData.eqv e (.int c)) = false := by
    have h1 : ¬ (0 : Int) = c := fun z => h (.inl z.symm)
    have h2 : ¬ (1 : Int) = c := fun z => h (.inr z.symm)
    simp [PyData.eqv, h1, h2]
  rw [e]
  have d1 : (PyData.int c).depth ≤ 64 := by simp [PyData.depth]
  have d2 : (PyData.tuple [.int 0, .int 1]).depth ≤ 64 := by simp [PyData.depth, PyData.depthAll]
  exact propext ⟨fun h => h.2, fun k => ⟨⟨d1, d2⟩, k⟩⟩
theorem wi8 (μ : Mu) (K : VK3) (c : Int) (h : c = 0 ∨ c = 1) : inR true (.int c) zq0 μ K = K (.bl false) μ := by
  show inD true (.int c) zq0 μ K = _
  unfold inD
  rw [show datM μ (.int c) = some (.int c) from rfl, show datM μ zq0 = some (.tuple [.int 0, .int 1]) from rfl]
  dsimp only
  have e : (([.int 0, .int 1] : List PyData).any fun e => PyData.eqv e (.int c)) = true := by
    rcases h with rfl | rfl <;> simp [PyData.eqv]
  rw [e]
  have d1 : (PyData.int c).depth ≤ 64 := by simp [PyData.depth]
  have d2 : (PyData.tuple [.int 0, .int 1]).depth ≤ 64 := by simp [PyData.depth, PyData.depthAll]
  exact propext ⟨fun h => h.2, fun k => ⟨⟨d1, d2⟩, k⟩⟩
theorem wz6 (XE : XE3) (ds : List D) (μ : Mu) (Q : VK3) (h : xm1 XE ds μ Q) : zh6 XE { nx := fun _ μ' => Q .non μ', rt := Q } (start3 ya6 ds) μ := by
  obtain ⟨xs, rfl, hl, g⟩ := h
  have z1 : 1 ≤ sizeLine := by decide
  match xs, hl with
  | [], _ =>
    rcases g with ⟨⟨t, e, _⟩, _⟩ | ⟨_, x⟩
    · cases e
    · exact ⟨z1, x⟩
  | [a], _ =>
    rcases g with ⟨⟨t, e, _⟩, _⟩ | ⟨_, x⟩
    · cases e
    · exact ⟨z1, x⟩
  | [a, b], _ =>
    rcases g with ⟨⟨t, e, _⟩, _⟩ | ⟨_, x⟩
    · cases e
    · exact ⟨z1, x⟩
  | [a, b, c, d], _ =>
    rcases g with ⟨⟨t, e, _⟩, _⟩ | ⟨_, x⟩
    · cases e
    · exact ⟨z1, x⟩
  | [a, b, c], _ =>
    show inR true (.int c) zq0 μ (fun d μ1 => match d with
      | .bl c => (if c = true then _ else _)
      | _ => False)
    rcases g with ⟨g, q⟩ | ⟨g, x⟩
    · rw [wi8 μ _ c (okS3 g)]
      exact q
    · rw [in_w fun z => g ⟨(a, b, c), rfl, z⟩]
      exact ⟨z1, x⟩
  | _ :: _ :: _ :: _ :: _ :: _, hl => exact absurd hl (by simp only [List.length_cons]; omega)
noncomputable def BadL (l : List (List Int)) : Prop := (∃ (ts : List T3) (xs : List Int) (rest : List (List Int)), l = ts.map kI ++ xs :: rest ∧ (∀ t ∈ ts, wy t) ∧ xs.length ≤ 4 ∧ ¬ okS xs) ∨ (∃ ts : List T3, l = ts.map kI ∧ (∀ t ∈ ts, wy t) ∧ ts.length < 60 ∧ ¬ ts.Pairwise Lt)
noncomputable def GbP (XE : XE3) (μ : Mu) (d : D) (R : List T3 → Prop) : Prop := (∃ ts : List T3, d = .tup (ts.map encT) ∧ Pc ts ∧ R ts) ∨ (∃ l, d = .tup (l.map encI) ∧ BadL l ∧ XE "NoPicture" μ)
theorem GbP.imp {XE : XE3} {μ : Mu} {d : D} {R R' : List T3 → Prop} (g : GbP XE μ d R) (k : ∀ ts, d = .tup (ts.map encT) → Pc ts → R ts → R' ts) : GbP XE μ d R' := by
  rcases g with ⟨ts, e, hp, r⟩ | b
  · exact .inl ⟨ts, e, hp, k ts e hp r⟩
  · exact .inr b
theorem yz1 (ts : List T3) : (ts.map kI).map encI = ts.map encT := by
  rw [List.map_map]
  rfl
theorem xj7 {a b c : T3} (h : Lt a b) (k : Lt b c) : Lt a c := by
  obtain ⟨x1, x2, x3⟩ := a
  obtain ⟨y1, y2, y3⟩ := b
  obtain ⟨z1, z2, z3⟩ := c
  simp only [Lt, lt3, Bool.or_eq_true, Bool.and_eq_true, decide_eq_true_eq, beq_iff_eq] at h k ⊢
  omega
theorem yd5 : ∀ {ts : List T3}, (∀ k, (h : k + 1 < ts.length) → Lt (ts[k]'(by omega)) ts[k + 1]) → ts.Pairwise Lt
  | [], _ => .nil
  | [t], _ => List.pairwise_singleton ..
  | t :: u :: ts, h => by
    have ih := yd5 (ts := u :: ts) fun k hk => h (k + 1) (by simpa using hk)
    have h0 : Lt t u := h 0 (by simp)
    refine List.Pairwise.cons (fun x hx => ?_) ih
    rcases List.mem_cons.mp hx with rfl | hx
    · exact h0
    · exact xj7 h0 (List.rel_of_pairwise_cons ih hx)
noncomputable def xa1 (XE : XE3) : Sp3 := fun ds μ Q => ∃ d, ds = [d] ∧ GbP XE μ d (fun _ => Q .non μ)
theorem wu5 {XE : XE3} {Q : VK3} {μ : Mu} {ts : List T3} {dd : Option D} (hl : ts.length < 60) (g : (ts.Pairwise Lt ∧ Q .non μ) ∨ (¬ ts.Pairwise Lt ∧ XE "NoPicture" μ)) :
    (for3 (ir23 (cons3 (c3 (.int 1)) (cons3 (call3 lenR (cons3 (v3 0) nil3)) nil3))) (gn3 2) (ifs3 (b3 (o3 ge3R (o3 ixR (v3 0) (o3 subR (v3 2) (c3 (.int 1)))) (o3 ixR (v3 0) (v3 2)))) (yq2 XE "NoPicture" (cons3 (c3 (.str "the strokes of a picture rise, each once")) nil3)) next3)) { nx := fun _ μ' => Q .non μ', rt := Q } [some (.tup (ts.map encT)), dd, none] μ := by
  refine ⟨⟨by decide, by decide, by rw [List.length_map]; omega, by rw [List.length_map]; omega⟩, ?_⟩
  refine ww0 (fun l ρ ν => ν = μ ∧ ∃ (k : Nat) (pp : Option D), l = rngD (1 + (k : Int)) (ts.length - 1 - k) ∧ ρ = [some (.tup (ts.map encT)), dd, pp] ∧ k ≤ ts.length ∧ ∀ j, j < k → (h : j + 1 < ts.length) → Lt (ts[j]'(by omega)) ts[j + 1]) ?_ (fun _ _ _ _ => trivial) ?_ ?_
  · refine ⟨rfl, 0, none, ?_, rfl, Nat.zero_le _, fun j hj => absurd hj (Nat.not_lt_zero _)⟩
    rw [List.length_map, show ((ts.length : Int) - 1).toNat = ts.length - 1 - 0 by omega]
    simp
  · rintro ρ μ2 ⟨rfl, k, pp, el, rfl, hk, hj⟩
    have e0 : ts.length - 1 - k = 0 := by
      cases c : ts.length - 1 - k with
      | zero => rfl
      | succ c' => rw [c, xb1] at el; cases el
    have up : ts.Pairwise Lt := yd5 fun j hj' => hj j (by omega) hj'
    rcases g with ⟨_, q⟩ | ⟨n, _⟩
    · exact q
    · exact absurd up n
  · rintro x rest ρ μ2 ⟨rfl, k, pp, e, rfl, hk, hj⟩
    cases n : ts.length - 1 - k with
    | zero => rw [n] at e; simp [rngD] at e
    | succ m =>
      rw [n, xb1] at e
      simp only [List.cons.injEq] at e
      obtain ⟨rfl, rfl⟩ := e
      obtain ⟨b1, e1⟩ := wu1 (ts := ts) (i := 1 + (k : Int) - 1) (by omega) (by omega)
      obtain ⟨b2, e2⟩ := wu1 (ts := ts) (i := 1 + (k : Int)) (by omega) (by omega)
      have i1 : (1 + (k : Int) - 1).toNat = k := by omega
      have i2 : (1 + (k : Int)).toNat = k + 1 := by omega
      simp only [i1] at e1
      simp only [i2] at e2
      have k1 : k + 1 < ts.length := by omega
      by_cases c : lt3 ts[k] ts[k + 1] = true
      · simp_arith [e1, e2, encT, ge3R, c]
        refine ⟨k + 1, _, ?_, rfl, by omega, fun j hj' h => ?_⟩
        · rw [show ts.length - 1 - (k + 1) = m by omega]
          congr 1
        · by_cases z : j = k
          · subst z; exact c
          · exact hj j (by omega) h
      · have c' : lt3 ts[k] ts[k + 1] = false := by simpa using c
        simp_arith [e1, e2, encT, ge3R, c']
        rcases g with ⟨up, _⟩ | ⟨_, x⟩
        · exact absurd (List.pairwise_iff_getElem.mp up k (k + 1) (by omega) k1 (by omega)) c
        · exact ⟨show 1 ≤ sizeLine by decide, x⟩
theorem ya7 (XE : XE3) (ds : List D) (μ : Mu) (Q : VK3) (h : xa1 XE ds μ Q) : we5 XE xm1 { nx := fun _ μ' => Q .non μ', rt := Q } (start3 zr4 ds) μ := by
  obtain ⟨d, rfl, g⟩ := h
  have good : ∀ ts : List T3, (∀ t ∈ ts, wy t) → ts.length < 60 → ((ts.Pairwise Lt ∧ Q .non μ) ∨ (¬ ts.Pairwise Lt ∧ XE "NoPicture" μ)) → we5 XE xm1 { nx := fun _ μ' => Q .non μ', rt := Q } (start3 zr4 [.tup (ts.map encT)]) μ := fun ts h2 h3 g => by
    refine ww0 (fun l ρ μ' => μ' = μ ∧ ∃ (us : List T3) (dd : Option D), l = us.map encT ∧ (∀ t ∈ us, wy t) ∧ ρ = [some (.tup (ts.map encT)), dd, none]) ?_ (fun _ _ _ _ => trivial) ?_ ?_
    · exact ⟨rfl, ts, none, rfl, h2, rfl⟩
    · rintro ρ μ' ⟨rfl, us, dd, e, _, rfl⟩
      exact wu5 h3 g
    · rintro x rest ρ μ' ⟨rfl, us, dd, e, hw, rfl⟩
      cases us with
      | nil => cases e
      | cons t us =>
        rw [List.map_cons] at e
        injection e with e1 e2
        subst e1 e2
        exact ⟨kI t, rfl, (show 3 ≤ 4 by decide), .inl ⟨⟨t, rfl, hw t (List.mem_cons_self ..)⟩, rfl, us, _, rfl, fun s hs => hw s (List.mem_cons_of_mem _ hs), rfl⟩⟩
  rcases g with ⟨ts, rfl, hp, q⟩ | ⟨l, rfl, hb, x⟩
  · exact good ts hp.2.1 hp.2.2 (.inl ⟨hp.1, q⟩)
  · rcases hb with ⟨ts, xs, rest, rfl, hw, h4, hn⟩ | ⟨ts, rfl, hw, hl, hn⟩
    · refine ww0 (fun l ρ μ' => μ' = μ ∧ ∃ (us : List T3) (dd : Option D), l = (us.map kI ++ xs :: rest).map encI ∧ (∀ t ∈ us, wy t) ∧ ∃ o0, ρ = [o0, dd, none]) ?_ (fun _ _ _ _ => trivial) ?_ ?_
      · exact ⟨rfl, ts, none, rfl, hw, _, rfl⟩
      · rintro ρ μ' ⟨rfl, us, dd, e, _, _⟩
        exfalso
        have := congrArg List.length e
        simp at this
      · rintro y r ρ μ' ⟨rfl, us, dd, e, hw', o0, rfl⟩
        cases us with
        | nil =>
          rw [List.map_nil, List.nil_append, List.map_cons] at e
          injection e with e1 e2
          subst e1
          exact ⟨xs, rfl, h4, .inr ⟨hn, x⟩⟩
        | cons t us =>
          rw [List.map_cons, List.cons_append, List.map_cons] at e
          injection e with e1 e2
          subst e1 e2
          exact ⟨kI t, rfl, (show 3 ≤ 4 by decide), .inl ⟨⟨t, rfl, hw' t (List.mem_cons_self ..)⟩, rfl, us, _, rfl, fun s hs => hw' s (List.mem_cons_of_mem _ hs), _, rfl⟩⟩
    · rw [yz1]
      exact good ts hw hl (.inr ⟨hn, x⟩)
noncomputable def xn0 (XE : XE3) : Sp3 := fun ds μ Q => ∃ d e, ds = [d, e] ∧ GbP XE μ d (fun _ => GbP XE μ e (fun _ => Q .non μ))
theorem xa7 (XE : XE3) (ds : List D) (μ : Mu) (Q : VK3) (h : xn0 XE ds μ Q) : wh6 XE xa1 { nx := fun _ μ' => Q .non μ', rt := Q } (start3 za6 ds) μ := by
  obtain ⟨d, e, rfl, g⟩ := h
  exact ⟨_, rfl, g.imp fun A _ _ r => ⟨_, rfl, r.imp fun B _ _ q => q⟩⟩
noncomputable def xy0 (XE : XE3) : Sp3 := fun ds μ Q => ∃ d x y, ds = [d, .int x, .int y] ∧ GbP XE μ d (fun ts => ∀ μ', Ext μ μ' → Q (.tup ((ts.map (mv x y)).map encT)) μ')
theorem zx6 (XE : XE3) (ds : List D) (μ : Mu) (Q : VK3) (h : xy0 XE ds μ Q) : yf6 XE xa1 xg5 { nx := fun _ μ' => Q .non μ', rt := Q } (start3 xy5 ds) μ := by
  obtain ⟨d, x, y, rfl, g⟩ := h
  refine ⟨_, rfl, g.imp fun ts e hp q => ?_⟩
  subst e
  intro p hp0
  refine xu0 (rest := [some (.int x), some (.int y)]) (fun d => encT (mv x y (decT d))) hp0 (zl hp.2.2) (fun _ _ => trivial) ?_ ?_
  · intro d hd μ' R ex k
    obtain ⟨t, ht, rfl⟩ := List.mem_map.mp hd
    exact ⟨t, x, y, rfl, k _ (Ext.refl _)⟩
  · intro μ' ex e
    rw [yi2] at e
    exact xf2 e (q μ' ex)
noncomputable def xt0 (XE : XE3) : Sp3 := fun ds μ Q => ∃ d n, ds = [d, .int n] ∧ GbP XE μ d (fun ts => ∀ (us : List T3) μ', Ext μ μ' → us.Perm (ts.map (tS (n % 4))) → us.Pairwise le3 → Q (.tup (us.map encT)) μ')
theorem wv6 (XE : XE3) (ds : List D) (μ : Mu) (Q : VK3) (h : xt0 XE ds μ Q) : wd6 XE xa1 spTs { nx := fun _ μ' => Q .non μ', rt := Q } (start3 zw5 ds) μ := by
  obtain ⟨d, n, rfl, g⟩ := h
  refine ⟨_, rfl, g.imp fun ts e hp q => ?_⟩
  subst e
  intro p hp0
  refine xu0 (rest := [some (.int n)]) (fun d => encT (tS (n % 4) (decT d))) hp0 (zl hp.2.2) (fun _ _ => trivial) ?_ ?_
  · intro d hd μ' R ex k
    obtain ⟨t, ht, rfl⟩ := List.mem_map.mp hd
    exact ⟨(show (0 : Int) < 4 by decide), t, n % 4, rfl, hp.2.1 t ht, mod4 n, k _ (Ext.refl _)⟩
  · intro μ' ex e
    rw [yi2] at e
    refine zj6 e (by rw [List.length_map]; have := hp.2.2; omega) fun us a1 a2 r hr => xf2 yb0 (q us _ (ex.trans (Ext.new hr)) a1 a2)
noncomputable def zn2 (XE : XE3) : Sp3 := fun ds μ Q => ∃ d, ds = [d] ∧ GbP XE μ d (fun ts => ∀ (us : List T3) μ', Ext μ μ' → us.Perm (ts.map mS) → us.Pairwise le3 → Q (.tup (us.map encT)) μ')
theorem xy6 (XE : XE3) (ds : List D) (μ : Mu) (Q : VK3) (h : zn2 XE ds μ Q) : wf6 XE xa1 spMs { nx := fun _ μ' => Q .non μ', rt := Q } (start3 zy5 ds) μ := by
  obtain ⟨d, rfl, g⟩ := h
  refine ⟨_, rfl, g.imp fun ts e hp q => ?_⟩
  subst e
  intro p hp0
  refine xu0 (rest := []) (fun d => encT (mS (decT d))) hp0 (zl hp.2.2) (fun _ _ => trivial) ?_ ?_
  · intro d hd μ' R ex k
    obtain ⟨t, ht, rfl⟩ := List.mem_map.mp hd
    exact ⟨t, rfl, hp.2.1 t ht, k _ (Ext.refl _)⟩
  · intro μ' ex e
    rw [yi2] at e
    refine zj6 e (by rw [List.length_map]; have := hp.2.2; omega) fun us a1 a2 r hr => xf2 yb0 (q us _ (ex.trans (Ext.new hr)) a1 a2)
theorem GbP.of {XE : XE3} {μ : Mu} {ts : List T3} {R : List T3 → Prop} (hp : Pc ts) (r : R ts) : GbP XE μ (.tup (ts.map encT)) R := .inl ⟨ts, rfl, hp, r⟩
noncomputable def wl1 (XE : XE3) : Sp3 := fun ds μ Q => ∃ (ts : List T3) (m q : Int), ds = [.tup (ts.map encT), encQ (m, q)] ∧ Pc ts ∧ (m = 0 ∨ m = 1) ∧ ∀ μ', Ext μ μ' → Q (.tup ((Wy m q ts).map encT)) μ'
theorem zp3 {f g : T3 → T3} {us ts : List T3} (hw : ∀ t ∈ ts, wy t) (h : ∀ t, wy t → f t = g t) (p : us.Perm (ts.map f)) : us.Perm (ts.map g) := by rw [← wi7 hw h]; exact p
theorem wy6 (XE : XE3) (ds : List D) (μ : Mu) (Q : VK3) (h : wl1 XE ds μ Q) : zg6 XE zn2 xt0 { nx := fun _ μ' => Q .non μ', rt := Q } (start3 yz5 ds) μ := by
  obtain ⟨ts, m, q, rfl, hp, hm, k⟩ := h
  rcases hm with rfl | rfl
  · refine ⟨_, q, rfl, .of hp fun us μ' ex a1 a2 => ?_⟩
    have e := zf5 (zp3 hp.2.1 (fun t ht => (wx4 ht).symm) a1) a2
    subst e
    exact k μ' ex
  · refine ⟨_, rfl, .of hp fun us μ1 ex a1 a2 => ?_⟩
    have b1 := zp3 (g := lawS 1 0 0 0) hp.2.1 (fun t ht => (xy4 ht).symm) a1
    have e := zf5 b1 a2
    have pu : Pc us := by rw [e]; exact xo5 hp (.inr rfl)
    refine ⟨_, q, rfl, .of pu fun vs μ2 ex2 c1 c2 => ?_⟩
    have c3 : vs.Perm (ts.map (lawS 1 q 0 0)) := by
      refine c1.trans ((a1.map _).trans ?_)
      rw [List.map_map]
      exact List.Perm.of_eq (List.map_congr_left fun t ht => (wj7 (hp.2.1 t ht)).symm)
    have e2 := zf5 c3 c2
    subst e2
    exact k μ2 (ex.trans ex2)
noncomputable def wx0 (XE : XE3) : Sp3 := fun ds μ Q => ∃ (one other : List T3), ds = [.tup (one.map encT), .tup (other.map encT)] ∧ Pc one ∧ ∀ μ', Ext μ μ' → Q (shD (shf one other)) μ'
theorem yw6 (XE : XE3) (ds : List D) (μ : Mu) (Q : VK3) (h : wx0 XE ds μ Q) : xe6 XE xy0 { nx := fun _ μ' => Q .non μ', rt := Q } (start3 ww5 ds) μ := by
  obtain ⟨one, other, rfl, hp, k⟩ := h
  show (if (!decide (((one.map encT).length : Int) = ((other.map encT).length : Int))) = true then _ else _)
  rw [List.length_map, List.length_map]
  by_cases c : (one.length : Int) = other.length
  · rw [decide_eq_true c]
    show (if decide (((one.map encT).length : Int) = 0) = true then _ else _)
    cases one with
    | nil =>
      cases other with
      | cons _ _ => exfalso; rw [List.length_cons, List.length_nil] at c; omega
      | nil => exact ⟨z2, k μ (Ext.refl _)⟩
    | cons a one =>
      cases other with
      | nil => exfalso; rw [List.length_cons, List.length_nil] at c; omega
      | cons b other =>
        rw [decide_eq_false (by rw [List.length_map, List.length_cons]; omega)]
        have e1 : atI ((b :: other).map encT) 0 = some (encT b) := atI0
        have e2 : atI ((a :: one).map encT) 0 = some (encT a) := atI0
        conv => whnf
        rw [e1]
        conv => whnf
        rw [e2]
        conv => whnf
        rw [e1]
        conv => whnf
        rw [e2]
        refine ⟨z2, _, b.1 - a.1, b.2.1 - a.2.1, rfl, .of (ts := a :: one) hp fun μ1 ex => ?_⟩
        have hq := k μ1 ex
        unfold shf at hq
        rw [if_neg (by omega)] at hq
        dsimp only at hq
        show neR (.tup (((a :: one).map (mv (b.1 - a.1) (b.2.1 - a.2.1))).map encT)) (.tup ((b :: other).map encT)) μ1 (fun d μ1 => match d with
          | .bl c => (if c = true then _ else _)
          | _ => False)
        rw [xi8]
        by_cases c2 : (a :: one).map (mv (b.1 - a.1) (b.2.1 - a.2.1)) = b :: other
        · rw [if_pos c2] at hq
          rw [decide_eq_true c2]
          exact hq
        · rw [if_neg c2] at hq
          rw [decide_eq_false c2]
          exact hq
  · rw [decide_eq_false c]
    have hq := k μ (Ext.refl _)
    unfold shf at hq
    rw [if_pos (by omega)] at hq
    exact hq
noncomputable def enc4 (t : Int × Int × Int × Int) : D := .tup [.int t.1, .int t.2.1, .int t.2.2.1, .int t.2.2.2]
noncomputable def lays : List (Int × Int) := [(0, 0), (0, 1), (0, 2), (0, 3), (1, 0), (1, 1), (1, 2), (1, 3)]
noncomputable def kf (ts : List T3) (l : Int × Int) : Option (Int × Int × Int × Int) := match shf (Wy l.1 l.2 ts) ts with
  | some p => some (l.1, l.2, p.1, p.2)
  | none => none
noncomputable def yi8 (ts : List T3) : List (Int × Int × Int × Int) := lays.filterMap (kf ts)
noncomputable def WKb (ts : List T3) (p : Addr) (μ : Mu) : List D → St3 → Mu → Prop := fun l ρ μ' => ∃ (done rest : List (Int × Int)) (ll ss : Option D), l = rest.map encQ ∧ done ++ rest = lays ∧
  ρ = [some (.tup (ts.map encT)), some (.ref p), ll, ss] ∧ Ext μ μ' ∧ μ' p = some (.lst ((done.filterMap (kf ts)).map enc4))
theorem zx4 {m q : Int} (h : (m, q) ∈ lays) : m = 0 ∨ m = 1 := by
  have : ∀ x ∈ lays, x.1 = 0 ∨ x.1 = 1 := by decide
  exact this _ h
theorem zk6 {ts : List T3} {d r : List (Int × Int)} (e : d ++ r = lays) : ((d.filterMap (kf ts)).map enc4).length < sizeLine := by
  have h1 := List.length_filterMap_le (kf ts) d
  have h2 := congrArg List.length e
  rw [List.length_append] at h2
  have h3 : lays.length = 8 := rfl
  have : (100 : Nat) < sizeLine := by decide
  rw [List.length_map]
  omega
noncomputable def zf2 (XE : XE3) : Sp3 := fun ds μ Q => ∃ d, ds = [d] ∧ GbP XE μ d (fun ts => ∀ p μ', μ p = none → Ext μ μ' → μ' p = some (.lst ((yi8 ts).map enc4)) → Q (.ref p) μ')
theorem xz6 (XE : XE3) (ds : List D) (μ : Mu) (Q : VK3) (h : zf2 XE ds μ Q) : wg6 XE xa1 wl1 wx0 { nx := fun _ μ' => Q .non μ', rt := Q } (start3 zz5 ds) μ := by
  obtain ⟨d, rfl, g⟩ := h
  refine ⟨_, rfl, g.imp fun ts e hp k => ?_⟩
  subst e
  refine ⟨(show 0 ≤ sizeLine by decide), fun p hp0 => ?_⟩
  refine ww0 (WKb ts p μ) ?_ (fun _ _ _ _ => trivial) ?_ ?_
  · exact ⟨[], lays, none, none, rfl, rfl, rfl, Ext.new hp0, yb0⟩
  · rintro ρ μ' ⟨done, rest, ll, ss, el, ed, rfl, ex, em⟩
    cases rest with
    | cons _ _ => cases el
    | nil =>
      rw [List.append_nil] at ed
      subst ed
      exact k p μ' hp0 ex em
  · rintro d r ρ μ' ⟨done, rest, ll, ss, el, ed, rfl, ex, em⟩
    cases rest with
    | nil => cases el
    | cons a rest =>
      obtain ⟨m, q⟩ := a
      rw [List.map_cons] at el
      injection el with e1 e2
      subst e1 e2
      have hm : m = 0 ∨ m = 1 := zx4 (q := q) (by rw [← ed]; simp)
      refine ⟨ts, m, q, rfl, hp, hm, fun μ1 ex1 => ⟨Wy m q ts, ts, rfl, xo5 hp hm, fun μ2 ex2 => ?_⟩⟩
      have em2 := ex2 _ _ (ex1 _ _ em)
      have ed2 : (done ++ [(m, q)]) ++ rest = lays := by rw [← ed]; simp
      cases es : shf (Wy m q ts) ts with
      | none =>
        exact ⟨done ++ [(m, q)], rest, _, _, rfl, ed2, rfl, (ex.trans ex1).trans ex2, by rw [List.filterMap_append]; simp only [List.filterMap_cons, List.filterMap_nil, kf, es, List.append_nil]; exact em2⟩
      | some xy =>
        conv => whnf
        rw [em2]
        refine ⟨show 4 ≤ sizeLine by decide, ?_⟩
        conv => whnf
        rw [em2]
        refine ⟨zk6 ed, ?_⟩
        refine ⟨done ++ [(m, q)], rest, _, _, rfl, ed2, rfl, fun c o hc => ?_, ?_⟩
        · rw [xc0 (xh0 hc hp0)]
          exact ex2 _ _ (ex1 _ _ (ex c o hc))
        · rw [yb0, List.filterMap_append, List.map_append]
          simp only [List.filterMap_cons, List.filterMap_nil, kf, es]
          rfl
noncomputable def sg (A B : List T3) (l : Int × Int) : Bool := (shf (Wy l.1 l.2 A) B).isSome
noncomputable def ss (A B : List T3) : Bool := lays.any (sg A B)
noncomputable def decQ : D → Int × Int
  | .tup [.int a, .int b] => (a, b)
  | _ => (0, 0)
theorem xa4 {α : Type} (g : α → Bool) : ∀ L : List α, bls? (L.map fun x => D.bl (g x)) = some (L.map g)
  | [] => rfl
  | a :: L => by simp only [List.map_cons, bls?, xa4 g L]
theorem yl8 {p : Addr} {l : List D} {bs : List Bool} {μ : Mu} {Q : VK3} (h : μ p = some (.lst l)) (e : bls? l = some bs) (k : Q (.bl (bs.any id)) μ) : anyR [.ref p] μ Q := by
  unfold anyR
  simp only [h, e]
  exact k
noncomputable def yf2 (XE : XE3) : Sp3 := fun ds μ Q => ∃ d e, ds = [d, e] ∧ GbP XE μ d (fun A => GbP XE μ e (fun B => ∀ μ', Ext μ μ' → Q (.bl (ss A B)) μ'))
theorem zw6 (XE : XE3) (ds : List D) (μ : Mu) (Q : VK3) (h : yf2 XE ds μ Q) : ye6 XE xn0 wl1 wx0 { nx := fun _ μ' => Q .non μ', rt := Q } (start3 xx5 ds) μ := by
  obtain ⟨d, e, rfl, g⟩ := h
  refine ⟨_, _, rfl, g.imp fun A e1 hA r => r.imp fun B e2 hB q => ?_⟩
  subst e1 e2
  intro p hp
  refine xu0 (l := lays.map encQ) (rest := [some (.tup (B.map encT)), some (.tup (A.map encT))]) (fun d => .bl (sg A B (decQ d))) hp (show 8 ≤ sizeLine by decide) (fun _ _ => trivial) ?_ ?_
  · intro d hd μ' R ex k
    obtain ⟨⟨m, n⟩, ht, rfl⟩ := List.mem_map.mp hd
    have hm := zx4 ht
    refine ⟨A, m, n, rfl, hA, hm, fun μ1 e1 => ⟨Wy m n A, B, rfl, xo5 hA hm, fun μ2 e2 => ?_⟩⟩
    have kk := k μ2 (e1.trans e2)
    have e : sg A B (decQ (encQ (m, n))) = (shf (Wy m n A) B).isSome := rfl
    rw [e] at kk
    cases es : shf (Wy m n A) B with
    | none => rw [es] at kk; exact kk
    | some xy => rw [es] at kk; exact kk
  · intro μ' ex e
    have e2 : (lays.map encQ).map (fun d => D.bl (sg A B (decQ d))) = lays.map fun l => D.bl (sg A B l) := by rw [List.map_map]; rfl
    rw [e2] at e
    refine yl8 e (xa4 _ _) ?_
    have := q μ' ex
    rwa [show (lays.map (sg A B)).any id = ss A B from by rw [List.any_map]; rfl]
theorem zt4 {ts : List T3} (h : ts.length < 63) : SB ts := fun l nd hl => Nat.lt_of_le_of_lt (List.Nodup.length_le_of_subset nd fun x hx => hl x hx) h
theorem wn6 {A B : List T3} (h : A.length + B.length < 62) : SB (A ++ B) := zt4 (by rw [List.length_append]; omega)
noncomputable def Is (us : List T3) (P : T3 → Prop) : Prop := us.Nodup ∧ us.Pairwise le3 ∧ ∀ x, x ∈ us ↔ P x
theorem Is.of {us ks : List T3} {P : T3 → Prop} (nd : ks.Nodup) (al : ∀ x, x ∈ ks ↔ P x) (p : us.Perm ks) (u : us.Pairwise le3) : Is us P := ⟨p.nodup_iff.mpr nd, u, fun x => by rw [p.mem_iff, al]⟩
noncomputable def spPw : Sp3 := fun ds μ Q => ∃ ts : List T3, ds = [.tup (ts.map encT)] ∧ SB ts ∧ ∀ us μ', Ext μ μ' → Is us (· ∈ ts) → Q (.tup (us.map encT)) μ'
theorem ww6 (ds : List D) (μ : Mu) (Q : VK3) (h : spPw ds μ Q) : ze6 { nx := fun _ μ' => Q .non μ', rt := Q } (start3 yx5 ds) μ := by
  obtain ⟨ts, rfl, hb, q⟩ := h
  refine ⟨ts, rfl, hb, fun ks nd al us b1 b2 r hr => ?_⟩
  dsimp only [nil3]
  exact xf2 yb0 (q us _ (Ext.new hr) (.of nd al b1 b2))
theorem z60 {A B : List T3} (h : A.length + B.length < 60) : (A.map encT).length + (B.map encT).length ≤ sizeLine := by
  have : (100 : Nat) < sizeLine := by decide
  rw [List.length_map, List.length_map]
  omega
theorem zv2 {A : List T3} (h : Pc A) : SB A := zt4 (by have := h.2.2; omega)
theorem xd3 {A ks : List T3} (nd : ks.Nodup) (al : ∀ x, x ∈ ks ↔ x ∈ A) : ks.length ≤ A.length := List.Nodup.length_le_of_subset nd fun x hx => (al x).mp hx
noncomputable def xk0 (XE : XE3) : Sp3 := fun ds μ Q => ∃ d e, ds = [d, e] ∧ GbP XE μ d (fun A => GbP XE μ e (fun B => A.length + B.length < 60 ∧ ∀ x μ', Ext μ μ' → Q x μ'))
theorem za8 (XE : XE3) (ds : List D) (μ : Mu) (Q : VK3) (h : xk0 XE ds μ Q) : t_q9 XE xn0 spPw { nx := fun _ μ' => Q .non μ', rt := Q } (start3 N_q9 ds) μ := by
  obtain ⟨d, e, rfl, g⟩ := h
  refine ⟨_, _, rfl, g.imp fun A e1 hA r => r.imp fun B e2 hB q => ?_⟩
  subst e1 e2
  exact ⟨z60 q.1, A ++ B, by rw [List.map_append], wn6 (by have := q.1; omega), fun us μ' ex i => q.2 _ μ' ex⟩
theorem zz6 (XE : XE3) (ds : List D) (μ : Mu) (Q : VK3) (h : xk0 XE ds μ Q) : yh6 XE xn0 { nx := fun _ μ' => Q .non μ', rt := Q } (start3 xa6 ds) μ := by
  obtain ⟨d, e, rfl, g⟩ := h
  refine ⟨_, _, rfl, g.imp fun A e1 hA r => r.imp fun B e2 hB q => ?_⟩
  subst e1 e2
  refine ⟨A, rfl, zv2 hA, fun k1 n1 a1 => ⟨B, rfl, zv2 hB, fun k2 n2 a2 => ⟨?_, fun ks nd al us b1 b2 r hr => ?_⟩⟩⟩
  · have := xd3 n1 a1
    have := xd3 n2 a2
    have := q.1
    omega
  · dsimp only [nil3]
    exact xf2 yb0 (q.2 _ _ (Ext.new hr))
theorem xv6 (XE : XE3) (ds : List D) (μ : Mu) (Q : VK3) (h : xk0 XE ds μ Q) : xd6 XE xn0 { nx := fun _ μ' => Q .non μ', rt := Q } (start3 wv5 ds) μ := by
  obtain ⟨d, e, rfl, g⟩ := h
  refine ⟨_, _, rfl, g.imp fun A e1 hA r => r.imp fun B e2 hB q => ?_⟩
  subst e1 e2
  refine ⟨A, rfl, zv2 hA, fun k1 n1 a1 => ⟨B, rfl, zv2 hB, fun k2 n2 a2 => ⟨?_, fun ks nd al us b1 b2 r hr => ?_⟩⟩⟩
  · have := xd3 n1 a1
    have := xd3 n2 a2
    have := q.1
    omega
  · dsimp only [nil3]
    exact xf2 yb0 (q.2 _ _ (Ext.new hr))
theorem xx6 (XE : XE3) (ds : List D) (μ : Mu) (Q : VK3) (h : xk0 XE ds μ Q) : we6 XE xn0 { nx := fun _ μ' => Q .non μ', rt := Q } (start3 zx5 ds) μ := by
  obtain ⟨d, e, rfl, g⟩ := h
  refine ⟨_, _, rfl, g.imp fun A e1 hA r => r.imp fun B e2 hB q => ?_⟩
  subst e1 e2
  refine ⟨A, rfl, zv2 hA, fun k1 n1 a1 => ⟨B, rfl, zv2 hB, fun k2 n2 a2 => ⟨?_, fun ks nd al us b1 b2 r hr => ?_⟩⟩⟩
  · have := xd3 n1 a1
    have := xd3 n2 a2
    have := q.1
    omega
  · have qq := fun x => q.2 x _ (Ext.new (o := .lst (us.map encT)) hr)
    have e : updM μ r (.lst (us.map encT)) r = some (.lst (us.map encT)) := yb0
    cases us with
    | nil =>
      conv => whnf
      rw [e]
      exact qq _
    | cons a us =>
      conv => whnf
      rw [e]
      simp_arith [List.map_cons, List.length_cons]
      rw [if_neg (by omega)]
      exact ys2 (p := r) (i := 0) (μ := updM μ r (.lst (encT a :: us.map encT))) (K := Q) yb0 atI0 (qq _)
noncomputable def BL : List D := [.bl false, .bl false, .bl false, .bl true, .bl false, .bl false, .bl true]
theorem sx1 : subX "NoWord" "NoPicture" = some false := by decide
theorem sx2 : subX "NoRoom" "NoPicture" = some false := by decide
theorem sx3 : subX "NoStep" "NoPicture" = some false := by decide
theorem sx4 : subX "NoPicture" "NoPicture" = some true := by decide
theorem sx5 : subX "NoNumber" "NoPicture" = some false := by decide
theorem sx6 : subX "BadNote" "NoPicture" = some false := by decide
theorem sx7 : subX "ValueError" "NoPicture" = some true := by decide
noncomputable def spMk : Sp3 := fun ds μ Q => ds = [.exc "NoPicture"] ∧ ∀ p μ', Ext μ μ' → μ' p = some (.lst BL) → Q (.ref p) μ'
theorem wb8 (ds : List D) (μ : Mu) (Q : VK3) (h : spMk ds μ Q) : t_q4 { nx := fun _ μ' => Q .non μ', rt := Q } (start3 N_q4 ds) μ := by
  obtain ⟨rfl, q⟩ := h
  simp_arith [t_q4, N_q4, isx3, sx1, sx2, sx3, sx4, sx5, sx6, sx7]
  refine ⟨by decide, fun p hp => ⟨by decide, fun r hr => ?_⟩⟩
  have hpr : p ≠ r := xh0 yb0 hr
  simp_arith [xc0 hpr, yb0]
  refine ⟨by decide, fun t ht => q t _ (fun c o hc => ?_) yb0⟩
  have z1 : updM μ p (.lst [.bl false, .bl false, .bl false, .bl true]) c = some o := by rw [xc0 (xh0 hc hp)]; exact hc
  have z2 := (Ext.new (o := .lst [.bl false, .bl false, .bl true]) hr) c o z1
  rw [xc0 (xh0 z2 ht)]; exact z2
noncomputable def wf5 : Sp3 := fun ds μ Q => ∃ p, ds = [.ref p, .int 3] ∧ μ p = some (.lst BL) ∧ ∀ μ', Ext μ μ' → Q (.bl true) μ'
theorem yb8 (ds : List D) (μ : Mu) (Q : VK3) (h : wf5 ds μ Q) : t_q6 { nx := fun _ μ' => Q .non μ', rt := Q } (start3 N_q6 ds) μ := by
  obtain ⟨p, rfl, ep, q⟩ := h
  simp_arith [t_q6, N_q6]
  refine ⟨by decide, fun r hr => ?_⟩
  have hl : (rngD 0 (6 : Int).toNat).length ≤ sizeLine := by decide
  refine xu0 (fun x => match x with | .int i => .bl (decide (i = 3)) | _ => .non) hr hl (fun _ _ => trivial) ?_ ?_
  · intro x hx μ' R ex k
    obtain ⟨i, _, rfl⟩ := List.mem_map.mp hx
    simp_arith [cst0]
    exact k _ (Ext.refl _)
  · intro μ1 e1 y1
    have y2 : μ1 r = some (.lst [.bl false, .bl false, .bl false, .bl true, .bl false, .bl false]) := by rw [y1]; rfl
    refine ⟨by decide, fun t ht => ?_⟩
    have hrt : r ≠ t := xh0 y2 ht
    simp_arith [xc0 hrt, y2, yb0]
    refine ⟨by decide, fun z hz => ?_⟩
    have e2 : Ext μ (updM (updM μ1 t (.lst [.bl true])) z (.lst BL)) := e1.trans ((Ext.new ht).trans (Ext.new hz))
    have d1 : datM (updM (updM μ1 t (.lst [.bl true])) z (.lst BL)) (.ref p) = some (.list [.bool false, .bool false, .bool false, .bool true, .bool false, .bool false, .bool true]) := by
      have := e2 p _ ep
      simp only [datM, this]; rfl
    have d2 : datM (updM (updM μ1 t (.lst [.bl true])) z (.lst BL)) (.ref z) = some (.list [.bool false, .bool false, .bool false, .bool true, .bool false, .bool false, .bool true]) := by simp only [datM, yb0]; rfl
    have dp : (PyData.list [.bool false, .bool false, .bool false, .bool true, .bool false, .bool false, .bool true]).depth ≤ 64 := by decide
    show eqR (.ref p) (.ref z) (updM (updM μ1 t (.lst [.bl true])) z (.lst BL)) Q
    rw [zs5 rfl d1 d2 dp dp]
    have ev : PyData.eqv (.list [.bool false, .bool false, .bool false, .bool true, .bool false, .bool false, .bool true]) (.list [.bool false, .bool false, .bool false, .bool true, .bool false, .bool false, .bool true]) = true := by decide
    rw [ev]
    exact q _ e2
noncomputable def ya1 (XE : XE3) : Sp3 := fun ds μ Q => ∃ (w : Int) (d e : D), ds = [.int w, d, e] ∧ (0 ≤ w ∧ w < 9) ∧ GbP XE μ d (fun A => A.length < 20 ∧ (w < 4 → ∀ μ', Ext μ μ' → Q .non μ') ∧ (3 < w → GbP XE μ e (fun B => B.length < 20 ∧ ∀ μ', Ext μ μ' → Q .non μ')))
theorem zc8 (XE : XE3) (ds : List D) (μ : Mu) (Q : VK3) (h : ya1 XE ds μ Q) : t_q1 XE xk0 xk0 zf2 zn2 xy0 xk0 yf2 xt0 xk0 { nx := fun _ μ' => Q .non μ', rt := Q } (start3 N_q1 ds) μ := by
  obtain ⟨w, d, e, rfl, hw, g⟩ := h
  have two : 3 < w → GbP XE μ d (fun A => GbP XE μ e (fun B => A.length + B.length < 60 ∧ ∀ (_ : D) μ', Ext μ μ' → Q .non μ')) := fun h => g.imp fun A _ _ r => (r.2.2 h).imp fun B _ _ q => ⟨by have := r.1; have := q.1; omega, fun _ μ' ex => q.2 μ' ex⟩
  have c : w = 0 ∨ w = 1 ∨ w = 2 ∨ w = 3 ∨ w = 4 ∨ w = 5 ∨ w = 6 ∨ w = 7 ∨ w = 8 := by omega
  rcases c with rfl | rfl | rfl | rfl | rfl | rfl | rfl | rfl | rfl
  · exact ⟨d, 1, 2, rfl, g.imp fun ts _ _ r μ' ex => r.2.1 (by decide) μ' ex⟩
  · exact ⟨d, 0, rfl, g.imp fun ts _ _ r us μ' ex _ _ => r.2.1 (by decide) μ' ex⟩
  · exact ⟨d, rfl, g.imp fun ts _ _ r us μ' ex _ _ => r.2.1 (by decide) μ' ex⟩
  · exact ⟨d, rfl, g.imp fun ts _ _ r p μ' _ ex _ => r.2.1 (by decide) μ' ex⟩
  · exact ⟨d, e, rfl, two (by decide)⟩
  · exact ⟨d, e, rfl, two (by decide)⟩
  · exact ⟨d, e, rfl, two (by decide)⟩
  · exact ⟨d, e, rfl, two (by decide)⟩
  · exact ⟨d, e, rfl, g.imp fun A _ _ r => (r.2.2 (by decide)).imp fun B _ _ q μ' ex => q.2 μ' ex⟩
noncomputable def Tl (w : Int) (d e : D) (G B : Prop) : Prop := (∃ A C : List T3, d = .tup (A.map encT) ∧ e = .tup (C.map encT) ∧ Pc A ∧ Pc C ∧ A.length < 20 ∧ C.length < 20 ∧ G) ∨ (∃ l, d = .tup (l.map encI) ∧ BadL l ∧ B) ∨ (3 < w ∧ ∃ (A : List T3) (l : List (List Int)), d = .tup (A.map encT) ∧ Pc A ∧ A.length < 20 ∧ e = .tup (l.map encI) ∧ BadL l ∧ B)
noncomputable def zh3 : Sp3 := fun ds μ Q => ∃ (w : Int) (d e : D), ds = [.int w, d, e] ∧ (0 ≤ w ∧ w < 9) ∧ Tl w d e (∀ p μ', Ext μ μ' → μ' p = some (.lst []) → Q (.ref p) μ') (∀ p μ', Ext μ μ' → μ' p = some (.lst BL) → Q (.ref p) μ')
theorem wa8 (ds : List D) (μ : Mu) (Q : VK3) (h : zh3 ds μ Q) : t_q8 ya1 spMk { nx := fun _ μ' => Q .non μ', rt := Q } (start3 N_q8 ds) μ := by
  obtain ⟨w, d, e, rfl, hw, g⟩ := h
  refine ⟨by decide, fun p hp => ⟨w, d, e, rfl, hw, ?_⟩⟩
  rcases g with ⟨A, C, rfl, rfl, hA, hC, lA, lC, q⟩ | ⟨l, rfl, hb, q⟩ | ⟨h3, A, l, rfl, hA, lA, rfl, hb, q⟩
  · have fin : ∀ μ', Ext (updM μ p (.lst [])) μ' → Q (.ref p) μ' := fun μ' ex => q p μ' ((Ext.new hp).trans ex) (ex _ _ yb0)
    exact .inl ⟨A, rfl, hA, lA, fun _ μ' ex => fin μ' ex, fun _ => .inl ⟨C, rfl, hC, lC, fun μ' ex => fin μ' ex⟩⟩
  · exact .inr ⟨l, rfl, hb, by decide, rfl, fun r μ' ex er => q r μ' ((Ext.new hp).trans ex) er⟩
  · exact .inl ⟨A, rfl, hA, lA, fun h => absurd h (by omega), fun _ => .inr ⟨l, rfl, hb, by decide, rfl, fun r μ' ex er => q r μ' ((Ext.new hp).trans ex) er⟩⟩
theorem yf5 {cls c : Str} {b : Bool} (h : subX cls c = some b) : c ∈ xnames := by
  unfold subX at h
  split at h
  · next e => simpa using e
  · cases h
noncomputable abbrev D0 (Q : VK3) : Ends3 := { nx := fun _ μ' => Q .non μ', rt := Q }
theorem xq7 {α : Type} (l : List α) (i : Int) (h0 : 0 ≤ i) (h1 : i ≤ l.length) : cut3 l none (some i) = l.take i.toNat := by
  unfold cut3 sIx3
  simp only [if_neg (show ¬ i < 0 by omega), List.drop_zero, Nat.sub_zero]
  rw [show min i.toNat l.length = i.toNat by omega]
theorem wp7 {α : Type} (l : List α) (i : Int) (h0 : 0 ≤ i) (h1 : i ≤ l.length) : cut3 l (some i) none = l.drop i.toNat := by
  unfold cut3 sIx3
  simp only [if_neg (show ¬ i < 0 by omega)]
  rw [show min i.toNat l.length = i.toNat by omega]
  apply List.take_of_length_le
  rw [List.length_drop]
  exact Nat.le_refl _
theorem wz4 {n : Nat} {i : Int} (h0 : 0 ≤ i) (h1 : i < n) : ixN n i = some i.toNat := by
  unfold ixN
  rw [if_pos h0, if_pos (by omega)]
theorem wj1 {x : T3} : ¬ Lt x x := fun h => by simp [Lt, lt3] at h
theorem wa4 {ts : List T3} {s : Nat} (hs : s < ts.length) : ¬ (ts.take (s + 1) ++ ts.drop s).Pairwise Lt := fun h => by
  have m1 : ts[s] ∈ ts.take (s + 1) := List.mem_iff_getElem.mpr ⟨s, by rw [List.length_take]; omega, by rw [List.getElem_take]⟩
  have m2 : ts[s] ∈ ts.drop s := List.mem_iff_getElem.mpr ⟨0, by rw [List.length_drop]; omega, by simp⟩
  have h1 := (List.pairwise_append.mp h).2.2 _ m1 _ m2
  exact wj1 h1
theorem zq4 {ts : List T3} (hp : ts.Pairwise Lt) {s : Nat} (hs : s + 1 < ts.length) : ¬ ((ts.set s ts[s + 1]).set (s + 1) (ts[s]'(by omega))).Pairwise Lt := fun h => by
  have z := List.pairwise_iff_getElem.mp h s (s + 1) (by simp; omega) (by simp; omega) (by omega)
  have k := List.pairwise_iff_getElem.mp hp s (s + 1) (by omega) hs (by omega)
  rw [List.getElem_set_ne (by omega), List.getElem_set_self, List.getElem_set_self] at z
  exact wj1 (xj7 k z)
theorem xc4 {p q : Addr} {l m : List D} {μ : Mu} {Q : VK3} (h1 : μ p = some (.lst l)) (h2 : μ q = some (.lst m)) (hz : l.length + m.length ≤ sizeLine) (k : ∀ r, μ r = none → Q (.ref r) (updM μ r (.lst (l ++ m)))) : addR (.ref p) (.ref q) μ Q := by
  unfold addR
  simp only [h1, h2]
  exact ⟨hz, k⟩
theorem xw7 (far : Int) (hf : 2 ≤ far) {i : Int} (h0 : 0 ≤ i) (h1 : i < 7) : ∃ xs : List Int, atI [.tup [.int 0, .int 0, .int 2], .tup [.int 0, .int 0, .int (-1)], .tup [.int 0, .int 0], .tup [.int 0, .int 0, .int 0, .int 0], .tup [], .tup [.int 0, .int 0, .int far], .tup [.int far, .int far, .int (0 - far)]] i = some (encI xs) ∧ xs.length ≤ 4 ∧ ¬ okS xs := by
  have c : i = 0 ∨ i = 1 ∨ i = 2 ∨ i = 3 ∨ i = 4 ∨ i = 5 ∨ i = 6 := by omega
  rcases c with rfl | rfl | rfl | rfl | rfl | rfl | rfl
  · exact ⟨[0, 0, 2], rfl, by decide, fun h => absurd (okS3 h) (by decide)⟩
  · exact ⟨[0, 0, -1], rfl, by decide, fun h => absurd (okS3 h) (by decide)⟩
  · exact ⟨[0, 0], rfl, by decide, fun ⟨t, e, _⟩ => by have := congrArg List.length e; simp [kI] at this⟩
  · exact ⟨[0, 0, 0, 0], rfl, by decide, fun ⟨t, e, _⟩ => by have := congrArg List.length e; simp [kI] at this⟩
  · exact ⟨[], rfl, by decide, fun ⟨t, e, _⟩ => by have := congrArg List.length e; simp [kI] at this⟩
  · exact ⟨[0, 0, far], rfl, (show 3 ≤ 4 by decide), fun h => by have := okS3 h; omega⟩
  · exact ⟨[far, far, 0 - far], rfl, (show 3 ≤ 4 by decide), fun h => by have := okS3 h; omega⟩
noncomputable def xi3 : Sp3 := fun ds μ Q => ∃ (z : Addr) (a : Int) (b : Bool), ds = [.ref z] ∧ μ z = some (.lst [.int a, .bl b]) ∧ 0 ≤ a ∧ ∀ l μ', BadL l → Q (.tup (l.map encI)) μ'
theorem ws5 (A : List T3) (xs : List Int) (B : List T3) : (A.map kI ++ xs :: B.map kI).map encI = A.map encT ++ encI xs :: B.map encT := by
  rw [List.map_append, List.map_cons, yz1, yz1]
theorem bp6 {Q : VK3} (q : ∀ l μ', BadL l → Q (.tup (l.map encI)) μ') {z g : Addr} {a far at' : Int} {b : Bool} {ts : List T3} {o4 o5 : Option D} {μ : Mu} (hz : μ z = some (.lst [.int a, .bl b])) (ha : 0 ≤ a) (hg : μ g = some (.lst (ts.map encT))) (hp : Pc ts) (hf : 2 ≤ far) (t0 : 0 ≤ at') (t1 : at' ≤ ts.length) :
    xj0 wg0 xg2 (D0 Q) [some (.ref z), some (.ref g), some (.int far), some (.int at'), o4, o5, none] μ := by
  have z100 : (200 : Nat) < sizeLine := by decide
  have hzg : z ≠ g := fun e => by
    subst e
    rw [hz] at hg
    injection hg with hg
    injection hg with hg
    cases ts with
    | nil => cases hg
    | cons t ts => injection hg with h1 _; cases h1
  refine ⟨z3, z3, z2, (show 4 ≤ sizeLine by decide), (show 0 ≤ sizeLine by decide), z3, z3, (show 7 ≤ sizeLine by decide), fun p2 hp2 => ?_⟩
  have hz2 : z ≠ p2 := xh0 hz hp2
  have hg2 : g ≠ p2 := xh0 hg hp2
  refine ⟨z, 7, a, b, [], rfl, by decide, by decide, by rw [xc0 hz2]; exact hz, ha, fun i a5 i0 i1 a5n => ?_⟩
  obtain ⟨xs, e, h4, hn⟩ := xw7 far hf i0 i1
  refine ys2 (by rw [xc0 (Ne.symm hz2), yb0]) e ?_
  have hg3 : updM (updM μ p2 (.lst [.tup [.int 0, .int 0, .int 2], .tup [.int 0, .int 0, .int (-1)], .tup [.int 0, .int 0], .tup [.int 0, .int 0, .int 0, .int 0], .tup [], .tup [.int 0, .int 0, .int far], .tup [.int far, .int far, .int (0 - far)]])) z (.lst [.int a5, .bl b]) g = some (.lst (ts.map encT)) := by rw [xc0 (Ne.symm hzg), xc0 hg2]; exact hg
  generalize updM (updM μ p2 (.lst [.tup [.int 0, .int 0, .int 2], .tup [.int 0, .int 0, .int (-1)], .tup [.int 0, .int 0], .tup [.int 0, .int 0, .int 0, .int 0], .tup [], .tup [.int 0, .int 0, .int far], .tup [.int far, .int far, .int (0 - far)]])) z (.lst [.int a5, .bl b]) = μ3 at hg3
  have ll : (ts.map encT).length = ts.length := List.length_map _
  have hl := hp.2.2
  conv => whnf
  rw [hg3]
  intro r1 hr1
  rw [xq7 _ at' t0 (by rw [ll]; exact t1)]
  refine ⟨(show 1 ≤ sizeLine by decide), fun r2 hr2 => ?_⟩
  have e1 : updM (updM μ3 r1 (.lst ((ts.map encT).take at'.toNat))) r2 (.lst [encI xs]) r1 = some (.lst ((ts.map encT).take at'.toNat)) := Ext.new hr2 _ _ yb0
  have eg : updM (updM μ3 r1 (.lst ((ts.map encT).take at'.toNat))) r2 (.lst [encI xs]) g = some (.lst (ts.map encT)) := Ext.new hr2 _ _ (Ext.new hr1 _ _ hg3)
  refine xc4 e1 yb0 (by rw [List.length_take]; simp only [List.length_cons, List.length_nil]; omega) fun r3 hr3 => ?_
  have eg3 := Ext.new (o := .lst ((ts.map encT).take at'.toNat ++ [encI xs])) hr3 _ _ eg
  conv => whnf
  rw [eg3]
  intro r4 hr4
  rw [wp7 _ at' t0 (by rw [ll]; exact t1)]
  refine xc4 (Ext.new hr4 _ _ yb0) yb0 (by rw [List.length_append, List.length_take, List.length_drop]; simp only [List.length_cons, List.length_nil]; omega) fun r5 hr5 => ?_
  conv => whnf
  rw [yb0]
  have := q ((ts.take at'.toNat).map kI ++ xs :: (ts.drop at'.toNat).map kI) (updM (updM (updM (updM (updM μ3 r1 (.lst ((ts.map encT).take at'.toNat))) r2 (.lst [encI xs])) r3 (.lst ((ts.map encT).take at'.toNat ++ [encI xs]))) r4 (.lst ((ts.map encT).drop at'.toNat))) r5 (.lst ((ts.map encT).take at'.toNat ++ [encI xs] ++ (ts.map encT).drop at'.toNat))) (.inl ⟨_, xs, _, rfl, fun t ht => hp.2.1 t (List.mem_of_mem_take ht), h4, hn⟩)
  rw [ws5, List.map_take, List.map_drop] at this
  have e2 : (ts.map encT).take at'.toNat ++ [encI xs] ++ (ts.map encT).drop at'.toNat = (ts.map encT).take at'.toNat ++ encI xs :: (ts.map encT).drop at'.toNat := by simp
  rw [e2] at this ⊢
  exact this
theorem yo4 {Q : VK3} (q : ∀ l μ', BadL l → Q (.tup (l.map encI)) μ') {Dd : Ends3} (hD : Dd.rt = Q) {o0 o2 o3' o4 o6 : Option D} {g : Addr} {s : Int} {ts : List T3} {μ : Mu} (hg : μ g = some (.lst (ts.map encT))) (hp : Pc ts) (h8 : ts.length < 50) (s0 : 0 ≤ s) (s1 : s < ((ts.map encT).length : Int)) :
    (ret3 (call3 tupR (cons3 (o3 addR (sl3 slR (v3 1) np3 (pt3 (o3 addR (v3 5) (c3 (.int 1))))) (sl3 slR (v3 1) (pt3 (v3 5)) np3)) nil3))) Dd [o0, some (.ref g), o2, o3', o4, some (.int s), o6] μ := by
  have z100 : (200 : Nat) < sizeLine := by decide
  have ll : (ts.map encT).length = ts.length := List.length_map _
  have hl := hp.2.2
  conv => whnf
  rw [hg]
  intro r1 hr1
  rw [xq7 _ (s + 1) (by omega) (by omega)]
  have eg : updM μ r1 (.lst ((ts.map encT).take (s + 1).toNat)) g = some (.lst (ts.map encT)) := Ext.new hr1 _ _ hg
  conv => whnf
  rw [eg]
  intro r2 hr2
  rw [wp7 _ s s0 (by omega)]
  refine xc4 (Ext.new hr2 _ _ yb0) yb0 (by rw [List.length_take, List.length_drop]; omega) fun r3 hr3 => ?_
  conv => whnf
  rw [yb0, hD]
  have e1 : (s + 1).toNat = s.toNat + 1 := by omega
  have hs : s.toNat < ts.length := by omega
  have := q ((ts.take (s.toNat + 1) ++ ts.drop s.toNat).map kI) (updM (updM (updM μ r1 (.lst ((ts.map encT).take (s + 1).toNat))) r2 (.lst ((ts.map encT).drop s.toNat))) r3 (.lst ((ts.map encT).take (s + 1).toNat ++ (ts.map encT).drop s.toNat)))
    (.inr ⟨_, rfl, fun t ht => hp.2.1 t ((List.mem_append.mp ht).elim List.mem_of_mem_take List.mem_of_mem_drop), by rw [List.length_append, List.length_take, List.length_drop]; omega, wa4 hs⟩)
  rw [yz1, List.map_append, List.map_take, List.map_drop] at this
  rw [e1] at this ⊢
  exact this
theorem wg3 {Q : VK3} (q : ∀ l μ', BadL l → Q (.tup (l.map encI)) μ') {Dd : Ends3} (hD : Dd.rt = Q) {o0 o2 o3' o4 o6 : Option D} {g : Addr} {s : Int} {ts : List T3} {μ : Mu} (hg : μ g = some (.lst (ts.map encT))) (hp : Pc ts) (s0 : 0 ≤ s) (s1 : s < ((ts.map encT).length : Int) - 1) :
    (seq3 (asg3 (tup3 (cons3 (o3 ixR (v3 1) (o3 addR (v3 5) (c3 (.int 1)))) (cons3 (o3 ixR (v3 1) (v3 5)) nil3))) (gtup3 2 (gcons3 (sub3 (v3 1) (v3 5)) (gcons3 (sub3 (v3 1) (o3 addR (v3 5) (c3 (.int 1)))) gnil3)))) (ret3 (call3 tupR (cons3 (v3 1) nil3)))) Dd [o0, some (.ref g), o2, o3', o4, some (.int s), o6] μ := by
  have ll : (ts.map encT).length = ts.length := List.length_map _
  have hl := hp.2.2
  obtain ⟨b1, e1⟩ := wu1 (ts := ts) (i := s + 1) (by omega) (by omega)
  obtain ⟨b2, e2⟩ := wu1 (ts := ts) (i := s) (by omega) (by omega)
  have i1 : (s + 1).toNat = s.toNat + 1 := by omega
  simp only [i1] at e1 b1
  conv => whnf
  rw [hg]
  dsimp only
  rw [e1]
  conv => whnf
  rw [hg]
  dsimp only
  rw [e2]
  refine ⟨z2, rfl, ?_⟩
  conv => whnf
  rw [hg]
  dsimp only
  rw [wz4 s0 (by omega)]
  conv => whnf
  rw [yb0]
  dsimp only
  have j1 : ixN ((ts.map encT).set s.toNat (encT ts[s.toNat + 1])).length (s + 1) = some (s.toNat + 1) := by rw [wz4 (show 0 ≤ s + 1 by omega) (by rw [List.length_set]; omega), i1]
  rw [j1]
  conv => whnf
  rw [yb0, hD]
  have := q (((ts.set s.toNat ts[s.toNat + 1]).set (s.toNat + 1) ts[s.toNat]).map kI) (updM (updM μ g (.lst ((ts.map encT).set s.toNat (encT ts[s.toNat + 1])))) g (.lst (((ts.map encT).set s.toNat (encT ts[s.toNat + 1])).set (s.toNat + 1) (encT ts[s.toNat]))))
    (.inr ⟨_, rfl, fun t ht => ?_, by rw [List.length_set, List.length_set]; exact hl, zq4 hp.1 b1⟩)
  · rw [yz1, List.map_set, List.map_set] at this
    exact this
  · rcases List.mem_or_eq_of_mem_set ht with h | rfl
    · rcases List.mem_or_eq_of_mem_set h with h | rfl
      · exact hp.2.1 t h
      · exact hp.2.1 _ (List.getElem_mem _)
    · exact hp.2.1 _ (List.getElem_mem _)
theorem bp5 {Q : VK3} (q : ∀ l μ', BadL l → Q (.tup (l.map encI)) μ') {z g : Addr} {a far at' : Int} {b : Bool} {ts : List T3} {μ : Mu} (hz : μ z = some (.lst [.int a, .bl b])) (ha : 0 ≤ a) (hg : μ g = some (.lst (ts.map encT))) (hp : Pc ts) (h8 : ts.length < 50) (hf : 2 ≤ far) (t0 : 0 ≤ at') (t1 : at' ≤ ts.length) :
    yj0 wg0 xg2 (D0 Q) [some (.ref z), some (.ref g), some (.int far), some (.int at'), some (.int 1), none, none] μ := by
  have z100 : (200 : Nat) < sizeLine := by decide
  have ll : (ts.map encT).length = ts.length := List.length_map _
  have hl := hp.2.2
  conv => whnf
  rw [hg]
  show (if decide (((ts.map encT).length : Int) > 0) = true then _ else _)
  by_cases c : ((ts.map encT).length : Int) > 0
  · rw [decide_eq_true c]
    conv => whnf
    rw [hg]
    refine ⟨c, ?_⟩
    exact yo4 q rfl (s := at' % ((ts.map encT).length : Int)) hg hp h8 (Int.emod_nonneg _ (by omega)) (Int.emod_lt_of_pos _ c)
  · rw [decide_eq_false c]
    exact bp6 q hz ha hg hp hf t0 t1
theorem bp4 {Q : VK3} (q : ∀ l μ', BadL l → Q (.tup (l.map encI)) μ') {z g : Addr} {a far at' kind : Int} {b : Bool} {ts : List T3} {μ : Mu} (hz : μ z = some (.lst [.int a, .bl b])) (ha : 0 ≤ a) (hg : μ g = some (.lst (ts.map encT))) (hp : Pc ts) (h8 : ts.length < 50) (hf : 2 ≤ far) (t0 : 0 ≤ at') (t1 : at' ≤ ts.length) (k0 : 0 ≤ kind) (k1 : kind < 4) :
    zj0 wg0 xg2 (D0 Q) [some (.ref z), some (.ref g), some (.int far), some (.int at'), some (.int kind), none, none] μ := by
  have z100 : (200 : Nat) < sizeLine := by decide
  have ll : (ts.map encT).length = ts.length := List.length_map _
  have hl := hp.2.2
  have k : kind = 0 ∨ kind = 1 ∨ kind = 2 ∨ kind = 3 := by omega
  rcases k with rfl | rfl | rfl | rfl
  · conv => whnf
    rw [hg]
    show (if decide (((ts.map encT).length : Int) > 1) = true then _ else _)
    by_cases c : ((ts.map encT).length : Int) > 1
    · rw [decide_eq_true c]
      conv => whnf
      rw [hg]
      refine ⟨(show (0 : Int) < ((ts.map encT).length : Int) - 1 by omega), ?_⟩
      exact wg3 q rfl (s := at' % (((ts.map encT).length : Int) - 1)) hg hp (Int.emod_nonneg _ (by omega)) (Int.emod_lt_of_pos _ (by omega))
    · rw [decide_eq_false c]
      exact bp6 q hz ha hg hp hf t0 t1
  · exact bp5 q hz ha hg hp h8 hf t0 t1
  · exact bp6 q hz ha hg hp hf t0 t1
  · exact bp6 q hz ha hg hp hf t0 t1
theorem wc8 (ds : List D) (μ : Mu) (Q : VK3) (h : xi3 ds μ Q) : t_q0 wg0 xg2 { nx := fun _ μ' => Q .non μ', rt := Q } (start3 N_q0 ds) μ := by
  obtain ⟨z, a, b, rfl, hz, ha, q⟩ := h
  refine ⟨z, 8, a, b, rfl, hz, ha, by decide, by decide, fun ts a1 b1 μ1 hp lt a1n m1 g hg => ?_⟩
  have hzg : z ≠ g := xh0 m1 hg
  have ez : updM μ1 g (.lst (ts.map encT)) z = some (.lst [.int a1, .bl b1]) := by rw [xc0 hzg]; exact m1
  have eg : updM μ1 g (.lst (ts.map encT)) g = some (.lst (ts.map encT)) := yb0
  generalize updM μ1 g (.lst (ts.map encT)) = μ2 at ez eg
  refine ⟨⟨by decide, by decide, by decide⟩, z, _, a1, b1, [], rfl, by decide, by decide, ez, a1n, fun c a2 c0 c1 a2n => ⟨⟨by decide, by decide, by decide⟩, .inl (.inr ⟨by decide, by decide⟩), ?_⟩⟩
  have eg3 : updM μ2 z (.lst [.int a2, .bl b1]) g = some (.lst (ts.map encT)) := by rw [xc0 (Ne.symm hzg)]; exact eg
  have ez3 : updM μ2 z (.lst [.int a2, .bl b1]) z = some (.lst [.int a2, .bl b1]) := yb0
  have far2 : 2 ≤ 2 + c * (10 : Int) ^ (12 : Int).toNat := by
    have : 0 ≤ c * (10 : Int) ^ (12 : Int).toNat := Int.mul_nonneg c0 (by decide)
    omega
  generalize updM μ2 z (.lst [.int a2, .bl b1]) = μ3 at eg3 ez3
  have ll : (ts.map encT).length = ts.length := List.length_map _
  have l8 : ts.length ≤ 8 := by omega
  conv => whnf
  rw [eg3]
  refine ⟨z, ((ts.map encT).length : Int) + 1, a2, b1, [], rfl, by omega, by omega, ez3, a2n, fun at' a3 t0 t1 a3n => ?_⟩
  have eg4 : updM μ3 z (.lst [.int a3, .bl b1]) g = some (.lst (ts.map encT)) := by rw [xc0 (Ne.symm hzg)]; exact eg3
  have ez4 : updM μ3 z (.lst [.int a3, .bl b1]) z = some (.lst [.int a3, .bl b1]) := yb0
  generalize updM μ3 z (.lst [.int a3, .bl b1]) = μ4 at eg4 ez4
  refine ⟨z, 4, a3, b1, [], rfl, by decide, by decide, ez4, a3n, fun kind a4 k0 k1 a4n => ?_⟩
  exact bp4 q yb0 a4n (by rw [xc0 (Ne.symm hzg)]; exact eg4) hp (by omega) far2 t0 (by omega) k0 k1
noncomputable def ye4 : Sp3 := fun ds μ Q => ∃ ns : List Int, ds = [.fls (ns.map D.int)] ∧ ns.length ≤ 63 ∧ ∀ μ', Q (.bl true) μ'
theorem xi7 {p r : Addr} {μ : Mu} (h1 : μ p = some (.lst [])) (h2 : μ r = some (.lst [])) (K : VK3) : neR (.ref p) (.ref r) μ K = K (.bl false) μ := by
  have d : ∀ p, μ p = some (.lst []) → datM μ (.ref p) = some (.list []) := fun p h => by simp only [datM, h, dats]
  rw [yr3 rfl (d p h1) (d r h2) (by simp [PyData.depth, PyData.depthAll]) (by simp [PyData.depth, PyData.depthAll])]
  simp [PyData.eqv, PyData.eqvAll]
theorem zy6 (ds : List D) (μ : Mu) (Q : VK3) (h : ye4 ds μ Q) : yg6 xi3 xg2 wf5 wf2 zh3 { nx := fun _ μ' => Q .non μ', rt := Q } (start3 xz5 ds) μ := by
  obtain ⟨ns, rfl, hl, q⟩ := h
  refine ⟨ns, 0, rfl, by decide, fun a b z ha hz => ?_⟩
  refine ⟨z, 8, a, b, rfl, yb0, ha, by decide, by decide, fun A a1 b1 μ1 hA lA _ _ => ?_⟩
  refine ⟨ns, 1, rfl, by decide, fun a2 b2 z2 a2n hz2 => ?_⟩
  refine ⟨z2, a2, b2, rfl, yb0, a2n, fun l μ2 hb => ?_⟩
  refine ⟨⟨by decide, by decide⟩, ?_⟩
  refine ww0 (fun l' ρ μ' => ∃ (k : Nat) (o3' : Option D), l' = rngD (k : Int) (9 - k) ∧ k ≤ 9 ∧ ρ = [some (.fls (ns.map D.int)), some (.tup (A.map encT)), some (.tup (l.map encI)), o3']) ?_ (fun _ _ _ _ => trivial) ?_ ?_
  · exact ⟨0, none, rfl, by decide, rfl⟩
  · rintro ρ μ' ⟨k, o3', _, _, rfl⟩
    exact q μ'
  · rintro d r ρ μ' ⟨k, o3', el, hk, rfl⟩
    cases c : 9 - k with
    | zero => rw [c] at el; simp [rngD] at el
    | succ c' =>
      rw [c, xb1] at el
      injection el with e3 e4
      subst e3 e4
      have w9 : 0 ≤ (k : Int) ∧ (k : Int) < 9 := by omega
      have nx : ∃ (k' : Nat) (o3' : Option D), rngD ((k : Int) + 1) c' = rngD (k' : Int) (9 - k') ∧ k' ≤ 9 ∧ [some (.fls (ns.map D.int)), some (.tup (A.map encT)), some (.tup (l.map encI)), some (D.int (k : Int))] = [some (.fls (ns.map D.int)), some (.tup (A.map encT)), some (.tup (l.map encI)), o3'] :=
        ⟨k + 1, _, by rw [show 9 - (k + 1) = c' by omega]; congr 1, by omega, rfl⟩
      refine ⟨(k : Int), _, _, rfl, w9, .inr (.inl ⟨l, rfl, hb, fun p μ3 e3 ep => ⟨p, rfl, ep, fun μ4 e4 => ?_⟩⟩)⟩
      refine ⟨(k : Int), _, _, rfl, w9, .inl ⟨A, A, rfl, rfl, hA, hA, by omega, by omega, fun p5 μ5 e5 ep5 => ⟨show 0 ≤ sizeLine by decide, fun p6 hp6 => ?_⟩⟩⟩
      show neR (.ref p5) (.ref p6) (updM μ5 p6 (.lst [])) (fun d μ1 => match d with
        | .bl c => (if c = true then _ else _)
        | _ => False)
      rw [xi7 (Ext.new hp6 _ _ ep5) yb0]
      by_cases h3 : (3 : Int) < k
      · show (if decide ((k : Int) > 3) = true then _ else _)
        rw [decide_eq_true h3]
        refine ⟨(k : Int), _, _, rfl, w9, .inr (.inr ⟨h3, A, l, rfl, hA, by omega, rfl, hb, fun p7 μ7 e7 ep7 => ⟨p7, rfl, ep7, fun μ8 e8 => nx⟩⟩)⟩
      · show (if decide ((k : Int) > 3) = true then _ else _)
        rw [decide_eq_false h3]
        exact nx
end Pv

namespace Pv
open PySem PySem.Spec PyProof.Rows L2
noncomputable def top (i : Nat) : Stmt := PySem.Challenge.pw_penwright_k21_no_pictures.main.body.getD i (.Pass ⟨0, 0, 0, 0⟩)
section
variable {P : Program} {w : World} {K : Fg} {mg : Str → Option Value} {base : Heap}
noncomputable abbrev zz2 : Stmt := top 10
theorem sc_q18 : FnScope wy5 ["pen", "part"] (za0 zz2) := ⟨rfl, rfl, rfl, by decide +kernel, rfl, by decide +kernel, by decide +kernel⟩
theorem zs6 {k : Nat} {f : Addr} {cdv : Value} {A : Around} {outer : List Env} {s : Shared} {H : Hp} {E : XK} (g_AHEAD : Gd K mg "AHEAD" yq1) (hr : Room k (A.deeper (envOfC "led" (za0 zz2) s.heap.objs.size f cdv))) :
    RSs (cxOf CX0 P w K mg base wy5 "led" (za0 zz2) f cdv A outer s H E).nox (yc0 zz2) (xg6) :=
  (zb0 (xe0 (i := 2) sc_q18.nd (zc0 q_ix (re_g g_AHEAD) (zc0 q_ix (ya0 0) wa0))) (zb0 (xe0 (i := 3) sc_q18.nd (wd0 xo1 (wd0 xi0 (zc0 q_ix (ya0 0) wa0) (wd0 xh1 (zc0 q_ix (ya0 1) wa0) (zc0 q_ix (ya0 2) wa0))) (wd0 xh1 (zc0 q_ix (ya0 1) wa0) (zc0 q_ix (ya0 2) wa0)))) (zb0 (xe0 (i := 4) sc_q18.nd (wd0 xi0 (wd0 xi0 (zc0 q_ix (ya0 0) wa0) (wd0 xh1 (zc0 q_ix (ya0 1) wa0) (zc0 q_ix (ya0 2) wa0))) (wd0 xh1 (zc0 q_ix (ya0 1) wa0) (zc0 q_ix (ya0 2) wa0)))) (wb0 (zd0 (yf0 (xa0 (ya0 3) (xa0 (ya0 4) (xa0 (wd0 yh1 (wd0 xi0 (zc0 q_ix (ya0 0) wa0) (zc0 q_ix (ya0 1) wa0)) wa0) xb0)))))))))
noncomputable abbrev yb3 : Stmt := top 14
theorem sc_q10 : FnScope zr4 ["picture"] (za0 yb3) := ⟨rfl, rfl, rfl, by decide +kernel, rfl, by decide +kernel, by decide +kernel⟩
theorem zu6 {k : Nat} {f : Addr} {cdv : Value} {A : Around} {outer : List Env} {s : Shared} {H : Hp} {E : XK} {XE : XE3} (EX : EXok K mg XE E) {spx_q12 : XE3 → Sp3} {k_q12 : Nat} (c_q12 : CalX P w K mg base k_q12 "check_stroke" ["stroke"] spx_q12) (l_q12 : k_q12 ≤ k) {C_NoPicture : Addr} (O_NoPicture : OwnCls "NoPicture" C_NoPicture [.type "ValueError", .type "Exception", .type "BaseException", .type "object"] "ValueError.__new__" mg base) (z_len : mg "len" = none) (z_range : mg "range" = none) (hr : Room k (A.deeper (envOfC "check_picture" (za0 yb3) s.heap.objs.size f cdv))) :
    RSs (cxOf (CXn P w) P w K mg base zr4 "check_picture" (za0 yb3) f cdv A outer s H E) (yc0 yb3) (we5 XE spx_q12) :=
  (zb0 (zw1 PassesOwn.leaving rfl (yj1 (ya0 0)) (zk0 (i := 1) sc_q10.nd) (wb0 (ze0 (wc0 EX (c_q12.mono l_q12) hr (xa0 (ya0 1) xb0))))) (wb0 (zw1 PassesOwn.leaving rfl (yl3 z_range wa0 (we0 zx0 z_len zn0 (xa0 (ya0 0) xb0))) (zk0 (i := 2) sc_q10.nd) (wb0 (yk0 (xf0 (xc7 (hu64 hr)) (zc0 q_ix (ya0 0) (wd0 xo1 (ya0 2) wa0)) (zc0 q_ix (ya0 0) (ya0 2))) (wb0 (zo2 EX O_NoPicture PySem.F.excBase_ValueError (by decide) PySem.F.excBase_ValueError (xa0 zu4 xb0))) xg0)))))
noncomputable abbrev wa3 : Stmt := top 15
theorem yn6 : FnScope ya6 ["stroke"] (za0 wa3) := ⟨rfl, rfl, rfl, by decide +kernel, rfl, by decide +kernel, by decide +kernel⟩
theorem xu6 {k : Nat} {f : Addr} {cdv : Value} {A : Around} {outer : List Env} {s : Shared} {H : Hp} {E : XK} {XE : XE3} (EX : EXok K mg XE E) {C_NoPicture : Addr} (O_NoPicture : OwnCls "NoPicture" C_NoPicture [.type "ValueError", .type "Exception", .type "BaseException", .type "object"] "ValueError.__new__" mg base) (z_len : mg "len" = none) (g_WAYS : Gd K mg "WAYS" zq0) (hr : Room k (A.deeper (envOfC "check_stroke" (za0 wa3) s.heap.objs.size f cdv))) :
    RSs (cxOf (CXn P w) P w K mg base ya6 "check_stroke" (za0 wa3) f cdv A outer s H E) (yc0 wa3) (zh6 XE) :=
  (wb0 (yk0 (yk3 (yo6 (xf0 (q_ne (hu64 hr)) (we0 zx0 z_len zn0 (xa0 (ya0 0) xb0)) wa0) (wt4 (xf0 (zj5 (hu65 hr)) (zc0 q_ix (ya0 0) wa0) (re_g g_WAYS))))) (wb0 (zo2 EX O_NoPicture PySem.F.excBase_ValueError (by decide) PySem.F.excBase_ValueError (xa0 zu4 xb0))) xg0))
noncomputable abbrev xb3 : Stmt := top 16
theorem zn6 : FnScope za6 ["one", "other"] (za0 xb3) := ⟨rfl, rfl, rfl, by decide +kernel, rfl, by decide +kernel, by decide +kernel⟩
theorem yu6 {k : Nat} {f : Addr} {cdv : Value} {A : Around} {outer : List Env} {s : Shared} {H : Hp} {E : XK} {XE : XE3} (EX : EXok K mg XE E) {spx_q10 : XE3 → Sp3} {k_q10 : Nat} (c_q10 : CalX P w K mg base k_q10 "check_picture" ["picture"] spx_q10) (l_q10 : k_q10 ≤ k) (hr : Room k (A.deeper (envOfC "check_pictures" (za0 xb3) s.heap.objs.size f cdv))) :
    RSs (cxOf (CXn P w) P w K mg base za6 "check_pictures" (za0 xb3) f cdv A outer s H E) (yc0 xb3) (wh6 XE spx_q10) :=
  (zb0 (ze0 (wc0 EX (c_q10.mono l_q10) hr (xa0 (ya0 0) xb0))) (wb0 (ze0 (wc0 EX (c_q10.mono l_q10) hr (xa0 (ya0 1) xb0)))))
noncomputable abbrev ya3 : Stmt := top 17
theorem wm6 : FnScope wz5 ["stroke"] (za0 ya3) := ⟨rfl, rfl, rfl, by decide +kernel, rfl, by decide +kernel, by decide +kernel⟩
theorem zt6 {k : Nat} {f : Addr} {cdv : Value} {A : Around} {outer : List Env} {s : Shared} {H : Hp} {E : XK} (hr : Room k (A.deeper (envOfC "ends_of" (za0 ya3) s.heap.objs.size f cdv))) :
    RSs (cxOf CX0 P w K mg base wz5 "ends_of" (za0 ya3) f cdv A outer s H E).nox (yc0 ya3) (xh6) :=
  (zb0 (yk0 (xf0 (q_eq (hu64 hr)) (zc0 q_ix (ya0 0) wa0) wa0) (wb0 (zd0 (yf0 (xa0 (yf0 (xa0 (zc0 q_ix (ya0 0) wa0) (xa0 (zc0 q_ix (ya0 0) wa0) xb0))) (xa0 (yf0 (xa0 (wd0 xi0 (zc0 q_ix (ya0 0) wa0) wa0) (xa0 (zc0 q_ix (ya0 0) wa0) xb0))) xb0))))) xg0) (wb0 (zd0 (yf0 (xa0 (yf0 (xa0 (zc0 q_ix (ya0 0) wa0) (xa0 (zc0 q_ix (ya0 0) wa0) xb0))) (xa0 (yf0 (xa0 (zc0 q_ix (ya0 0) wa0) (xa0 (wd0 xi0 (zc0 q_ix (ya0 0) wa0) wa0) xb0))) xb0))))))
noncomputable abbrev yx2 : Stmt := top 18
theorem sc_q27 : FnScope yr4 ["point", "other"] (za0 yx2) := ⟨rfl, rfl, rfl, by decide +kernel, rfl, by decide +kernel, by decide +kernel⟩
theorem yq6 {k : Nat} {f : Addr} {cdv : Value} {A : Around} {outer : List Env} {s : Shared} {H : Hp} {E : XK} (z_min : mg "min" = none) (hr : Room k (A.deeper (envOfC "stroke_between" (za0 yx2) s.heap.objs.size f cdv))) :
    RSs (cxOf CX0 P w K mg base yr4 "stroke_between" (za0 yx2) f cdv A outer s H E).nox (yc0 yx2) (ze5) :=
  (zb0 (xe0 (i := 2) sc_q27.nd (we0 (ye8 rfl (hu64 hr)) z_min xr7 (xa0 (ya0 0) (xa0 (ya0 1) xb0)))) (wb0 (zd0 (yf0 (xa0 (zc0 q_ix (ya0 2) wa0) (xa0 (zc0 q_ix (ya0 2) wa0) (xa0 (xa8 (xf0 (q_eq (hu64 hr)) (zc0 q_ix (ya0 0) wa0) (zc0 q_ix (ya0 1) wa0)) wa0 wa0) xb0)))))))
noncomputable abbrev xy2 : Stmt := top 19
theorem zl6 : FnScope yx5 ["strokes"] (za0 xy2) := ⟨rfl, rfl, rfl, by decide +kernel, rfl, by decide +kernel, by decide +kernel⟩
theorem xr6 {k : Nat} {f : Addr} {cdv : Value} {A : Around} {outer : List Env} {s : Shared} {H : Hp} {E : XK} (z_set : mg "set" = none) (z_sorted : mg "sorted" = none) (z_tuple : mg "tuple" = none) (hr : Room k (A.deeper (envOfC "picture_with" (za0 xy2) s.heap.objs.size f cdv))) :
    RSs (cxOf CX0 P w K mg base yx5 "picture_with" (za0 xy2) f cdv A outer s H E).nox (yc0 xy2) (ze6) :=
  (wb0 (zd0 (yg0 wl0 z_tuple wi0 (xa0 (wn1 (xr0 (ya0 0) z_set (hu64 hr)) z_sorted) xb0))))
noncomputable abbrev wy2 : Stmt := top 20
theorem xm6 : FnScope xy5 ["picture", "x", "y"] (za0 wy2) := ⟨rfl, rfl, rfl, by decide +kernel, rfl, by decide +kernel, by decide +kernel⟩
theorem wr6 {k : Nat} {f : Addr} {cdv : Value} {A : Around} {outer : List Env} {s : Shared} {H : Hp} {E : XK} {XE : XE3} (EX : EXok K mg XE E) {spx_q10 : XE3 → Sp3} {k_q10 : Nat} (c_q10 : CalX P w K mg base k_q10 "check_picture" ["picture"] spx_q10) (l_q10 : k_q10 ≤ k) {sp_q22 : Sp3} {k_q22 : Nat} (c_q22 : Cal P w K mg base k_q22 "moved_stroke" ["stroke", "x", "y"] sp_q22) (l_q22 : k_q22 ≤ k) (z_tuple : mg "tuple" = none) (hr : Room k (A.deeper (envOfC "moved_picture" (za0 wy2) s.heap.objs.size f cdv))) :
    RSs (cxOf (CXn P w) P w K mg base xy5 "moved_picture" (za0 wy2) f cdv A outer s H E) (yc0 wy2) (yf6 XE spx_q10 sp_q22) :=
  (zb0 (ze0 (wc0 EX (c_q10.mono l_q10) hr (xa0 (ya0 0) xb0))) (wb0 (zd0 (yg0 wl0 z_tuple wi0 (xa0 (yt0 (NN := ["stroke", "x", "y"]) (js := [none, some 1, some 2]) rfl ws1 (yj1 (ya0 0)) (fun _ _ _ _ _ => (zk0 (i := 0) (show List.Nodup (["stroke", "x", "y"] : List Str) by decide +kernel))) (fun _ _ _ _ _ => wa1) (fun _ _ _ _ _ => (xd0 (c_q22.mono l_q22) hr (xa0 (ya0 0) (xa0 (ya0 1) (xa0 (ya0 2) xb0))))) (by intro _; rfl)) xb0)))))
noncomputable abbrev zy2 : Stmt := top 21
theorem wl6 : FnScope wx5 ["stroke", "x", "y"] (za0 zy2) := ⟨rfl, rfl, rfl, by decide +kernel, rfl, by decide +kernel, by decide +kernel⟩
theorem zr6 {k : Nat} {f : Addr} {cdv : Value} {A : Around} {outer : List Env} {s : Shared} {H : Hp} {E : XK} (hr : Room k (A.deeper (envOfC "moved_stroke" (za0 zy2) s.heap.objs.size f cdv))) :
    RSs (cxOf CX0 P w K mg base wx5 "moved_stroke" (za0 zy2) f cdv A outer s H E).nox (yc0 zy2) (xf6) :=
  (wb0 (zd0 (yf0 (xa0 (wd0 xi0 (zc0 q_ix (ya0 0) wa0) (ya0 1)) (xa0 (wd0 xi0 (zc0 q_ix (ya0 0) wa0) (ya0 2)) (xa0 (zc0 q_ix (ya0 0) wa0) xb0))))))
noncomputable abbrev xx2 : Stmt := top 22
theorem xl6 : FnScope zw5 ["picture", "quarters"] (za0 xx2) := ⟨rfl, rfl, rfl, by decide +kernel, rfl, by decide +kernel, by decide +kernel⟩
theorem xq6 {k : Nat} {f : Addr} {cdv : Value} {A : Around} {outer : List Env} {s : Shared} {H : Hp} {E : XK} {XE : XE3} (EX : EXok K mg XE E) {spx_q10 : XE3 → Sp3} {k_q10 : Nat} (c_q10 : CalX P w K mg base k_q10 "check_picture" ["picture"] spx_q10) (l_q10 : k_q10 ≤ k) {sp_q30 : Sp3} {k_q30 : Nat} (c_q30 : Cal P w K mg base k_q30 "turned_stroke" ["stroke", "quarters"] sp_q30) (l_q30 : k_q30 ≤ k) (z_sorted : mg "sorted" = none) (z_tuple : mg "tuple" = none) (hr : Room k (A.deeper (envOfC "turned_picture" (za0 xx2) s.heap.objs.size f cdv))) :
    RSs (cxOf (CXn P w) P w K mg base zw5 "turned_picture" (za0 xx2) f cdv A outer s H E) (yc0 xx2) (wd6 XE spx_q10 sp_q30) :=
  (zb0 (ze0 (wc0 EX (c_q10.mono l_q10) hr (xa0 (ya0 0) xb0))) (wb0 (zd0 (yg0 wl0 z_tuple wi0 (xa0 (we0 (xc1 rfl) z_sorted yu0 (xa0 (yt0 (NN := ["stroke", "quarters"]) (js := [none, some 1]) rfl ws1 (yj1 (ya0 0)) (fun _ _ _ _ _ => (zk0 (i := 0) (show List.Nodup (["stroke", "quarters"] : List Str) by decide +kernel))) (fun _ _ _ _ _ => wa1) (fun _ _ _ _ _ => (xd0 (c_q30.mono l_q30) hr (xa0 (ya0 0) (xa0 (wd0 yh1 (ya0 1) wa0) xb0)))) (by intro _; rfl)) xb0)) xb0)))))
noncomputable abbrev zw2 : Stmt := top 23
theorem sc_q30 : FnScope xw5 ["stroke", "quarters"] (za0 zw2) := ⟨rfl, rfl, rfl, by decide +kernel, rfl, by decide +kernel, by decide +kernel⟩
theorem zp6 {k : Nat} {f : Addr} {cdv : Value} {A : Around} {outer : List Env} {s : Shared} {H : Hp} {E : XK} {sp_q14 : Sp3} {k_q14 : Nat} (c_q14 : Cal P w K mg base k_q14 "ends_of" ["stroke"] sp_q14) (l_q14 : k_q14 ≤ k) {sp_q27 : Sp3} {k_q27 : Nat} (c_q27 : Cal P w K mg base k_q27 "stroke_between" ["point", "other"] sp_q27) (l_q27 : k_q27 ≤ k) {sp_q29 : Sp3} {k_q29 : Nat} (c_q29 : Cal P w K mg base k_q29 "turned_point" ["point", "quarters"] sp_q29) (l_q29 : k_q29 ≤ k) (hr : Room k (A.deeper (envOfC "turned_stroke" (za0 zw2) s.heap.objs.size f cdv))) :
    RSs (cxOf CX0 P w K mg base xw5 "turned_stroke" (za0 zw2) f cdv A outer s H E).nox (yc0 zw2) (yd6 sp_q14 sp_q27 sp_q29) :=
  (zb0 (xe0 (i := 2) sc_q30.nd (xd0 (c_q14.mono l_q14) hr (xa0 (ya0 0) xb0))) (wb0 (zd0 (xd0 (c_q27.mono l_q27) hr (xa0 (xd0 (c_q29.mono l_q29) hr (xa0 (zc0 q_ix (ya0 2) wa0) (xa0 (ya0 1) xb0))) (xa0 (xd0 (c_q29.mono l_q29) hr (xa0 (zc0 q_ix (ya0 2) wa0) (xa0 (ya0 1) xb0))) xb0))))))
noncomputable abbrev ww2 : Stmt := top 24
theorem sc_q29 : FnScope yw5 ["point", "quarters"] (za0 ww2) := ⟨rfl, rfl, rfl, by decide +kernel, rfl, by decide +kernel, by decide +kernel⟩
theorem wp6 {k : Nat} {f : Addr} {cdv : Value} {A : Around} {outer : List Env} {s : Shared} {H : Hp} {E : XK} {sp_q18 : Sp3} {k_q18 : Nat} (c_q18 : Cal P w K mg base k_q18 "led" ["pen", "part"] sp_q18) (l_q18 : k_q18 ≤ k) (hr : Room k (A.deeper (envOfC "turned_point" (za0 ww2) s.heap.objs.size f cdv))) :
    RSs (cxOf CX0 P w K mg base yw5 "turned_point" (za0 ww2) f cdv A outer s H E).nox (yc0 ww2) (zd6 sp_q18) :=
  (zb0 (xe0 (i := 2) sc_q29.nd (xd0 (c_q18.mono l_q18) hr (xa0 (yf0 (xa0 wa0 (xa0 wa0 (xa0 (ya0 1) xb0)))) (xa0 (yf0 (xa0 (zc0 q_ix (ya0 0) wa0) (xa0 (zc0 q_ix (ya0 0) wa0) (xa0 wa0 xb0)))) xb0)))) (wb0 (zd0 (yf0 (xa0 (zc0 q_ix (ya0 2) wa0) (xa0 (zc0 q_ix (ya0 2) wa0) xb0))))))
noncomputable abbrev yz2 : Stmt := top 25
theorem ym6 : FnScope zy5 ["picture"] (za0 yz2) := ⟨rfl, rfl, rfl, by decide +kernel, rfl, by decide +kernel, by decide +kernel⟩
theorem ys6 {k : Nat} {f : Addr} {cdv : Value} {A : Around} {outer : List Env} {s : Shared} {H : Hp} {E : XK} {XE : XE3} (EX : EXok K mg XE E) {spx_q10 : XE3 → Sp3} {k_q10 : Nat} (c_q10 : CalX P w K mg base k_q10 "check_picture" ["picture"] spx_q10) (l_q10 : k_q10 ≤ k) {sp_q20 : Sp3} {k_q20 : Nat} (c_q20 : Cal P w K mg base k_q20 "mirrored_stroke" ["stroke"] sp_q20) (l_q20 : k_q20 ≤ k) (z_sorted : mg "sorted" = none) (z_tuple : mg "tuple" = none) (hr : Room k (A.deeper (envOfC "mirrored_picture" (za0 yz2) s.heap.objs.size f cdv))) :
    RSs (cxOf (CXn P w) P w K mg base zy5 "mirrored_picture" (za0 yz2) f cdv A outer s H E) (yc0 yz2) (wf6 XE spx_q10 sp_q20) :=
  (zb0 (ze0 (wc0 EX (c_q10.mono l_q10) hr (xa0 (ya0 0) xb0))) (wb0 (zd0 (yg0 wl0 z_tuple wi0 (xa0 (we0 (xc1 rfl) z_sorted yu0 (xa0 (xj5 (NN := ["stroke"]) (by decide +kernel) (by decide +kernel) (by decide +kernel) (yj1 (ya0 0)) (fun _ _ _ _ _ => (zk0 (i := 0) (show List.Nodup (["stroke"] : List Str) by decide +kernel))) (fun _ _ _ _ _ => wa1) (fun _ _ _ _ _ => (xd0 (c_q20.mono l_q20) hr (xa0 (ya0 0) xb0)))) xb0)) xb0)))))
noncomputable abbrev xz2 : Stmt := top 26
theorem sc_q20 : FnScope yy5 ["stroke"] (za0 xz2) := ⟨rfl, rfl, rfl, by decide +kernel, rfl, by decide +kernel, by decide +kernel⟩
theorem xs6 {k : Nat} {f : Addr} {cdv : Value} {A : Around} {outer : List Env} {s : Shared} {H : Hp} {E : XK} {sp_q14 : Sp3} {k_q14 : Nat} (c_q14 : Cal P w K mg base k_q14 "ends_of" ["stroke"] sp_q14) (l_q14 : k_q14 ≤ k) {sp_q27 : Sp3} {k_q27 : Nat} (c_q27 : Cal P w K mg base k_q27 "stroke_between" ["point", "other"] sp_q27) (l_q27 : k_q27 ≤ k) (hr : Room k (A.deeper (envOfC "mirrored_stroke" (za0 xz2) s.heap.objs.size f cdv))) :
    RSs (cxOf CX0 P w K mg base yy5 "mirrored_stroke" (za0 xz2) f cdv A outer s H E).nox (yc0 xz2) (zf6 sp_q14 sp_q27) :=
  (zb0 (xe0 (i := 1) sc_q20.nd (xd0 (c_q14.mono l_q14) hr (xa0 (ya0 0) xb0))) (wb0 (zd0 (xd0 (c_q27.mono l_q27) hr (xa0 (yf0 (xa0 (xm3 zn3 (zc0 q_ix (zc0 q_ix (ya0 1) wa0) wa0)) (xa0 (zc0 q_ix (zc0 q_ix (ya0 1) wa0) wa0) xb0))) (xa0 (yf0 (xa0 (xm3 zn3 (zc0 q_ix (zc0 q_ix (ya0 1) wa0) wa0)) (xa0 (zc0 q_ix (zc0 q_ix (ya0 1) wa0) wa0) xb0))) xb0))))))
noncomputable abbrev s_q9 : Stmt := top 27
theorem yw7 : FnScope N_q9 ["one", "other"] (za0 s_q9) := ⟨rfl, rfl, rfl, by decide +kernel, rfl, by decide +kernel, by decide +kernel⟩
theorem zx7 {k : Nat} {f : Addr} {cdv : Value} {A : Around} {outer : List Env} {s : Shared} {H : Hp} {E : XK} {XE : XE3} (EX : EXok K mg XE E) {spx_q11 : XE3 → Sp3} {k_q11 : Nat} (c_q11 : CalX P w K mg base k_q11 "check_pictures" ["one", "other"] spx_q11) (l_q11 : k_q11 ≤ k) {sp_q24 : Sp3} {k_q24 : Nat} (c_q24 : Cal P w K mg base k_q24 "picture_with" ["strokes"] sp_q24) (l_q24 : k_q24 ≤ k) (hr : Room k (A.deeper (envOfC "both_pictures" (za0 s_q9) s.heap.objs.size f cdv))) :
    RSs (cxOf (CXn P w) P w K mg base N_q9 "both_pictures" (za0 s_q9) f cdv A outer s H E) (yc0 s_q9) (t_q9 XE spx_q11 sp_q24) :=
  (zb0 (ze0 (wc0 EX (c_q11.mono l_q11) hr (xa0 (ya0 0) (xa0 (ya0 1) xb0)))) (wb0 (zd0 (xd0 (c_q24.mono l_q24) hr (xa0 (wd0 xi0 (ya0 0) (ya0 1)) xb0)))))
noncomputable abbrev za3 : Stmt := top 28
theorem xn6 : FnScope xa6 ["one", "other"] (za0 za3) := ⟨rfl, rfl, rfl, by decide +kernel, rfl, by decide +kernel, by decide +kernel⟩
theorem wt6 {k : Nat} {f : Addr} {cdv : Value} {A : Around} {outer : List Env} {s : Shared} {H : Hp} {E : XK} {XE : XE3} (EX : EXok K mg XE E) {spx_q11 : XE3 → Sp3} {k_q11 : Nat} (c_q11 : CalX P w K mg base k_q11 "check_pictures" ["one", "other"] spx_q11) (l_q11 : k_q11 ≤ k) (z_set : mg "set" = none) (z_sorted : mg "sorted" = none) (z_tuple : mg "tuple" = none) (hr : Room k (A.deeper (envOfC "common_picture" (za0 za3) s.heap.objs.size f cdv))) :
    RSs (cxOf (CXn P w) P w K mg base xa6 "common_picture" (za0 za3) f cdv A outer s H E) (yc0 za3) (yh6 XE spx_q11) :=
  (zb0 (ze0 (wc0 EX (c_q11.mono l_q11) hr (xa0 (ya0 0) (xa0 (ya0 1) xb0)))) (wb0 (zd0 (yg0 wl0 z_tuple wi0 (xa0 (wn1 (xl3 (wm7 (hu64 hr)) (xr0 (ya0 0) z_set (hu64 hr)) (xr0 (ya0 1) z_set (hu64 hr))) z_sorted) xb0)))))
noncomputable abbrev yw2 : Stmt := top 29
theorem wk6 : FnScope wv5 ["one", "other"] (za0 yw2) := ⟨rfl, rfl, rfl, by decide +kernel, rfl, by decide +kernel, by decide +kernel⟩
theorem yp6 {k : Nat} {f : Addr} {cdv : Value} {A : Around} {outer : List Env} {s : Shared} {H : Hp} {E : XK} {XE : XE3} (EX : EXok K mg XE E) {spx_q11 : XE3 → Sp3} {k_q11 : Nat} (c_q11 : CalX P w K mg base k_q11 "check_pictures" ["one", "other"] spx_q11) (l_q11 : k_q11 ≤ k) (z_set : mg "set" = none) (z_sorted : mg "sorted" = none) (z_tuple : mg "tuple" = none) (hr : Room k (A.deeper (envOfC "without_picture" (za0 yw2) s.heap.objs.size f cdv))) :
    RSs (cxOf (CXn P w) P w K mg base wv5 "without_picture" (za0 yw2) f cdv A outer s H E) (yc0 yw2) (xd6 XE spx_q11) :=
  (zb0 (ze0 (wc0 EX (c_q11.mono l_q11) hr (xa0 (ya0 0) (xa0 (ya0 1) xb0)))) (wb0 (zd0 (yg0 wl0 z_tuple wi0 (xa0 (wn1 (xl3 (zm7 (hu64 hr)) (xr0 (ya0 0) z_set (hu64 hr)) (xr0 (ya0 1) z_set (hu64 hr))) z_sorted) xb0)))))
noncomputable abbrev yy2 : Stmt := top 30
theorem sc_q23 : FnScope zx5 ["one", "other"] (za0 yy2) := ⟨rfl, rfl, rfl, by decide +kernel, rfl, by decide +kernel, by decide +kernel⟩
theorem yr6 {k : Nat} {f : Addr} {cdv : Value} {A : Around} {outer : List Env} {s : Shared} {H : Hp} {E : XK} {XE : XE3} (EX : EXok K mg XE E) {spx_q11 : XE3 → Sp3} {k_q11 : Nat} (c_q11 : CalX P w K mg base k_q11 "check_pictures" ["one", "other"] spx_q11) (l_q11 : k_q11 ≤ k) (z_len : mg "len" = none) (z_set : mg "set" = none) (z_sorted : mg "sorted" = none) (hr : Room k (A.deeper (envOfC "parting_stroke" (za0 yy2) s.heap.objs.size f cdv))) :
    RSs (cxOf (CXn P w) P w K mg base zx5 "parting_stroke" (za0 yy2) f cdv A outer s H E) (yc0 yy2) (we6 XE spx_q11) :=
  (zb0 (ze0 (wc0 EX (c_q11.mono l_q11) hr (xa0 (ya0 0) (xa0 (ya0 1) xb0)))) (zb0 (xe0 (i := 2) sc_q23.nd (wn1 (xl3 (ym7 (hu64 hr)) (xr0 (ya0 0) z_set (hu64 hr)) (xr0 (ya0 1) z_set (hu64 hr))) z_sorted)) (zb0 (yk0 (xf0 (q_eq (hu64 hr)) (we0 zx0 z_len zn0 (xa0 (ya0 2) xb0)) wa0) (wb0 (zd0 xx1)) xg0) (wb0 (zd0 (zc0 q_ix (ya0 2) wa0))))))
noncomputable abbrev xa3 : Stmt := top 31
theorem sc_q15 : FnScope zz5 ["picture"] (za0 xa3) := ⟨rfl, rfl, rfl, by decide +kernel, rfl, by decide +kernel, by decide +kernel⟩
theorem yt6 {k : Nat} {f : Addr} {cdv : Value} {A : Around} {outer : List Env} {s : Shared} {H : Hp} {E : XK} {XE : XE3} (EX : EXok K mg XE E) {spx_q10 : XE3 → Sp3} {k_q10 : Nat} (c_q10 : CalX P w K mg base k_q10 "check_picture" ["picture"] spx_q10) (l_q10 : k_q10 ≤ k) {spx_q16 : XE3 → Sp3} {k_q16 : Nat} (c_q16 : CalX P w K mg base k_q16 "laid" ["picture", "laying"] spx_q16) (l_q16 : k_q16 ≤ k) {spx_q26 : XE3 → Sp3} {k_q26 : Nat} (c_q26 : CalX P w K mg base k_q26 "shift_between" ["one", "other"] spx_q26) (l_q26 : k_q26 ≤ k) (g_LAYINGS : Gd K mg "LAYINGS" wo0) (hr : Room k (A.deeper (envOfC "kept_by" (za0 xa3) s.heap.objs.size f cdv))) :
    RSs (cxOf (CXn P w) P w K mg base zz5 "kept_by" (za0 xa3) f cdv A outer s H E) (yc0 xa3) (wg6 XE spx_q10 spx_q16 spx_q26) :=
  (zb0 (ze0 (wc0 EX (c_q10.mono l_q10) hr (xa0 (ya0 0) xb0))) (zb0 (xe0 (i := 1) sc_q15.nd (yn0 xb0)) (zb0 (zw1 PassesOwn.leaving rfl (yj1 (re_g g_LAYINGS)) (zk0 (i := 2) sc_q15.nd) (zb0 (xe0 (i := 3) sc_q15.nd (wc0 EX (c_q26.mono l_q26) hr (xa0 (wc0 EX (c_q16.mono l_q16) hr (xa0 (ya0 0) (xa0 (ya0 2) xb0))) (xa0 (ya0 0) xb0)))) (wb0 (yk0 (xf0 zq2 (ya0 3) xx1) (wb0 (ze0 (zm3 (ya0 1) (xa0 (yf0 (xa0 (zc0 q_ix (ya0 2) wa0) (xa0 (zc0 q_ix (ya0 2) wa0) (xa0 (zc0 q_ix (ya0 3) wa0) (xa0 (zc0 q_ix (ya0 3) wa0) xb0))))) xb0)))) xg0)))) (wb0 (zd0 (ya0 1))))))
noncomputable abbrev wx2 : Stmt := top 32
theorem yl6 : FnScope xx5 ["one", "other"] (za0 wx2) := ⟨rfl, rfl, rfl, by decide +kernel, rfl, by decide +kernel, by decide +kernel⟩
theorem wq6 {k : Nat} {f : Addr} {cdv : Value} {A : Around} {outer : List Env} {s : Shared} {H : Hp} {E : XK} {XE : XE3} (EX : EXok K mg XE E) {spx_q11 : XE3 → Sp3} {k_q11 : Nat} (c_q11 : CalX P w K mg base k_q11 "check_pictures" ["one", "other"] spx_q11) (l_q11 : k_q11 ≤ k) {spx_q16 : XE3 → Sp3} {k_q16 : Nat} (c_q16 : CalX P w K mg base k_q16 "laid" ["picture", "laying"] spx_q16) (l_q16 : k_q16 ≤ k) {spx_q26 : XE3 → Sp3} {k_q26 : Nat} (c_q26 : CalX P w K mg base k_q26 "shift_between" ["one", "other"] spx_q26) (l_q26 : k_q26 ≤ k) (z_any : mg "any" = none) (g_LAYINGS : Gd K mg "LAYINGS" wo0) (hr : Room k (A.deeper (envOfC "same_shape" (za0 wx2) s.heap.objs.size f cdv))) :
    RSs (cxOf (CXn P w) P w K mg base xx5 "same_shape" (za0 wx2) f cdv A outer s H E) (yc0 wx2) (ye6 XE spx_q11 spx_q16 spx_q26) :=
  (zb0 (ze0 (wc0 EX (c_q11.mono l_q11) hr (xa0 (ya0 0) (xa0 (ya0 1) xb0)))) (wb0 (zd0 (we0 ze8 z_any yr7 (xa0 (yt0 (NN := ["laying", "other", "one"]) (js := [none, some 1, some 0]) rfl ws1 (yj1 (re_g g_LAYINGS)) (fun _ _ _ _ _ => (zk0 (i := 0) (show List.Nodup (["laying", "other", "one"] : List Str) by decide +kernel))) (fun _ _ _ _ _ => wa1) (fun _ _ _ _ _ => (ym3 zq2 (yx1 (c_q26.mono l_q26) hr (xa0 (yx1 (c_q16.mono l_q16) hr (xa0 (ya0 2) (xa0 (ya0 0) xb0))) (xa0 (ya0 1) xb0))) xx1)) (by intro _; rfl)) xb0)))))
noncomputable abbrev wz2 : Stmt := top 33
theorem zm6 : FnScope yz5 ["picture", "laying"] (za0 wz2) := ⟨rfl, rfl, rfl, by decide +kernel, rfl, by decide +kernel, by decide +kernel⟩
theorem xt6 {k : Nat} {f : Addr} {cdv : Value} {A : Around} {outer : List Env} {s : Shared} {H : Hp} {E : XK} {XE : XE3} (EX : EXok K mg XE E) {spx_q19 : XE3 → Sp3} {k_q19 : Nat} (c_q19 : CalX P w K mg base k_q19 "mirrored_picture" ["picture"] spx_q19) (l_q19 : k_q19 ≤ k) {spx_q28 : XE3 → Sp3} {k_q28 : Nat} (c_q28 : CalX P w K mg base k_q28 "turned_picture" ["picture", "quarters"] spx_q28) (l_q28 : k_q28 ≤ k) (hr : Room k (A.deeper (envOfC "laid" (za0 wz2) s.heap.objs.size f cdv))) :
    RSs (cxOf (CXn P w) P w K mg base yz5 "laid" (za0 wz2) f cdv A outer s H E) (yc0 wz2) (zg6 XE spx_q19 spx_q28) :=
  (zb0 (yk0 (xf0 (q_eq (hu64 hr)) (zc0 q_ix (ya0 1) wa0) wa0) (wb0 (zd0 (wc0 EX (c_q28.mono l_q28) hr (xa0 (wc0 EX (c_q19.mono l_q19) hr (xa0 (ya0 0) xb0)) (xa0 (zc0 q_ix (ya0 1) wa0) xb0))))) xg0) (wb0 (zd0 (wc0 EX (c_q28.mono l_q28) hr (xa0 (ya0 0) (xa0 (zc0 q_ix (ya0 1) wa0) xb0))))))
noncomputable abbrev zx2 : Stmt := top 34
theorem sc_q26 : FnScope ww5 ["one", "other"] (za0 zx2) := ⟨rfl, rfl, rfl, by decide +kernel, rfl, by decide +kernel, by decide +kernel⟩
theorem zq6 {k : Nat} {f : Addr} {cdv : Value} {A : Around} {outer : List Env} {s : Shared} {H : Hp} {E : XK} {XE : XE3} (EX : EXok K mg XE E) {spx_q21 : XE3 → Sp3} {k_q21 : Nat} (c_q21 : CalX P w K mg base k_q21 "moved_picture" ["picture", "x", "y"] spx_q21) (l_q21 : k_q21 ≤ k) (z_len : mg "len" = none) (hr : Room k (A.deeper (envOfC "shift_between" (za0 zx2) s.heap.objs.size f cdv))) :
    RSs (cxOf (CXn P w) P w K mg base ww5 "shift_between" (za0 zx2) f cdv A outer s H E) (yc0 zx2) (xe6 XE spx_q21) :=
  (zb0 (yk0 (xf0 (q_ne (hu64 hr)) (we0 zx0 z_len zn0 (xa0 (ya0 0) xb0)) (we0 zx0 z_len zn0 (xa0 (ya0 1) xb0))) (wb0 (zd0 xx1)) xg0) (zb0 (yk0 (xf0 (q_eq (hu64 hr)) (we0 zx0 z_len zn0 (xa0 (ya0 0) xb0)) wa0) (wb0 (zd0 (yf0 (xa0 wa0 (xa0 wa0 xb0))))) xg0) (zb0 (xe0 (i := 2) sc_q26.nd (yf0 (xa0 (wd0 xo1 (zc0 q_ix (zc0 q_ix (ya0 1) wa0) wa0) (zc0 q_ix (zc0 q_ix (ya0 0) wa0) wa0)) (xa0 (wd0 xo1 (zc0 q_ix (zc0 q_ix (ya0 1) wa0) wa0) (zc0 q_ix (zc0 q_ix (ya0 0) wa0) wa0)) xb0)))) (zb0 (yk0 (xf0 (q_ne (hu64 hr)) (wc0 EX (c_q21.mono l_q21) hr (xa0 (ya0 0) (xa0 (zc0 q_ix (ya0 2) wa0) (xa0 (zc0 q_ix (ya0 2) wa0) xb0)))) (ya0 1)) (wb0 (zd0 xx1)) xg0) (wb0 (zd0 (ya0 2)))))))
noncomputable abbrev s_q2 : Stmt := top 36
theorem ww7 : FnScope N_q2 ["script", "k"] (za0 s_q2) := ⟨rfl, rfl, rfl, by decide +kernel, rfl, by decide +kernel, by decide +kernel⟩
theorem yz7 {k : Nat} {f : Addr} {cdv : Value} {A : Around} {outer : List Env} {s : Shared} {H : Hp} {E : XK} (z_len : mg "len" = none) (hr : Room k (A.deeper (envOfC "_law_cell_at" (za0 s_q2) s.heap.objs.size f cdv))) :
    RSs (cxOf CX0 P w K mg base N_q2 "_law_cell_at" (za0 s_q2) f cdv A outer s H E).nox (yc0 s_q2) (t_q2) :=
  (zb0 (yk0 (xf0 q_lt (ya0 1) (we0 zx0 z_len zn0 (xa0 (ya0 0) xb0))) (wb0 (zd0 (zc0 q_ix (ya0 0) (ya0 1)))) xg0) (wb0 (zd0 wa0)))
noncomputable abbrev s_q7 : Stmt := top 37
theorem sc_q7 : FnScope N_q7 ["script", "k"] (za0 s_q7) := ⟨rfl, rfl, rfl, by decide +kernel, rfl, by decide +kernel, by decide +kernel⟩
theorem xy7 {k : Nat} {f : Addr} {cdv : Value} {A : Around} {outer : List Env} {s : Shared} {H : Hp} {E : XK} {sp_q2 : Sp3} {k_q2 : Nat} (c_q2 : Cal P w K mg base k_q2 "_law_cell_at" ["script", "k"] sp_q2) (l_q2 : k_q2 ≤ k) (hr : Room k (A.deeper (envOfC "_law_state" (za0 s_q7) s.heap.objs.size f cdv))) :
    RSs (cxOf CX0 P w K mg base N_q7 "_law_state" (za0 s_q7) f cdv A outer s H E).nox (yc0 s_q7) (t_q7 sp_q2) :=
  (zb0 (xe0 (i := 2) sc_q7.nd (xd0 (c_q2.mono l_q2) hr (xa0 (ya0 0) (xa0 (ya0 1) xb0)))) (zb0 (yk0 (xf0 (xc7 (hu64 hr)) (ya0 2) (wd0 zg4 wa0 wa0)) (wb0 (zd0 (yn0 (xa0 (wd0 xo1 (ya0 2) (wd0 zg4 wa0 wa0)) (xa0 xh2 xb0))))) xg0) (wb0 (zd0 (yn0 (xa0 (wd0 yh1 (ya0 2) wa0) (xa0 xh2 xb0)))))))
noncomputable abbrev s_q3 : Stmt := top 38
theorem sc_q3 : FnScope N_q3 ["state", "many"] (za0 s_q3) := ⟨rfl, rfl, rfl, by decide +kernel, rfl, by decide +kernel, by decide +kernel⟩
theorem xz7 {k : Nat} {f : Addr} {cdv : Value} {A : Around} {outer : List Env} {s : Shared} {H : Hp} {E : XK} (hr : Room k (A.deeper (envOfC "_law_choice" (za0 s_q3) s.heap.objs.size f cdv))) :
    RSs (cxOf CX0 P w K mg base N_q3 "_law_choice" (za0 s_q3) f cdv A outer s H E).nox (yc0 s_q3) (t_q3) :=
  (zb0 (yk0 (wk3 (zc0 q_ix (ya0 0) wa0)) (zb0 (xe0 (i := 2) sc_q3.nd (wd0 yh1 (zc0 q_ix (ya0 0) wa0) (ya0 1))) (zb0 (wo2 (wd0 xv4 (zc0 q_ix (ya0 0) wa0) (ya0 1)) (zp2 (ya0 0) wa0)) (wb0 (zd0 (ya0 2))))) xg0) (zb0 (wo2 (wd0 yh1 (wd0 xi0 (wd0 xh1 (zc0 q_ix (ya0 0) wa0) wa0) wa0) wa0) (zp2 (ya0 0) wa0)) (zb0 (xe0 (i := 3) sc_q3.nd (wd0 yh1 (wd0 xi0 (wd0 xi0 (wd0 xh1 (zc0 q_ix (ya0 0) wa0) (zc0 q_ix (ya0 0) wa0)) (wd0 xh1 wa0 (zc0 q_ix (ya0 0) wa0))) wa0) wa0)) (zb0 (xe0 (i := 3) sc_q3.nd (wd0 yh1 (wd0 xi0 (wd0 xh1 (ya0 3) (ya0 3)) (wd0 xh1 wa0 (ya0 3))) wa0)) (wb0 (zd0 (wd0 yh1 (wd0 xv4 (ya0 3) wa0) (ya0 1))))))))
noncomputable abbrev s_q5 : Stmt := top 39
theorem sc_q5 : FnScope N_q5 ["state", "most"] (za0 s_q5) := ⟨rfl, rfl, rfl, by decide +kernel, rfl, by decide +kernel, by decide +kernel⟩
theorem zy7 {k : Nat} {f : Addr} {cdv : Value} {A : Around} {outer : List Env} {s : Shared} {H : Hp} {E : XK} {sp_q3 : Sp3} {k_q3 : Nat} (c_q3 : Cal P w K mg base k_q3 "_law_choice" ["state", "many"] sp_q3) (l_q3 : k_q3 ≤ k) (z_range : mg "range" = none) (z_sorted : mg "sorted" = none) (z_tuple : mg "tuple" = none) (hr : Room k (A.deeper (envOfC "_law_picture" (za0 s_q5) s.heap.objs.size f cdv))) :
    RSs (cxOf CX0 P w K mg base N_q5 "_law_picture" (za0 s_q5) f cdv A outer s H E).nox (yc0 s_q5) (t_q5 sp_q3) :=
  (zb0 (xe0 (i := 2) sc_q5.nd wi5) (zb0 (wo2 (yf0 (xa0 wa0 (xa0 wa0 xb0))) (yu4 rfl (wy0 (zk0 (i := 3) sc_q5.nd) (wy0 (zk0 (i := 4) sc_q5.nd) zl3)))) (zb0 (xe0 (i := 5) sc_q5.nd (wd0 xi0 wa0 (xd0 (c_q3.mono l_q3) hr (xa0 (ya0 0) (xa0 wa0 xb0))))) (zb0 (zw1 PassesOwn.never rfl (yb1 z_range (xd0 (c_q3.mono l_q3) hr (xa0 (ya0 0) (xa0 (wd0 xi0 (ya0 1) wa0) xb0)))) (zk0 (i := 6) sc_q5.nd) (zb0 (yk0 (xf0 (q_eq (hu64 hr)) (xd0 (c_q3.mono l_q3) hr (xa0 (ya0 0) (xa0 wa0 xb0))) wa0) (zb0 (xe0 (i := 3) sc_q5.nd (wd0 xo1 (xd0 (c_q3.mono l_q3) hr (xa0 (ya0 0) (xa0 (ya0 5) xb0))) wa0)) (wb0 (xe0 (i := 4) sc_q5.nd (wd0 xo1 (xd0 (c_q3.mono l_q3) hr (xa0 (ya0 0) (xa0 (ya0 5) xb0))) wa0)))) xg0) (zb0 (yi5 (hu64 hr) (ya0 2) (xa0 (ya0 3) (xa0 (ya0 4) (xa0 (xd0 (c_q3.mono l_q3) hr (xa0 (ya0 0) (xa0 wa0 xb0))) xb0))) xh2) (zb0 (xe0 (i := 3) sc_q5.nd (wd0 xi0 (ya0 3) (zc0 q_ix (yn0 (xa0 wa0 (xa0 wa0 (xa0 (xm3 zn3 wa0) (xa0 wa0 xb0))))) (xd0 (c_q3.mono l_q3) hr (xa0 (ya0 0) (xa0 wa0 xb0)))))) (wb0 (xe0 (i := 4) sc_q5.nd (wd0 xi0 (ya0 4) (zc0 q_ix (yn0 (xa0 wa0 (xa0 wa0 (xa0 wa0 (xa0 (xm3 zn3 wa0) xb0))))) (xd0 (c_q3.mono l_q3) hr (xa0 (ya0 0) (xa0 wa0 xb0))))))))))) (wb0 (zd0 (yg0 wl0 z_tuple wi0 (xa0 (we0 (xc1 rfl) z_sorted yu0 (xa0 (ya0 2) xb0)) xb0))))))))
noncomputable abbrev s_q0 : Stmt := top 40
theorem sc_q0 : FnScope N_q0 ["state"] (za0 s_q0) := ⟨rfl, rfl, rfl, by decide +kernel, rfl, by decide +kernel, by decide +kernel⟩
theorem wz7 {k : Nat} {f : Addr} {cdv : Value} {A : Around} {outer : List Env} {s : Shared} {H : Hp} {E : XK} {sp_q3 : Sp3} {k_q3 : Nat} (c_q3 : Cal P w K mg base k_q3 "_law_choice" ["state", "many"] sp_q3) (l_q3 : k_q3 ≤ k) {sp_q5 : Sp3} {k_q5 : Nat} (c_q5 : Cal P w K mg base k_q5 "_law_picture" ["state", "most"] sp_q5) (l_q5 : k_q5 ≤ k) (z_len : mg "len" = none) (z_list : mg "list" = none) (z_tuple : mg "tuple" = none) (hr : Room k (A.deeper (envOfC "_law_bad_picture" (za0 s_q0) s.heap.objs.size f cdv))) :
    RSs (cxOf CX0 P w K mg base N_q0 "_law_bad_picture" (za0 s_q0) f cdv A outer s H E).nox (yc0 s_q0) (t_q0 sp_q3 sp_q5) :=
  (zb0 (xe0 (i := 1) sc_q0.nd (yg0 wb7 z_list yv5 (xa0 (xd0 (c_q5.mono l_q5) hr (xa0 (ya0 0) (xa0 wa0 xb0))) xb0))) (zb0 (xe0 (i := 2) sc_q0.nd (wd0 xi0 wa0 (wd0 xh1 (xd0 (c_q3.mono l_q3) hr (xa0 (ya0 0) (xa0 (wd0 zg4 wa0 wa0) xb0))) (wd0 zg4 wa0 wa0)))) (zb0 (xe0 (i := 3) sc_q0.nd (xd0 (c_q3.mono l_q3) hr (xa0 (ya0 0) (xa0 (wd0 xi0 (we0 zx0 z_len zn0 (xa0 (ya0 1) xb0)) wa0) xb0)))) (zb0 (xe0 (i := 4) sc_q0.nd (xd0 (c_q3.mono l_q3) hr (xa0 (ya0 0) (xa0 wa0 xb0)))) (zb0 (yk0 (yk3 (zk3 (xf0 (q_eq (hu64 hr)) (ya0 4) wa0) (wg2 (xf0 q_gt (we0 zx0 z_len zn0 (xa0 (ya0 1) xb0)) wa0)))) (zb0 (xe0 (i := 5) sc_q0.nd (wd0 yh1 (ya0 3) (wd0 xo1 (we0 zx0 z_len zn0 (xa0 (ya0 1) xb0)) wa0))) (zb0 (wo2 (yf0 (xa0 (zc0 q_ix (ya0 1) (wd0 xi0 (ya0 5) wa0)) (xa0 (zc0 q_ix (ya0 1) (ya0 5)) xb0))) (yu4 rfl (wy0 (zp2 (ya0 1) (ya0 5)) (wy0 (zp2 (ya0 1) (wd0 xi0 (ya0 5) wa0)) zl3)))) (wb0 (zd0 (yg0 wl0 z_tuple wi0 (xa0 (ya0 1) xb0)))))) xg0) (zb0 (yk0 (yk3 (zk3 (xf0 (q_eq (hu64 hr)) (ya0 4) wa0) (wg2 (xf0 q_gt (we0 zx0 z_len zn0 (xa0 (ya0 1) xb0)) wa0)))) (zb0 (xe0 (i := 5) sc_q0.nd (wd0 yh1 (ya0 3) (we0 zx0 z_len zn0 (xa0 (ya0 1) xb0)))) (wb0 (zd0 (yg0 wl0 z_tuple wi0 (xa0 (wd0 xi0 (xz0 q_sl (ya0 1) yn1 (xn1 (wd0 xi0 (ya0 5) wa0))) (xz0 q_sl (ya0 1) (xn1 (ya0 5)) yn1)) xb0))))) xg0) (zb0 (xe0 (i := 6) sc_q0.nd (zc0 q_ix (yn0 (xa0 (yf0 (xa0 wa0 (xa0 wa0 (xa0 wa0 xb0)))) (xa0 (yf0 (xa0 wa0 (xa0 wa0 (xa0 (xm3 zn3 wa0) xb0)))) (xa0 (yf0 (xa0 wa0 (xa0 wa0 xb0))) (xa0 (yf0 (xa0 wa0 (xa0 wa0 (xa0 wa0 (xa0 wa0 xb0))))) (xa0 (yf0 xb0) (xa0 (yf0 (xa0 wa0 (xa0 wa0 (xa0 (ya0 2) xb0)))) (xa0 (yf0 (xa0 (ya0 2) (xa0 (ya0 2) (xa0 (wd0 xo1 wa0 (ya0 2)) xb0)))) xb0)))))))) (xd0 (c_q3.mono l_q3) hr (xa0 (ya0 0) (xa0 wa0 xb0))))) (wb0 (zd0 (yg0 wl0 z_tuple wi0 (xa0 (wd0 xi0 (wd0 xi0 (xz0 q_sl (ya0 1) yn1 (xn1 (ya0 3))) (yn0 (xa0 (ya0 6) xb0))) (xz0 q_sl (ya0 1) (xn1 (ya0 3)) yn1)) xb0)))))))))))
noncomputable abbrev s_q4 : Stmt := top 41
theorem sc_q4 : FnScope N_q4 ["e"] (za0 s_q4) := ⟨rfl, rfl, rfl, by decide +kernel, rfl, by decide +kernel, by decide +kernel⟩
theorem wy7 {k : Nat} {f : Addr} {cdv : Value} {A : Around} {outer : List Env} {s : Shared} {H : Hp} {E : XK} {C_BadNote : Addr} (m_BadNote : mg "BadNote" = some (.ref C_BadNote)) (x_BadNote : ∀ c C b, subX "BadNote" c = some b → PySem.W.nsIn K mainGlobals c = some (some (.ref C)) → ExcK K C ∧ PySem.W.kitOne K (.ref C) (.ref C_BadNote) = some b) {C_NoNumber : Addr} (m_NoNumber : mg "NoNumber" = some (.ref C_NoNumber)) (x_NoNumber : ∀ c C b, subX "NoNumber" c = some b → PySem.W.nsIn K mainGlobals c = some (some (.ref C)) → ExcK K C ∧ PySem.W.kitOne K (.ref C) (.ref C_NoNumber) = some b) {C_NoPicture : Addr} (m_NoPicture : mg "NoPicture" = some (.ref C_NoPicture)) (x_NoPicture : ∀ c C b, subX "NoPicture" c = some b → PySem.W.nsIn K mainGlobals c = some (some (.ref C)) → ExcK K C ∧ PySem.W.kitOne K (.ref C) (.ref C_NoPicture) = some b) {C_NoRoom : Addr} (m_NoRoom : mg "NoRoom" = some (.ref C_NoRoom)) (x_NoRoom : ∀ c C b, subX "NoRoom" c = some b → PySem.W.nsIn K mainGlobals c = some (some (.ref C)) → ExcK K C ∧ PySem.W.kitOne K (.ref C) (.ref C_NoRoom) = some b) {C_NoStep : Addr} (m_NoStep : mg "NoStep" = some (.ref C_NoStep)) (x_NoStep : ∀ c C b, subX "NoStep" c = some b → PySem.W.nsIn K mainGlobals c = some (some (.ref C)) → ExcK K C ∧ PySem.W.kitOne K (.ref C) (.ref C_NoStep) = some b) {C_NoWord : Addr} (m_NoWord : mg "NoWord" = some (.ref C_NoWord)) (x_NoWord : ∀ c C b, subX "NoWord" c = some b → PySem.W.nsIn K mainGlobals c = some (some (.ref C)) → ExcK K C ∧ PySem.W.kitOne K (.ref C) (.ref C_NoWord) = some b) (x_ValueError : ∀ c C b, subX "ValueError" c = some b → PySem.W.nsIn K mainGlobals c = some (some (.ref C)) → ExcK K C ∧ PySem.W.kitOne K (.ref C) (.type "ValueError") = some b) (z_ValueError : mg "ValueError" = none) (z_isinstance : mg "isinstance" = none) (hr : RoomM k (A.deeper (envOfC "_law_marks" (za0 s_q4) s.heap.objs.size f cdv))) :
    RSs (cxM CX0 P w K mg base N_q4 "_law_marks" (za0 s_q4) f cdv A outer s H E).nox (yc0 s_q4) (t_q4) :=
  (zb0 (xe0 (i := 1) sc_q4.nd (yn0 (xa0 (wb1 (ya0 0) (zj1 rfl m_NoWord) (fun _ h => h) x_NoWord z_isinstance) (xa0 (wb1 (ya0 0) (zj1 rfl m_NoRoom) (fun _ h => h) x_NoRoom z_isinstance) (xa0 (wb1 (ya0 0) (zj1 rfl m_NoStep) (fun _ h => h) x_NoStep z_isinstance) (xa0 (wb1 (ya0 0) (zj1 rfl m_NoPicture) (fun _ h => h) x_NoPicture z_isinstance) xb0)))))) (wb0 (zd0 (wd0 xi0 (ya0 1) (yn0 (xa0 (wb1 (ya0 0) (zj1 rfl m_NoNumber) (fun _ h => h) x_NoNumber z_isinstance) (xa0 (wb1 (ya0 0) (zj1 rfl m_BadNote) (fun _ h => h) x_BadNote z_isinstance) (xa0 (wb1 (ya0 0) (wn5 rfl z_ValueError wt1 (show RelV (.ty "ValueError") (.type "ValueError") from rfl)) (fun _ h => h) x_ValueError z_isinstance) xb0))))))))
noncomputable abbrev s_q6 : Stmt := top 42
theorem zw7 : FnScope N_q6 ["marks", "which"] (za0 s_q6) := ⟨rfl, rfl, rfl, by decide +kernel, rfl, by decide +kernel, by decide +kernel⟩
theorem yy7 {k : Nat} {f : Addr} {cdv : Value} {A : Around} {outer : List Env} {s : Shared} {H : Hp} {E : XK} (z_range : mg "range" = none) (hr : Room k (A.deeper (envOfC "_law_refused" (za0 s_q6) s.heap.objs.size f cdv))) :
    RSs (cxOf CX0 P w K mg base N_q6 "_law_refused" (za0 s_q6) f cdv A outer s H E).nox (yc0 s_q6) (t_q6) :=
  (wb0 (zd0 (ym3 (q_eq (hu64 hr)) (ya0 0) (wd0 xi0 (yt0 (NN := ["k", "which"]) (js := [none, some 1]) rfl yu5 (yb1 z_range wa0) (fun _ _ _ _ _ => (zk0 (i := 0) (show List.Nodup (["k", "which"] : List Str) by decide +kernel))) (fun _ _ _ _ _ => wa1) (fun _ _ _ _ _ => (ym3 (q_eq (hu64 hr)) (ya0 0) (ya0 1))) (by intro _; rfl)) (yn0 (xa0 xh2 xb0))))))
noncomputable abbrev s_q1 : Stmt := top 43
theorem xx7 : FnScope N_q1 ["way", "one", "other"] (za0 s_q1) := ⟨rfl, rfl, rfl, by decide +kernel, rfl, by decide +kernel, by decide +kernel⟩
theorem zz7 {k : Nat} {f : Addr} {cdv : Value} {A : Around} {outer : List Env} {s : Shared} {H : Hp} {E : XK} {XE : XE3} (EX : EXok K mg XE E) {spx_q9 : XE3 → Sp3} {k_q9 : Nat} (c_q9 : CalX P w K mg base k_q9 "both_pictures" ["one", "other"] spx_q9) (l_q9 : k_q9 ≤ k) {spx_q13 : XE3 → Sp3} {k_q13 : Nat} (c_q13 : CalX P w K mg base k_q13 "common_picture" ["one", "other"] spx_q13) (l_q13 : k_q13 ≤ k) {spx_q15 : XE3 → Sp3} {k_q15 : Nat} (c_q15 : CalX P w K mg base k_q15 "kept_by" ["picture"] spx_q15) (l_q15 : k_q15 ≤ k) {spx_q19 : XE3 → Sp3} {k_q19 : Nat} (c_q19 : CalX P w K mg base k_q19 "mirrored_picture" ["picture"] spx_q19) (l_q19 : k_q19 ≤ k) {spx_q21 : XE3 → Sp3} {k_q21 : Nat} (c_q21 : CalX P w K mg base k_q21 "moved_picture" ["picture", "x", "y"] spx_q21) (l_q21 : k_q21 ≤ k) {spx_q23 : XE3 → Sp3} {k_q23 : Nat} (c_q23 : CalX P w K mg base k_q23 "parting_stroke" ["one", "other"] spx_q23) (l_q23 : k_q23 ≤ k) {spx_q25 : XE3 → Sp3} {k_q25 : Nat} (c_q25 : CalX P w K mg base k_q25 "same_shape" ["one", "other"] spx_q25) (l_q25 : k_q25 ≤ k) {spx_q28 : XE3 → Sp3} {k_q28 : Nat} (c_q28 : CalX P w K mg base k_q28 "turned_picture" ["picture", "quarters"] spx_q28) (l_q28 : k_q28 ≤ k) {spx_q31 : XE3 → Sp3} {k_q31 : Nat} (c_q31 : CalX P w K mg base k_q31 "without_picture" ["one", "other"] spx_q31) (l_q31 : k_q31 ≤ k) (hr : Room k (A.deeper (envOfC "_law_called" (za0 s_q1) s.heap.objs.size f cdv))) :
    RSs (cxOf (CXn P w) P w K mg base N_q1 "_law_called" (za0 s_q1) f cdv A outer s H E) (yc0 s_q1) (t_q1 XE spx_q9 spx_q13 spx_q15 spx_q19 spx_q21 spx_q23 spx_q25 spx_q28 spx_q31) :=
  (wb0 (yk0 (xf0 (q_eq (hu64 hr)) (ya0 0) wa0) (wb0 (ze0 (wc0 EX (c_q21.mono l_q21) hr (xa0 (ya0 1) (xa0 wa0 (xa0 wa0 xb0)))))) (wb0 (yk0 (xf0 (q_eq (hu64 hr)) (ya0 0) wa0) (wb0 (ze0 (wc0 EX (c_q28.mono l_q28) hr (xa0 (ya0 1) (xa0 wa0 xb0))))) (wb0 (yk0 (xf0 (q_eq (hu64 hr)) (ya0 0) wa0) (wb0 (ze0 (wc0 EX (c_q19.mono l_q19) hr (xa0 (ya0 1) xb0)))) (wb0 (yk0 (xf0 (q_eq (hu64 hr)) (ya0 0) wa0) (wb0 (ze0 (wc0 EX (c_q15.mono l_q15) hr (xa0 (ya0 1) xb0)))) (wb0 (yk0 (xf0 (q_eq (hu64 hr)) (ya0 0) wa0) (wb0 (ze0 (wc0 EX (c_q9.mono l_q9) hr (xa0 (ya0 1) (xa0 (ya0 2) xb0))))) (wb0 (yk0 (xf0 (q_eq (hu64 hr)) (ya0 0) wa0) (wb0 (ze0 (wc0 EX (c_q13.mono l_q13) hr (xa0 (ya0 1) (xa0 (ya0 2) xb0))))) (wb0 (yk0 (xf0 (q_eq (hu64 hr)) (ya0 0) wa0) (wb0 (ze0 (wc0 EX (c_q31.mono l_q31) hr (xa0 (ya0 1) (xa0 (ya0 2) xb0))))) (wb0 (yk0 (xf0 (q_eq (hu64 hr)) (ya0 0) wa0) (wb0 (ze0 (wc0 EX (c_q23.mono l_q23) hr (xa0 (ya0 1) (xa0 (ya0 2) xb0))))) (wb0 (ze0 (wc0 EX (c_q25.mono l_q25) hr (xa0 (ya0 1) (xa0 (ya0 2) xb0)))))))))))))))))))))
noncomputable abbrev s_q8 : Stmt := top 44
theorem sc_q8 : FnScope N_q8 ["way", "one", "other"] (za0 s_q8) := ⟨rfl, rfl, rfl, by decide +kernel, rfl, by decide +kernel, by decide +kernel⟩
theorem wx7 {k : Nat} {f : Addr} {cdv : Value} {A : Around} {outer : List Env} {s : Shared} {H : Hp} {E : XK} {spx_q1 : XE3 → Sp3} {k_q1 : Nat} (c_q1 : CalX P w K mg base k_q1 "_law_called" ["way", "one", "other"] spx_q1) (l_q1 : k_q1 ≤ k) {sp_q4 : Sp3} {k_q4 : Nat} (c_q4 : CalM P w K mg base k_q4 "_law_marks" ["e"] sp_q4) (l_q4 : k_q4 ≤ k) {C_PenError : Addr} (m_PenError : mg "PenError" = some (.ref C_PenError)) (k2_PenError : PySem.W.kitCls K (.ref C_PenError) (.type "BaseException") = some true) (k3 : PySem.W.kitCls K (.type "type") (.type "tuple") = some false) (ok_PenError : ∀ c, okX c = true → ∃ C, PySem.W.nsIn K mainGlobals c = some (some (.ref C)) ∧ mg c = some (.ref C) ∧ PySem.W.kitCls K (.ref C) (.ref C_PenError) = some true) (hr : Room k (A.deeper (envOfC "_law_told" (za0 s_q8) s.heap.objs.size f cdv))) :
    RSs (cxOf CX0 P w K mg base N_q8 "_law_told" (za0 s_q8) f cdv A outer s H E).nox (yc0 s_q8) (t_q8 spx_q1 sp_q4) :=
  (zb0 (xe0 (i := 3) sc_q8.nd (yn0 xb0)) (zb0 (xi5 (i := 4) (c_q1.mono l_q1) hr (xa0 (ya0 0) (xa0 (ya0 1) (xa0 (ya0 2) xb0))) (fun _ => (wb0 (xe0 (i := 3) sc_q8.nd (xg4 (c_q4.mono l_q4) (RoomM.of hr _) (xa0 (ya0 4) xb0))))) sc_q8.nd m_PenError k2_PenError k3 ok_PenError) (wb0 (zd0 (ya0 3)))))
noncomputable abbrev wg1 : Stmt := top 45
theorem sc_q17 : FnScope xz5 ["script"] (za0 wg1) := ⟨rfl, rfl, rfl, by decide +kernel, rfl, by decide +kernel, by decide +kernel⟩
theorem ws6 {k : Nat} {f : Addr} {cdv : Value} {A : Around} {outer : List Env} {s : Shared} {H : Hp} {E : XK} {sp_q0 : Sp3} {k_q0 : Nat} (c_q0 : Cal P w K mg base k_q0 "_law_bad_picture" ["state"] sp_q0) (l_q0 : k_q0 ≤ k) {sp_q5 : Sp3} {k_q5 : Nat} (c_q5 : Cal P w K mg base k_q5 "_law_picture" ["state", "most"] sp_q5) (l_q5 : k_q5 ≤ k) {sp_q6 : Sp3} {k_q6 : Nat} (c_q6 : Cal P w K mg base k_q6 "_law_refused" ["marks", "which"] sp_q6) (l_q6 : k_q6 ≤ k) {sp_q7 : Sp3} {k_q7 : Nat} (c_q7 : Cal P w K mg base k_q7 "_law_state" ["script", "k"] sp_q7) (l_q7 : k_q7 ≤ k) {sp_q8 : Sp3} {k_q8 : Nat} (c_q8 : Cal P w K mg base k_q8 "_law_told" ["way", "one", "other"] sp_q8) (l_q8 : k_q8 ≤ k) (z_range : mg "range" = none) (hr : Room k (A.deeper (envOfC "law" (za0 wg1) s.heap.objs.size f cdv))) :
    RSs (cxOf CX0 P w K mg base xz5 "law" (za0 wg1) f cdv A outer s H E).nox (yc0 wg1) (yg6 sp_q0 sp_q5 sp_q6 sp_q7 sp_q8) :=
  (zb0 (xe0 (i := 1) sc_q17.nd (xd0 (c_q5.mono l_q5) hr (xa0 (xd0 (c_q7.mono l_q7) hr (xa0 (ya0 0) (xa0 wa0 xb0))) (xa0 wa0 xb0)))) (zb0 (xe0 (i := 2) sc_q17.nd (xd0 (c_q0.mono l_q0) hr (xa0 (xd0 (c_q7.mono l_q7) hr (xa0 (ya0 0) (xa0 wa0 xb0))) xb0))) (zb0 (zw1 PassesOwn.never rfl (yb1 z_range wa0) (zk0 (i := 3) sc_q17.nd) (zb0 (yk0 (yk3 (yo6 (xu4 (wk3 (xd0 (c_q6.mono l_q6) hr (xa0 (xd0 (c_q8.mono l_q8) hr (xa0 (ya0 3) (xa0 (ya0 2) (xa0 (ya0 1) xb0)))) (xa0 wa0 xb0))))) (wt4 (xf0 (q_ne (hu64 hr)) (xd0 (c_q8.mono l_q8) hr (xa0 (ya0 3) (xa0 (ya0 1) (xa0 (ya0 1) xb0)))) (yn0 xb0))))) (wb0 (zd0 xh2)) xg0) (wb0 (yk0 (yk3 (zk3 (xf0 q_gt (ya0 3) wa0) (wg2 (xu4 (wk3 (xd0 (c_q6.mono l_q6) hr (xa0 (xd0 (c_q8.mono l_q8) hr (xa0 (ya0 3) (xa0 (ya0 1) (xa0 (ya0 2) xb0)))) (xa0 wa0 xb0)))))))) (wb0 (zd0 xh2)) xg0)))) (wb0 (zd0 xh2)))))

end
end Pv

namespace Pv
open PySem PySem.Spec PyProof.Rows L2
theorem bn1 {P : List Value → Prop} (h : ∀ a, P [a]) (us : List Value) (e : us.length = 1) : P us := by
  match us, e with
  | [a], _ => exact h a
theorem bn2 {P : List Value → Prop} (h : ∀ a b, P [a, b]) (us : List Value) (e : us.length = 2) : P us := by
  match us, e with
  | [a, b], _ => exact h a b
theorem bn3 {P : List Value → Prop} (h : ∀ a b c, P [a, b, c]) (us : List Value) (e : us.length = 3) : P us := by
  match us, e with
  | [a, b, c], _ => exact h a b c
theorem xe2 {K : Fg} {r cn : Str} {Cr : Addr} {T : Value} {b0 : Bool} (hs : xnames = [r] ∧ subX cn r = some b0) (ac : PySem.W.nsIn K mainGlobals r = some (some (.ref Cr))) (E : ExcK K Cr) (kk : PySem.W.kitOne K (.ref Cr) T = some b0) (c : Str) (C : Addr) (b : Bool) (h : subX cn c = some b) (hn : PySem.W.nsIn K mainGlobals c = some (some (.ref C))) : ExcK K C ∧ PySem.W.kitOne K (.ref C) T = some b := by
  have hin := yf5 h
  rw [hs.1, List.mem_singleton] at hin
  subst hin
  rw [ac] at hn
  cases hn
  rw [hs.2] at h
  cases h
  exact ⟨E, kk⟩
noncomputable abbrev NsR (K : Fg) (x : Str) (p : Addr) : Prop := PySem.W.nsIn K mainGlobals x = some (some (.ref p))
noncomputable def FnA (K : Fg) (x : Str) (st : Stmt) (p : Addr) : Prop := ∃ oc od sl kV dc pm an cd ct, K.lookup p = some ⟨oc, od, .func (PySem.W.fnOf x x (xp0 st) (yc0 st) (za0 st) .none kV dc pm an cd ct), sl⟩ ∧ PySem.W.codeIn K cd x = true ∧ PySem.W.keepIn K (.ref p) = true
theorem fnA_mk {K : Fg} {x : Str} {st : Stmt} {p : Addr} {oc kV dc pm cd ct : Value} {od an : Option Addr} {sl : Array (Option Value)} (l : K.lookup p = some ⟨oc, od, .func (PySem.W.fnOf x x (xp0 st) (yc0 st) (za0 st) .none kV dc pm an cd ct), sl⟩) (c : PySem.W.codeIn K cd x = true) (k : PySem.W.keepIn K (.ref p) = true) : FnA K x st p := ⟨_, _, _, _, _, _, _, _, _, l, c, k⟩
theorem FnA.fn {K : Fg} {x : Str} {st : Stmt} {p : Addr} (h : FnA K x st p) : ∃ fd, Fun K x x st p fd := by
  obtain ⟨_, _, _, _, _, _, _, _, _, l, c, k⟩ := h
  exact ⟨_, xa5 (st := st) l c k⟩
theorem all_mk {l : PySem.W.OpenLaw} {w : World} {K : Fg} {h : Heap} {mg : Str → Option Value} {fa : Addr} (X : K.In h) (G : h.Ns mainGlobals mg) (hfa : mg "law" = some (.ref fa))
    {p_q18 : Addr}
    {p_q10 : Addr}
    {p_q12 : Addr}
    {p_q11 : Addr}
    {p_q14 : Addr}
    {p_q27 : Addr}
    {p_q24 : Addr}
    {p_q21 : Addr}
    {p_q22 : Addr}
    {p_q28 : Addr}
    {p_q30 : Addr}
    {p_q29 : Addr}
    {p_q19 : Addr}
    {p_q20 : Addr}
    {p_q9 : Addr}
    {p_q13 : Addr}
    {p_q31 : Addr}
    {p_q23 : Addr}
    {p_q15 : Addr}
    {p_q25 : Addr}
    {p_q16 : Addr}
    {p_q26 : Addr}
    {p_q2 : Addr}
    {p_q7 : Addr}
    {p_q3 : Addr}
    {p_q5 : Addr}
    {p_q0 : Addr}
    {p_q4 : Addr}
    {p_q6 : Addr}
    {p_q1 : Addr}
    {p_q8 : Addr}
    {p_q17 : Addr}
    {t_3 : Tok}
    {t_4 : Tok}
    {q_2 : Addr} {qo_2 : Option Addr} {qn_2 : Nat} {qs_2 : Array (Option Value)}
    {t_6 : Tok}
    {t_7 : Tok}
    {q_5 : Addr} {qo_5 : Option Addr} {qn_5 : Nat} {qs_5 : Array (Option Value)}
    {t_9 : Tok}
    {t_10 : Tok}
    {q_8 : Addr} {qo_8 : Option Addr} {qn_8 : Nat} {qs_8 : Array (Option Value)}
    {t_12 : Tok}
    {t_13 : Tok}
    {q_11 : Addr} {qo_11 : Option Addr} {qn_11 : Nat} {qs_11 : Array (Option Value)}
    {q_1 : Addr} {qo_1 : Option Addr} {qn_1 : Nat} {qs_1 : Array (Option Value)}
    {t_15 : Tok}
    {t_16 : Tok}
    {q_14 : Addr} {qo_14 : Option Addr} {qn_14 : Nat} {qs_14 : Array (Option Value)}
    {t_19 : Tok}
    {t_20 : Tok}
    {q_18 : Addr} {qo_18 : Option Addr} {qn_18 : Nat} {qs_18 : Array (Option Value)}
    {t_22 : Tok}
    {t_23 : Tok}
    {q_21 : Addr} {qo_21 : Option Addr} {qn_21 : Nat} {qs_21 : Array (Option Value)}
    {t_25 : Tok}
    {t_26 : Tok}
    {q_24 : Addr} {qo_24 : Option Addr} {qn_24 : Nat} {qs_24 : Array (Option Value)}
    {t_28 : Tok}
    {t_29 : Tok}
    {q_27 : Addr} {qo_27 : Option Addr} {qn_27 : Nat} {qs_27 : Array (Option Value)}
    {t_31 : Tok}
    {t_32 : Tok}
    {q_30 : Addr} {qo_30 : Option Addr} {qn_30 : Nat} {qs_30 : Array (Option Value)}
    {t_34 : Tok}
    {t_35 : Tok}
    {q_33 : Addr} {qo_33 : Option Addr} {qn_33 : Nat} {qs_33 : Array (Option Value)}
    {t_37 : Tok}
    {t_38 : Tok}
    {q_36 : Addr} {qo_36 : Option Addr} {qn_36 : Nat} {qs_36 : Array (Option Value)}
    {t_40 : Tok}
    {t_41 : Tok}
    {q_39 : Addr} {qo_39 : Option Addr} {qn_39 : Nat} {qs_39 : Array (Option Value)}
    {q_17 : Addr} {qo_17 : Option Addr} {qn_17 : Nat} {qs_17 : Array (Option Value)}
    {C_BadNote : Addr} {cdt_BadNote : ClassData}
    {C_NoNumber : Addr} {cdt_NoNumber : ClassData}
    {C_NoPicture : Addr} {cdt_NoPicture : ClassData}
    {C_NoRoom : Addr} {cdt_NoRoom : ClassData}
    {C_NoStep : Addr} {cdt_NoStep : ClassData}
    {C_NoWord : Addr} {cdt_NoWord : ClassData}
    {C_PenError : Addr} {cdt_PenError : ClassData}
    (a_q18 : NsR K "led" p_q18) (A_q18 : FnA K "led" zz2 p_q18)
    (a_q10 : NsR K "check_picture" p_q10) (A_q10 : FnA K "check_picture" yb3 p_q10)
    (a_q12 : NsR K "check_stroke" p_q12) (A_q12 : FnA K "check_stroke" wa3 p_q12)
    (a_q11 : NsR K "check_pictures" p_q11) (A_q11 : FnA K "check_pictures" xb3 p_q11)
    (a_q14 : NsR K "ends_of" p_q14) (A_q14 : FnA K "ends_of" ya3 p_q14)
    (a_q27 : NsR K "stroke_between" p_q27) (A_q27 : FnA K "stroke_between" yx2 p_q27)
    (a_q24 : NsR K "picture_with" p_q24) (A_q24 : FnA K "picture_with" xy2 p_q24)
    (a_q21 : NsR K "moved_picture" p_q21) (A_q21 : FnA K "moved_picture" wy2 p_q21)
    (a_q22 : NsR K "moved_stroke" p_q22) (A_q22 : FnA K "moved_stroke" zy2 p_q22)
    (a_q28 : NsR K "turned_picture" p_q28) (A_q28 : FnA K "turned_picture" xx2 p_q28)
    (a_q30 : NsR K "turned_stroke" p_q30) (A_q30 : FnA K "turned_stroke" zw2 p_q30)
    (a_q29 : NsR K "turned_point" p_q29) (A_q29 : FnA K "turned_point" ww2 p_q29)
    (a_q19 : NsR K "mirrored_picture" p_q19) (A_q19 : FnA K "mirrored_picture" yz2 p_q19)
    (a_q20 : NsR K "mirrored_stroke" p_q20) (A_q20 : FnA K "mirrored_stroke" xz2 p_q20)
    (a_q9 : NsR K "both_pictures" p_q9) (A_q9 : FnA K "both_pictures" s_q9 p_q9)
    (a_q13 : NsR K "common_picture" p_q13) (A_q13 : FnA K "common_picture" za3 p_q13)
    (a_q31 : NsR K "without_picture" p_q31) (A_q31 : FnA K "without_picture" yw2 p_q31)
    (a_q23 : NsR K "parting_stroke" p_q23) (A_q23 : FnA K "parting_stroke" yy2 p_q23)
    (a_q15 : NsR K "kept_by" p_q15) (A_q15 : FnA K "kept_by" xa3 p_q15)
    (a_q25 : NsR K "same_shape" p_q25) (A_q25 : FnA K "same_shape" wx2 p_q25)
    (a_q16 : NsR K "laid" p_q16) (A_q16 : FnA K "laid" wz2 p_q16)
    (a_q26 : NsR K "shift_between" p_q26) (A_q26 : FnA K "shift_between" zx2 p_q26)
    (a_q2 : NsR K "_law_cell_at" p_q2) (A_q2 : FnA K "_law_cell_at" s_q2 p_q2)
    (a_q7 : NsR K "_law_state" p_q7) (A_q7 : FnA K "_law_state" s_q7 p_q7)
    (a_q3 : NsR K "_law_choice" p_q3) (A_q3 : FnA K "_law_choice" s_q3 p_q3)
    (a_q5 : NsR K "_law_picture" p_q5) (A_q5 : FnA K "_law_picture" s_q5 p_q5)
    (a_q0 : NsR K "_law_bad_picture" p_q0) (A_q0 : FnA K "_law_bad_picture" s_q0 p_q0)
    (a_q4 : NsR K "_law_marks" p_q4) (A_q4 : FnA K "_law_marks" s_q4 p_q4)
    (a_q6 : NsR K "_law_refused" p_q6) (A_q6 : FnA K "_law_refused" s_q6 p_q6)
    (a_q1 : NsR K "_law_called" p_q1) (A_q1 : FnA K "_law_called" s_q1 p_q1)
    (a_q8 : NsR K "_law_told" p_q8) (A_q8 : FnA K "_law_told" s_q8 p_q8)
    (a_q17 : NsR K "law" p_q17) (A_q17 : FnA K "law" wg1 p_q17)
    (e_AHEAD : PySem.W.nsIn K mainGlobals "AHEAD" = some (some (.ref q_1)))
    (ql_1 : K.lookup q_1 = some ⟨.type "tuple", qo_1, .seq #[.ref q_2, .ref q_5, .ref q_8, .ref q_11] qn_1, qs_1⟩)
    (ql_11 : K.lookup q_11 = some ⟨.type "tuple", qo_11, .seq #[.int (0) t_12, .int (-1) t_13] qn_11, qs_11⟩)
    (ql_8 : K.lookup q_8 = some ⟨.type "tuple", qo_8, .seq #[.int (-1) t_9, .int (0) t_10] qn_8, qs_8⟩)
    (ql_5 : K.lookup q_5 = some ⟨.type "tuple", qo_5, .seq #[.int (0) t_6, .int (1) t_7] qn_5, qs_5⟩)
    (ql_2 : K.lookup q_2 = some ⟨.type "tuple", qo_2, .seq #[.int (1) t_3, .int (0) t_4] qn_2, qs_2⟩)
    (e_WAYS : PySem.W.nsIn K mainGlobals "WAYS" = some (some (.ref q_14)))
    (ql_14 : K.lookup q_14 = some ⟨.type "tuple", qo_14, .seq #[.int (0) t_15, .int (1) t_16] qn_14, qs_14⟩)
    (e_LAYINGS : PySem.W.nsIn K mainGlobals "LAYINGS" = some (some (.ref q_17)))
    (ql_17 : K.lookup q_17 = some ⟨.type "tuple", qo_17, .seq #[.ref q_18, .ref q_21, .ref q_24, .ref q_27, .ref q_30, .ref q_33, .ref q_36, .ref q_39] qn_17, qs_17⟩)
    (ql_39 : K.lookup q_39 = some ⟨.type "tuple", qo_39, .seq #[.int (1) t_40, .int (3) t_41] qn_39, qs_39⟩)
    (ql_36 : K.lookup q_36 = some ⟨.type "tuple", qo_36, .seq #[.int (1) t_37, .int (2) t_38] qn_36, qs_36⟩)
    (ql_33 : K.lookup q_33 = some ⟨.type "tuple", qo_33, .seq #[.int (1) t_34, .int (1) t_35] qn_33, qs_33⟩)
    (ql_30 : K.lookup q_30 = some ⟨.type "tuple", qo_30, .seq #[.int (1) t_31, .int (0) t_32] qn_30, qs_30⟩)
    (ql_27 : K.lookup q_27 = some ⟨.type "tuple", qo_27, .seq #[.int (0) t_28, .int (3) t_29] qn_27, qs_27⟩)
    (ql_24 : K.lookup q_24 = some ⟨.type "tuple", qo_24, .seq #[.int (0) t_25, .int (2) t_26] qn_24, qs_24⟩)
    (ql_21 : K.lookup q_21 = some ⟨.type "tuple", qo_21, .seq #[.int (0) t_22, .int (1) t_23] qn_21, qs_21⟩)
    (ql_18 : K.lookup q_18 = some ⟨.type "tuple", qo_18, .seq #[.int (0) t_19, .int (0) t_20] qn_18, qs_18⟩)
    (ac_BadNote : PySem.W.nsIn K mainGlobals "BadNote" = some (some (.ref C_BadNote)))
    (cl_BadNote : PySem.W.clsIn K C_BadNote = some cdt_BadNote)
    (tc_BadNote : PySem.W.typeIn K (.ref C_BadNote) = some (.type "type"))
    (ac_NoNumber : PySem.W.nsIn K mainGlobals "NoNumber" = some (some (.ref C_NoNumber)))
    (cl_NoNumber : PySem.W.clsIn K C_NoNumber = some cdt_NoNumber)
    (tc_NoNumber : PySem.W.typeIn K (.ref C_NoNumber) = some (.type "type"))
    (ac_NoPicture : PySem.W.nsIn K mainGlobals "NoPicture" = some (some (.ref C_NoPicture)))
    (cl_NoPicture : PySem.W.clsIn K C_NoPicture = some cdt_NoPicture)
    (tc_NoPicture : PySem.W.typeIn K (.ref C_NoPicture) = some (.type "type"))
    (ac_NoRoom : PySem.W.nsIn K mainGlobals "NoRoom" = some (some (.ref C_NoRoom)))
    (cl_NoRoom : PySem.W.clsIn K C_NoRoom = some cdt_NoRoom)
    (tc_NoRoom : PySem.W.typeIn K (.ref C_NoRoom) = some (.type "type"))
    (ac_NoStep : PySem.W.nsIn K mainGlobals "NoStep" = some (some (.ref C_NoStep)))
    (cl_NoStep : PySem.W.clsIn K C_NoStep = some cdt_NoStep)
    (tc_NoStep : PySem.W.typeIn K (.ref C_NoStep) = some (.type "type"))
    (ac_NoWord : PySem.W.nsIn K mainGlobals "NoWord" = some (some (.ref C_NoWord)))
    (cl_NoWord : PySem.W.clsIn K C_NoWord = some cdt_NoWord)
    (tc_NoWord : PySem.W.typeIn K (.ref C_NoWord) = some (.type "type"))
    (ac_PenError : PySem.W.nsIn K mainGlobals "PenError" = some (some (.ref C_PenError)))
    (cl_PenError : PySem.W.clsIn K C_PenError = some cdt_PenError)
    (tc_PenError : PySem.W.typeIn K (.ref C_PenError) = some (.type "type"))
    (q_NoPicture : PySem.W.excIn K C_NoPicture [.type "ValueError", .type "Exception", .type "BaseException", .type "object"] "ValueError.__new__" = true)
    (ek0_NoPicture : PySem.W.findIn K (.ref C_NoPicture) "__getattribute__" = some (some (.builtin "BaseException.__getattribute__")))
    (ek1_NoPicture : PySem.W.findIn K (.ref C_NoPicture) "__getattr__" = some none)
    (ek2_NoPicture : PySem.W.mroIn K C_NoPicture (.type "BaseException") = some true)
    (ek4_NoPicture : PySem.W.findIn K (.ref C_NoPicture) "__class__" = some (some (.builtin "object.__class__")))
    (ek5_NoPicture : PySem.W.specialIn K (.builtin "object.__class__") "__get__" = some (some (.builtin "getset_descriptor.__get__")))
    (ek6_NoPicture : PySem.W.takesIn K (.builtin "object.__class__") = some true)
    (ek7_NoPicture : PySem.W.mroIn K C_NoPicture (.type "object") = some true)
    (sb_NoPicture_BadNote : PySem.W.subIn K (.ref C_NoPicture) (.ref C_BadNote) = some false)
    (ne_NoPicture_BadNote : (Value.ref C_NoPicture == Value.ref C_BadNote) = false)
    (sb_NoPicture_NoNumber : PySem.W.subIn K (.ref C_NoPicture) (.ref C_NoNumber) = some false)
    (ne_NoPicture_NoNumber : (Value.ref C_NoPicture == Value.ref C_NoNumber) = false)
    (sb_NoPicture_NoRoom : PySem.W.subIn K (.ref C_NoPicture) (.ref C_NoRoom) = some false)
    (ne_NoPicture_NoRoom : (Value.ref C_NoPicture == Value.ref C_NoRoom) = false)
    (sb_NoPicture_NoStep : PySem.W.subIn K (.ref C_NoPicture) (.ref C_NoStep) = some false)
    (ne_NoPicture_NoStep : (Value.ref C_NoPicture == Value.ref C_NoStep) = false)
    (sb_NoPicture_NoWord : PySem.W.subIn K (.ref C_NoPicture) (.ref C_NoWord) = some false)
    (ne_NoPicture_NoWord : (Value.ref C_NoPicture == Value.ref C_NoWord) = false)
    (sb_NoPicture_ValueError : PySem.W.subIn K (.ref C_NoPicture) (.type "ValueError") = some true)
    (k3s : PySem.W.subIn K (.type "type") (.type "tuple") = some false)
    (k2s_PenError : PySem.W.subIn K (.ref C_PenError) (.type "BaseException") = some true)
    (sb_NoPicture_PenError : PySem.W.subIn K (.ref C_NoPicture) (.ref C_PenError) = some true)
    (zz_ValueError : PySem.W.nsIn K mainGlobals "ValueError" = some none)
    (zz_any : PySem.W.nsIn K mainGlobals "any" = some none)
    (zz_isinstance : PySem.W.nsIn K mainGlobals "isinstance" = some none)
    (zz_len : PySem.W.nsIn K mainGlobals "len" = some none)
    (zz_list : PySem.W.nsIn K mainGlobals "list" = some none)
    (zz_min : PySem.W.nsIn K mainGlobals "min" = some none)
    (zz_range : PySem.W.nsIn K mainGlobals "range" = some none)
    (zz_set : PySem.W.nsIn K mainGlobals "set" = some none)
    (zz_sorted : PySem.W.nsIn K mainGlobals "sorted" = some none)
    (zz_tuple : PySem.W.nsIn K mainGlobals "tuple" = some none) :
    ∃ fd : FuncData, (∀ (s : Shared) (v : Value), BindsTo s fd ⟨[v], []⟩ [("script", v)]) ∧ ∀ base : Heap, K.In base → base.Ns mainGlobals mg → FnOk l.prog w K mg base CX0 9 fa fd ["script"] (lift K ye4) := by
  have e := hfa.symm.trans (PySem.W.mg_of X G a_q17)
  cases e
  have g_AHEAD : Gd K mg "AHEAD" yq1 := yu3 X G e_AHEAD (TupK.mk ql_1 (show 4 ≤ sizeLine by decide) (.tup (TupK.mk ql_2 (show 2 ≤ sizeLine by decide) (.int (.int .nil))) (.tup (TupK.mk ql_5 (show 2 ≤ sizeLine by decide) (.int (.int .nil))) (.tup (TupK.mk ql_8 (show 2 ≤ sizeLine by decide) (.int (.int .nil))) (.tup (TupK.mk ql_11 (show 2 ≤ sizeLine by decide) (.int (.int .nil))) .nil)))))
  have g_WAYS : Gd K mg "WAYS" zq0 := yu3 X G e_WAYS (TupK.mk ql_14 (show 2 ≤ sizeLine by decide) (.int (.int .nil)))
  have g_LAYINGS : Gd K mg "LAYINGS" wo0 := yu3 X G e_LAYINGS (TupK.mk ql_17 (show 8 ≤ sizeLine by decide) (.tup (TupK.mk ql_18 (show 2 ≤ sizeLine by decide) (.int (.int .nil))) (.tup (TupK.mk ql_21 (show 2 ≤ sizeLine by decide) (.int (.int .nil))) (.tup (TupK.mk ql_24 (show 2 ≤ sizeLine by decide) (.int (.int .nil))) (.tup (TupK.mk ql_27 (show 2 ≤ sizeLine by decide) (.int (.int .nil))) (.tup (TupK.mk ql_30 (show 2 ≤ sizeLine by decide) (.int (.int .nil))) (.tup (TupK.mk ql_33 (show 2 ≤ sizeLine by decide) (.int (.int .nil))) (.tup (TupK.mk ql_36 (show 2 ≤ sizeLine by decide) (.int (.int .nil))) (.tup (TupK.mk ql_39 (show 2 ≤ sizeLine by decide) (.int (.int .nil))) .nil)))))))))
  have m_BadNote := PySem.W.mg_of X G ac_BadNote
  have m_NoNumber := PySem.W.mg_of X G ac_NoNumber
  have m_NoPicture := PySem.W.mg_of X G ac_NoPicture
  have m_NoRoom := PySem.W.mg_of X G ac_NoRoom
  have m_NoStep := PySem.W.mg_of X G ac_NoStep
  have m_NoWord := PySem.W.mg_of X G ac_NoWord
  have m_PenError := PySem.W.mg_of X G ac_PenError
  have EK_NoPicture : ExcK K C_NoPicture := ⟨ek0_NoPicture, ek1_NoPicture, ek2_NoPicture, (by rw [cl_NoPicture]; rfl), ek4_NoPicture, ek5_NoPicture, ek6_NoPicture, ek7_NoPicture⟩
  have kk_NoPicture_BadNote : PySem.W.kitOne K (.ref C_NoPicture) (.ref C_BadNote) = some false := zw0 ne_NoPicture_BadNote (xq0 cl_BadNote tc_BadNote sb_NoPicture_BadNote)
  have x_BadNote := xe2 (cn := "BadNote") ⟨rfl, by decide⟩ ac_NoPicture EK_NoPicture kk_NoPicture_BadNote
  have kk_NoPicture_NoNumber : PySem.W.kitOne K (.ref C_NoPicture) (.ref C_NoNumber) = some false := zw0 ne_NoPicture_NoNumber (xq0 cl_NoNumber tc_NoNumber sb_NoPicture_NoNumber)
  have x_NoNumber := xe2 (cn := "NoNumber") ⟨rfl, by decide⟩ ac_NoPicture EK_NoPicture kk_NoPicture_NoNumber
  have kk_NoPicture_NoPicture : PySem.W.kitOne K (.ref C_NoPicture) (.ref C_NoPicture) = some true := zs3
  have x_NoPicture := xe2 (cn := "NoPicture") ⟨rfl, by decide⟩ ac_NoPicture EK_NoPicture kk_NoPicture_NoPicture
  have kk_NoPicture_NoRoom : PySem.W.kitOne K (.ref C_NoPicture) (.ref C_NoRoom) = some false := zw0 ne_NoPicture_NoRoom (xq0 cl_NoRoom tc_NoRoom sb_NoPicture_NoRoom)
  have x_NoRoom := xe2 (cn := "NoRoom") ⟨rfl, by decide⟩ ac_NoPicture EK_NoPicture kk_NoPicture_NoRoom
  have kk_NoPicture_NoStep : PySem.W.kitOne K (.ref C_NoPicture) (.ref C_NoStep) = some false := zw0 ne_NoPicture_NoStep (xq0 cl_NoStep tc_NoStep sb_NoPicture_NoStep)
  have x_NoStep := xe2 (cn := "NoStep") ⟨rfl, by decide⟩ ac_NoPicture EK_NoPicture kk_NoPicture_NoStep
  have kk_NoPicture_NoWord : PySem.W.kitOne K (.ref C_NoPicture) (.ref C_NoWord) = some false := zw0 ne_NoPicture_NoWord (xq0 cl_NoWord tc_NoWord sb_NoPicture_NoWord)
  have x_NoWord := xe2 (cn := "NoWord") ⟨rfl, by decide⟩ ac_NoPicture EK_NoPicture kk_NoPicture_NoWord
  have kk_NoPicture_ValueError : PySem.W.kitOne K (.ref C_NoPicture) (.type "ValueError") = some true := zw0 rfl (xj2 (by decide +kernel) sb_NoPicture_ValueError)
  have x_ValueError := xe2 (cn := "ValueError") ⟨rfl, by decide⟩ ac_NoPicture EK_NoPicture kk_NoPicture_ValueError
  have k3 : PySem.W.kitCls K (.type "type") (.type "tuple") = some false := xj2 (by decide +kernel) k3s
  have k2_PenError := xj2 (T := "BaseException") (by decide +kernel) k2s_PenError
  have kc_NoPicture_PenError := xq0 cl_PenError tc_PenError sb_NoPicture_PenError
  have ok_PenError : ∀ c, okX c = true → ∃ C, PySem.W.nsIn K mainGlobals c = some (some (.ref C)) ∧ mg c = some (.ref C) ∧ PySem.W.kitCls K (.ref C) (.ref C_PenError) = some true := by
    intro c h
    have hin : c ∈ xnames := by simpa [okX] using h
    simp only [xnames, List.mem_cons, List.not_mem_nil, or_false] at hin
    rcases hin with rfl
    · exact ⟨C_NoPicture, ac_NoPicture, m_NoPicture, kc_NoPicture_PenError⟩
  have z_ValueError := PySem.W.mg_none_of X G zz_ValueError
  have z_any := PySem.W.mg_none_of X G zz_any
  have z_isinstance := PySem.W.mg_none_of X G zz_isinstance
  have z_len := PySem.W.mg_none_of X G zz_len
  have z_list := PySem.W.mg_none_of X G zz_list
  have z_min := PySem.W.mg_none_of X G zz_min
  have z_range := PySem.W.mg_none_of X G zz_range
  have z_set := PySem.W.mg_none_of X G zz_set
  have z_sorted := PySem.W.mg_none_of X G zz_sorted
  have z_tuple := PySem.W.mg_none_of X G zz_tuple
  obtain ⟨_, F_q18⟩ := A_q18.fn
  have b_q18 := F_q18.binds (ps := ["pen", "part"]) fun _ _ _ _ _ _ => bn2 fun _ _ => rfl
  have m_q18 := PySem.W.mg_of X G a_q18
  obtain ⟨_, F_q10⟩ := A_q10.fn
  have b_q10 := F_q10.binds (ps := ["picture"]) fun _ _ _ _ _ _ => bn1 fun _ => rfl
  have m_q10 := PySem.W.mg_of X G a_q10
  obtain ⟨_, F_q12⟩ := A_q12.fn
  have b_q12 := F_q12.binds (ps := ["stroke"]) fun _ _ _ _ _ _ => bn1 fun _ => rfl
  have m_q12 := PySem.W.mg_of X G a_q12
  obtain ⟨_, F_q11⟩ := A_q11.fn
  have b_q11 := F_q11.binds (ps := ["one", "other"]) fun _ _ _ _ _ _ => bn2 fun _ _ => rfl
  have m_q11 := PySem.W.mg_of X G a_q11
  obtain ⟨_, F_q14⟩ := A_q14.fn
  have b_q14 := F_q14.binds (ps := ["stroke"]) fun _ _ _ _ _ _ => bn1 fun _ => rfl
  have m_q14 := PySem.W.mg_of X G a_q14
  obtain ⟨_, F_q27⟩ := A_q27.fn
  have b_q27 := F_q27.binds (ps := ["point", "other"]) fun _ _ _ _ _ _ => bn2 fun _ _ => rfl
  have m_q27 := PySem.W.mg_of X G a_q27
  obtain ⟨_, F_q24⟩ := A_q24.fn
  have b_q24 := F_q24.binds (ps := ["strokes"]) fun _ _ _ _ _ _ => bn1 fun _ => rfl
  have m_q24 := PySem.W.mg_of X G a_q24
  obtain ⟨_, F_q21⟩ := A_q21.fn
  have b_q21 := F_q21.binds (ps := ["picture", "x", "y"]) fun _ _ _ _ _ _ => bn3 fun _ _ _ => rfl
  have m_q21 := PySem.W.mg_of X G a_q21
  obtain ⟨_, F_q22⟩ := A_q22.fn
  have b_q22 := F_q22.binds (ps := ["stroke", "x", "y"]) fun _ _ _ _ _ _ => bn3 fun _ _ _ => rfl
  have m_q22 := PySem.W.mg_of X G a_q22
  obtain ⟨_, F_q28⟩ := A_q28.fn
  have b_q28 := F_q28.binds (ps := ["picture", "quarters"]) fun _ _ _ _ _ _ => bn2 fun _ _ => rfl
  have m_q28 := PySem.W.mg_of X G a_q28
  obtain ⟨_, F_q30⟩ := A_q30.fn
  have b_q30 := F_q30.binds (ps := ["stroke", "quarters"]) fun _ _ _ _ _ _ => bn2 fun _ _ => rfl
  have m_q30 := PySem.W.mg_of X G a_q30
  obtain ⟨_, F_q29⟩ := A_q29.fn
  have b_q29 := F_q29.binds (ps := ["point", "quarters"]) fun _ _ _ _ _ _ => bn2 fun _ _ => rfl
  have m_q29 := PySem.W.mg_of X G a_q29
  obtain ⟨_, F_q19⟩ := A_q19.fn
  have b_q19 := F_q19.binds (ps := ["picture"]) fun _ _ _ _ _ _ => bn1 fun _ => rfl
  have m_q19 := PySem.W.mg_of X G a_q19
  obtain ⟨_, F_q20⟩ := A_q20.fn
  have b_q20 := F_q20.binds (ps := ["stroke"]) fun _ _ _ _ _ _ => bn1 fun _ => rfl
  have m_q20 := PySem.W.mg_of X G a_q20
  obtain ⟨_, F_q9⟩ := A_q9.fn
  have b_q9 := F_q9.binds (ps := ["one", "other"]) fun _ _ _ _ _ _ => bn2 fun _ _ => rfl
  have m_q9 := PySem.W.mg_of X G a_q9
  obtain ⟨_, F_q13⟩ := A_q13.fn
  have b_q13 := F_q13.binds (ps := ["one", "other"]) fun _ _ _ _ _ _ => bn2 fun _ _ => rfl
  have m_q13 := PySem.W.mg_of X G a_q13
  obtain ⟨_, F_q31⟩ := A_q31.fn
  have b_q31 := F_q31.binds (ps := ["one", "other"]) fun _ _ _ _ _ _ => bn2 fun _ _ => rfl
  have m_q31 := PySem.W.mg_of X G a_q31
  obtain ⟨_, F_q23⟩ := A_q23.fn
  have b_q23 := F_q23.binds (ps := ["one", "other"]) fun _ _ _ _ _ _ => bn2 fun _ _ => rfl
  have m_q23 := PySem.W.mg_of X G a_q23
  obtain ⟨_, F_q15⟩ := A_q15.fn
  have b_q15 := F_q15.binds (ps := ["picture"]) fun _ _ _ _ _ _ => bn1 fun _ => rfl
  have m_q15 := PySem.W.mg_of X G a_q15
  obtain ⟨_, F_q25⟩ := A_q25.fn
  have b_q25 := F_q25.binds (ps := ["one", "other"]) fun _ _ _ _ _ _ => bn2 fun _ _ => rfl
  have m_q25 := PySem.W.mg_of X G a_q25
  obtain ⟨_, F_q16⟩ := A_q16.fn
  have b_q16 := F_q16.binds (ps := ["picture", "laying"]) fun _ _ _ _ _ _ => bn2 fun _ _ => rfl
  have m_q16 := PySem.W.mg_of X G a_q16
  obtain ⟨_, F_q26⟩ := A_q26.fn
  have b_q26 := F_q26.binds (ps := ["one", "other"]) fun _ _ _ _ _ _ => bn2 fun _ _ => rfl
  have m_q26 := PySem.W.mg_of X G a_q26
  obtain ⟨_, F_q2⟩ := A_q2.fn
  have b_q2 := F_q2.binds (ps := ["script", "k"]) fun _ _ _ _ _ _ => bn2 fun _ _ => rfl
  have m_q2 := PySem.W.mg_of X G a_q2
  obtain ⟨_, F_q7⟩ := A_q7.fn
  have b_q7 := F_q7.binds (ps := ["script", "k"]) fun _ _ _ _ _ _ => bn2 fun _ _ => rfl
  have m_q7 := PySem.W.mg_of X G a_q7
  obtain ⟨_, F_q3⟩ := A_q3.fn
  have b_q3 := F_q3.binds (ps := ["state", "many"]) fun _ _ _ _ _ _ => bn2 fun _ _ => rfl
  have m_q3 := PySem.W.mg_of X G a_q3
  obtain ⟨_, F_q5⟩ := A_q5.fn
  have b_q5 := F_q5.binds (ps := ["state", "most"]) fun _ _ _ _ _ _ => bn2 fun _ _ => rfl
  have m_q5 := PySem.W.mg_of X G a_q5
  obtain ⟨_, F_q0⟩ := A_q0.fn
  have b_q0 := F_q0.binds (ps := ["state"]) fun _ _ _ _ _ _ => bn1 fun _ => rfl
  have m_q0 := PySem.W.mg_of X G a_q0
  obtain ⟨_, F_q4⟩ := A_q4.fn
  have b_q4 := F_q4.binds (ps := ["e"]) fun _ _ _ _ _ _ => bn1 fun _ => rfl
  have m_q4 := PySem.W.mg_of X G a_q4
  obtain ⟨_, F_q6⟩ := A_q6.fn
  have b_q6 := F_q6.binds (ps := ["marks", "which"]) fun _ _ _ _ _ _ => bn2 fun _ _ => rfl
  have m_q6 := PySem.W.mg_of X G a_q6
  obtain ⟨_, F_q1⟩ := A_q1.fn
  have b_q1 := F_q1.binds (ps := ["way", "one", "other"]) fun _ _ _ _ _ _ => bn3 fun _ _ _ => rfl
  have m_q1 := PySem.W.mg_of X G a_q1
  obtain ⟨_, F_q8⟩ := A_q8.fn
  have b_q8 := F_q8.binds (ps := ["way", "one", "other"]) fun _ _ _ _ _ _ => bn3 fun _ _ _ => rfl
  have m_q8 := PySem.W.mg_of X G a_q8
  obtain ⟨_, _, _, kV_q17, dc_q17, pm_q17, an_q17, cd_q17, ct_q17, l_q17, c_q17, k_q17⟩ := A_q17
  have F_q17 := xa5 (st := wg1) l_q17 c_q17 k_q17
  have b_q17 := F_q17.binds (ps := ["script"]) fun _ _ _ _ _ _ => bn1 fun _ => rfl
  have m_q17 := PySem.W.mg_of X G a_q17
  refine ⟨PySem.W.fnOf "law" "law" (xp0 wg1) (yc0 wg1) (za0 wg1) .none kV_q17 dc_q17 pm_q17 an_q17 cd_q17 ct_q17, fun s v => .of_eq rfl, fun base KB GB => ?_⟩
  have O_NoPicture := xg7 KB GB ac_NoPicture q_NoPicture
  have h_q18 : Cal l.prog w K mg base (1) "led" ["pen", "part"] yg5 := xl0 F_q18 m_q18 b_q18 sc_q18 (by rintro _ _ _ ⟨_, _, rfl, _⟩; rfl) (k := 0) (fun cdv A outer s H E hr => zs6 g_AHEAD hr) yy6
  have h_q12 : CalX l.prog w K mg base (1) "check_stroke" ["stroke"] xm1 := yh0 F_q12 m_q12 b_q12 yn6 (by rintro _ _ _ _ ⟨_, rfl, _⟩; rfl) (k := 0) (fun cdv A outer s H E XE hr EX => xu6 EX O_NoPicture z_len g_WAYS hr) wz6
  have h_q10 : CalX l.prog w K mg base (2) "check_picture" ["picture"] xa1 := yh0 F_q10 m_q10 b_q10 sc_q10 (by rintro _ _ _ _ ⟨_, rfl, _⟩; rfl) (k := 1) (fun cdv A outer s H E XE hr EX => zu6 EX h_q12 (by decide) O_NoPicture z_len z_range hr) ya7
  have h_q11 : CalX l.prog w K mg base (3) "check_pictures" ["one", "other"] xn0 := yh0 F_q11 m_q11 b_q11 zn6 (by rintro _ _ _ _ ⟨_, _, rfl, _⟩; rfl) (k := 2) (fun cdv A outer s H E XE hr EX => yu6 EX h_q10 (by decide) hr) xa7
  have h_q14 : Cal l.prog w K mg base (1) "ends_of" ["stroke"] wn2 := xl0 F_q14 m_q14 b_q14 wm6 (by rintro _ _ _ ⟨_, rfl, _⟩; rfl) (k := 0) (fun cdv A outer s H E hr => zt6 hr) yz6
  have h_q27 : Cal l.prog w K mg base (1) "stroke_between" ["point", "other"] ze4 := xl0 F_q27 m_q27 b_q27 sc_q27 (by rintro _ _ _ ⟨_, _, rfl, _⟩; rfl) (k := 0) (fun cdv A outer s H E hr => yq6 z_min hr) xw6
  have h_q24 : Cal l.prog w K mg base (1) "picture_with" ["strokes"] spPw := xl0 F_q24 m_q24 b_q24 zl6 (by rintro _ _ _ ⟨_, rfl, _⟩; rfl) (k := 0) (fun cdv A outer s H E hr => xr6 z_set z_sorted z_tuple hr) ww6
  have h_q22 : Cal l.prog w K mg base (1) "moved_stroke" ["stroke", "x", "y"] xg5 := xl0 F_q22 m_q22 b_q22 wl6 (by rintro _ _ _ ⟨_, _, _, rfl, _⟩; rfl) (k := 0) (fun cdv A outer s H E hr => zr6 hr) yx6
  have h_q21 : CalX l.prog w K mg base (3) "moved_picture" ["picture", "x", "y"] xy0 := yh0 F_q21 m_q21 b_q21 xm6 (by rintro _ _ _ _ ⟨_, _, _, rfl, _⟩; rfl) (k := 2) (fun cdv A outer s H E XE hr EX => wr6 EX h_q10 (by decide) h_q22 (by decide) z_tuple hr) zx6
  have h_q29 : Cal l.prog w K mg base (2) "turned_point" ["point", "quarters"] spTp := xl0 F_q29 m_q29 b_q29 sc_q29 (by rintro _ _ _ ⟨_, _, rfl, _⟩; rfl) (k := 1) (fun cdv A outer s H E hr => wp6 h_q18 (by decide) hr) zv6
  have h_q30 : Cal l.prog w K mg base (3) "turned_stroke" ["stroke", "quarters"] spTs := xl0 F_q30 m_q30 b_q30 sc_q30 (by rintro _ _ _ ⟨_, _, rfl, _⟩; rfl) (k := 2) (fun cdv A outer s H E hr => zp6 h_q14 (by decide) h_q27 (by decide) h_q29 (by decide) hr) yv6
  have h_q28 : CalX l.prog w K mg base (4) "turned_picture" ["picture", "quarters"] xt0 := yh0 F_q28 m_q28 b_q28 xl6 (by rintro _ _ _ _ ⟨_, _, rfl, _⟩; rfl) (k := 3) (fun cdv A outer s H E XE hr EX => xq6 EX h_q10 (by decide) h_q30 (by decide) z_sorted z_tuple hr) wv6
  have h_q20 : Cal l.prog w K mg base (2) "mirrored_stroke" ["stroke"] spMs := xl0 F_q20 m_q20 b_q20 sc_q20 (by rintro _ _ _ ⟨_, rfl, _⟩; rfl) (k := 1) (fun cdv A outer s H E hr => xs6 h_q14 (by decide) h_q27 (by decide) hr) wx6
  have h_q19 : CalX l.prog w K mg base (3) "mirrored_picture" ["picture"] zn2 := yh0 F_q19 m_q19 b_q19 ym6 (by rintro _ _ _ _ ⟨_, rfl, _⟩; rfl) (k := 2) (fun cdv A outer s H E XE hr EX => ys6 EX h_q10 (by decide) h_q20 (by decide) z_sorted z_tuple hr) xy6
  have h_q9 : CalX l.prog w K mg base (4) "both_pictures" ["one", "other"] xk0 := yh0 F_q9 m_q9 b_q9 yw7 (by rintro _ _ _ _ ⟨_, _, rfl, _⟩; rfl) (k := 3) (fun cdv A outer s H E XE hr EX => zx7 EX h_q11 (by decide) h_q24 (by decide) hr) za8
  have h_q13 : CalX l.prog w K mg base (4) "common_picture" ["one", "other"] xk0 := yh0 F_q13 m_q13 b_q13 xn6 (by rintro _ _ _ _ ⟨_, _, rfl, _⟩; rfl) (k := 3) (fun cdv A outer s H E XE hr EX => wt6 EX h_q11 (by decide) z_set z_sorted z_tuple hr) zz6
  have h_q31 : CalX l.prog w K mg base (4) "without_picture" ["one", "other"] xk0 := yh0 F_q31 m_q31 b_q31 wk6 (by rintro _ _ _ _ ⟨_, _, rfl, _⟩; rfl) (k := 3) (fun cdv A outer s H E XE hr EX => yp6 EX h_q11 (by decide) z_set z_sorted z_tuple hr) xv6
  have h_q23 : CalX l.prog w K mg base (4) "parting_stroke" ["one", "other"] xk0 := yh0 F_q23 m_q23 b_q23 sc_q23 (by rintro _ _ _ _ ⟨_, _, rfl, _⟩; rfl) (k := 3) (fun cdv A outer s H E XE hr EX => yr6 EX h_q11 (by decide) z_len z_set z_sorted hr) xx6
  have h_q16 : CalX l.prog w K mg base (5) "laid" ["picture", "laying"] wl1 := yh0 F_q16 m_q16 b_q16 zm6 (by rintro _ _ _ _ ⟨_, _, _, rfl, _⟩; rfl) (k := 4) (fun cdv A outer s H E XE hr EX => xt6 EX h_q19 (by decide) h_q28 (by decide) hr) wy6
  have h_q26 : CalX l.prog w K mg base (4) "shift_between" ["one", "other"] wx0 := yh0 F_q26 m_q26 b_q26 sc_q26 (by rintro _ _ _ _ ⟨_, _, rfl, _⟩; rfl) (k := 3) (fun cdv A outer s H E XE hr EX => zq6 EX h_q21 (by decide) z_len hr) yw6
  have h_q15 : CalX l.prog w K mg base (6) "kept_by" ["picture"] zf2 := yh0 F_q15 m_q15 b_q15 sc_q15 (by rintro _ _ _ _ ⟨_, rfl, _⟩; rfl) (k := 5) (fun cdv A outer s H E XE hr EX => yt6 EX h_q10 (by decide) h_q16 (by decide) h_q26 (by decide) g_LAYINGS hr) xz6
  have h_q25 : CalX l.prog w K mg base (6) "same_shape" ["one", "other"] yf2 := yh0 F_q25 m_q25 b_q25 yl6 (by rintro _ _ _ _ ⟨_, _, rfl, _⟩; rfl) (k := 5) (fun cdv A outer s H E XE hr EX => wq6 EX h_q11 (by decide) h_q16 (by decide) h_q26 (by decide) z_any g_LAYINGS hr) zw6
  have h_q2 : Cal l.prog w K mg base (1) "_law_cell_at" ["script", "k"] wh3 := xl0 F_q2 m_q2 b_q2 ww7 (by rintro _ _ _ ⟨_, _, rfl, _⟩; rfl) (k := 0) (fun cdv A outer s H E hr => yz7 z_len hr) yc8
  have h_q7 : Cal l.prog w K mg base (2) "_law_state" ["script", "k"] wf2 := xl0 F_q7 m_q7 b_q7 sc_q7 (by rintro _ _ _ ⟨_, _, rfl, _⟩; rfl) (k := 1) (fun cdv A outer s H E hr => xy7 h_q2 (by decide) hr) xb8
  have h_q3 : Cal l.prog w K mg base (1) "_law_choice" ["state", "many"] wg0 := xl0 F_q3 m_q3 b_q3 sc_q3 (by rintro _ _ _ ⟨_, _, _, _, _, rfl, _⟩; rfl) (k := 0) (fun cdv A outer s H E hr => xz7 hr) xc8
  have h_q5 : Cal l.prog w K mg base (2) "_law_picture" ["state", "most"] xg2 := xl0 F_q5 m_q5 b_q5 sc_q5 (by rintro _ _ _ ⟨_, _, _, _, rfl, _⟩; rfl) (k := 1) (fun cdv A outer s H E hr => zy7 h_q3 (by decide) z_range z_sorted z_tuple hr) zb8
  have h_q0 : Cal l.prog w K mg base (3) "_law_bad_picture" ["state"] xi3 := xl0 F_q0 m_q0 b_q0 sc_q0 (by rintro _ _ _ ⟨_, _, _, rfl, _⟩; rfl) (k := 2) (fun cdv A outer s H E hr => wz7 h_q3 (by decide) h_q5 (by decide) z_len z_list z_tuple hr) wc8
  have h_q4 : CalM l.prog w K mg base (1) "_law_marks" ["e"] spMk := xv5 F_q4 m_q4 b_q4 sc_q4 (by rintro _ _ _ ⟨rfl, _⟩; rfl) (k := 0) (fun cdv A outer s H E hr => wy7 m_BadNote x_BadNote m_NoNumber x_NoNumber m_NoPicture x_NoPicture m_NoRoom x_NoRoom m_NoStep x_NoStep m_NoWord x_NoWord x_ValueError z_ValueError z_isinstance hr) wb8
  have h_q6 : Cal l.prog w K mg base (1) "_law_refused" ["marks", "which"] wf5 := xl0 F_q6 m_q6 b_q6 zw7 (by rintro _ _ _ ⟨_, rfl, _⟩; rfl) (k := 0) (fun cdv A outer s H E hr => yy7 z_range hr) yb8
  have h_q1 : CalX l.prog w K mg base (7) "_law_called" ["way", "one", "other"] ya1 := yh0 F_q1 m_q1 b_q1 xx7 (by rintro _ _ _ _ ⟨_, _, _, rfl, _⟩; rfl) (k := 6) (fun cdv A outer s H E XE hr EX => zz7 EX h_q9 (by decide) h_q13 (by decide) h_q15 (by decide) h_q19 (by decide) h_q21 (by decide) h_q23 (by decide) h_q25 (by decide) h_q28 (by decide) h_q31 (by decide) hr) zc8
  have h_q8 : Cal l.prog w K mg base (8) "_law_told" ["way", "one", "other"] zh3 := xl0 F_q8 m_q8 b_q8 sc_q8 (by rintro _ _ _ ⟨_, _, _, rfl, _⟩; rfl) (k := 7) (fun cdv A outer s H E hr => wx7 h_q1 (by decide) h_q4 (by decide) m_PenError k2_PenError k3 ok_PenError hr) wa8
  exact wu3 F_q17 sc_q17 (by rintro _ _ _ ⟨_, rfl, _⟩; rfl) (k := 8) (fun cdv A outer s H E hr => ws6 h_q0 (by decide) h_q5 (by decide) h_q6 (by decide) h_q7 (by decide) h_q8 (by decide) z_range hr) zy6
theorem walk {l : PySem.W.OpenLaw} {q : Program} {loose : List Str} {XP : (Str → Option Value) → Heap → Prop} {YP : World → Heap → Prop} {d : DefRec} {K : Params → Fg} (hn : l.most = some 63) (hdf : d.params.defaults = [])
    (hY : ∀ (w : World) (h : Heap), YP w h → (K w.params).In h)
    (F : ∀ (w : World) (mg : Str → Option Value) (fa : Addr) (h : Heap), (K w.params).In h → h.Ns mainGlobals mg → mg d.name = some (.ref fa) →
      ∃ fd : FuncData, (∀ (s : Shared) (u : Value), BindsTo s fd ⟨[u], []⟩ [("script", u)]) ∧ ∀ base : Heap, (K w.params).In base → base.Ns mainGlobals mg → FnOk l.prog w (K w.params) mg base CX0 9 fa fd ["script"] (lift (K w.params) ye4)) :
    PySem.W.WalkO q loose XP YP l.row.toRowW d [] (fun f vs => PySem.call f vs) :=
  L2.walk_of (n := 63) (k := 9) (x := "script") (CX := fun _ => CX0) (sp := fun w => lift (K w.params) ye4) hn (by decide) hdf ⟨rfl, by decide, by decide⟩ hY F (fun _ _ a ns hl hO hS => yk4 hO hS ⟨ns, rfl, hl, fun _ => rfl⟩) fun _ _ _ _ _ z => z
noncomputable abbrev vb : Value := .bool true
noncomputable abbrev vi : Value := .int 181 0
noncomputable def en (P : Params) (x : Str) (t : Tok) (v : Value) : DictEntry := ⟨PyData.keyHash P x, .str x t, v⟩
noncomputable def fo (x y : Str) (st : Stmt) (m c : Value) : Obj := ⟨.type "function", none, .func (PySem.W.fnOf x y (xp0 st) (yc0 st) (za0 st) .none .none .none m none c .none), #[]⟩
noncomputable def co (x : Str) (a : Tok) (y : Str) (b c : Tok) (ns : List Int) (vs : List Value) (d e : Int) (f : Tok) : Obj := ⟨.type "code", none, .fields (.str x a :: .str y b :: .str "/claim/cut.py" c :: (ns.map (fun n => Value.int n 0) ++ (vs ++ [.int d 0, .int e 0, .str "/claim/cut.py" f]))).toArray, #[]⟩
noncomputable def tO (vs : List Value) : Obj := ⟨.type "tuple", none, .seq vs.toArray 0, #[]⟩
noncomputable def KK : PySem.Params → PySem.W.Frag := fun P => (nat_lit 2, ⟨.none, none, .dict #[] 0, #[]⟩) :: (nat_lit 3, ⟨.type "dict", none, .dict #[en P "__name__" 165 (.str "law_penwright_k21_no_pictures" 515), en P "__doc__" 166 (.none), en P "__package__" 167 (.none), en P "__loader__" 168 (.builtin "__main__.__loader__#opaque"), en P "__spec__" 169 (.none), en P "__annotations__" 170 (.ref 6), en P "__builtins__" 171 (.ref 4), en P "__file__" 173 (.str "/claim/cut.py" 172), en P "__cached__" 174 (.none), en P "PenError" 206 (.ref 24), en P "NoWord" 222 (.ref 37), en P "NoPicture" 238 (.ref 49), en P "NoRoom" 254 (.ref 61), en P "NoStep" 270 (.ref 73), en P "NoNumber" 286 (.ref 85), en P "BadNote" 302 (.ref 97), en P "AHEAD" 315 (.ref 104), en P "led" 326 (.ref 111), en P "WAYS" 331 (.ref 112), en P "LAYINGS" 348 (.ref 121), en P "check_picture" 357 (.ref 128), en P "check_stroke" 364 (.ref 135), en P "check_pictures" 372 (.ref 142), en P "ends_of" 379 (.ref 149), en P "stroke_between" 388 (.ref 156), en P "picture_with" 395 (.ref 163), en P "moved_picture" 401 (.ref 168), en P "moved_stroke" 410 (.ref 175), en P "turned_picture" 416 (.ref 180), en P "turned_stroke" 425 (.ref 187), en P "turned_point" 434 (.ref 194), en P "mirrored_picture" 440 (.ref 199), en P "mirrored_stroke" 448 (.ref 206), en P "both_pictures" 456 (.ref 213), en P "common_picture" 464 (.ref 220), en P "without_picture" 472 (.ref 227), en P "parting_stroke" 481 (.ref 234), en P "kept_by" 491 (.ref 241), en P "same_shape" 497 (.ref 246), en P "laid" 505 (.ref 253), en P "shift_between" 514 (.ref 260), en P "_law_cell_at" 524 (.ref 267), en P "_law_state" 533 (.ref 274), en P "_law_choice" 543 (.ref 281), en P "_law_picture" 556 (.ref 288), en P "_law_bad_picture" 569 (.ref 295), en P "_law_marks" 577 (.ref 302), en P "_law_refused" 583 (.ref 307), en P "_law_called" 592 (.ref 314), en P "_law_told" 603 (.ref 321), en P "law" 613 (.ref 328)] 51, #[]⟩) :: (nat_lit 15, tO [.type "ValueError"]) :: (nat_lit 22, tO []) :: (nat_lit 23, ⟨.type "dict", none, .dict #[en P "__module__" 196 (.str "penwright.errors" 187), en P "__firstlineno__" 200 (.int 2 199), en P "__static_attributes__" 201 (.ref 22), en P "__weakref__" 203 (.ref 25), en P "__doc__" 204 (.none)] 3, #[]⟩) :: (nat_lit 24, ⟨.type "type", none, .cls ⟨"PenError", [.type "ValueError"], [.ref 24, .type "ValueError", .type "Exception", .type "BaseException", .type "object"], 23, "PenError", true, [], [.ref 37, .ref 49, .ref 61, .ref 73, .ref 85, .ref 97], false, none, false⟩, #[some (.ref 15), none, some (.str "PenError" 189), some (.str "PenError" 197), some (.builtin "ValueError.__new__"), some (.bool true)]⟩) :: (nat_lit 25, ⟨.type "getset_descriptor", none, .fields #[.str "__weakref__" 202, .ref 24, .builtin "ExceptionGroup.__weakref__", .none], #[]⟩) :: (nat_lit 28, tO [.ref 24]) :: (nat_lit 35, tO []) :: (nat_lit 36, ⟨.type "dict", none, .dict #[en P "__module__" 214 (.str "penwright.errors" 187), en P "__firstlineno__" 218 (.int 4 217), en P "__static_attributes__" 219 (.ref 35), en P "__doc__" 220 (.none)] 2, #[]⟩) :: (nat_lit 37, ⟨.type "type", none, .cls ⟨"NoWord", [.ref 24], [.ref 37, .ref 24, .type "ValueError", .type "Exception", .type "BaseException", .type "object"], 36, "NoWord", true, [], [], false, none, false⟩, #[some (.ref 28), none, some (.str "NoWord" 207), some (.str "NoWord" 215), some (.builtin "ValueError.__new__"), some (.bool true)]⟩) :: (nat_lit 40, tO [.ref 24]) :: (nat_lit 47, tO []) :: (nat_lit 48, ⟨.type "dict", none, .dict #[en P "__module__" 230 (.str "penwright.errors" 187), en P "__firstlineno__" 234 (.int 6 233), en P "__static_attributes__" 235 (.ref 47), en P "__doc__" 236 (.none)] 2, #[]⟩) :: (nat_lit 49, ⟨.type "type", none, .cls ⟨"NoPicture", [.ref 24], [.ref 49, .ref 24, .type "ValueError", .type "Exception", .type "BaseException", .type "object"], 48, "NoPicture", true, [], [], false, none, false⟩, #[some (.ref 40), none, some (.str "NoPicture" 223), some (.str "NoPicture" 231), some (.builtin "ValueError.__new__"), some (.bool true)]⟩) :: (nat_lit 52, tO [.ref 24]) :: (nat_lit 59, tO []) :: (nat_lit 60, ⟨.type "dict", none, .dict #[en P "__module__" 246 (.str "penwright.errors" 187), en P "__firstlineno__" 250 (.int 8 249), en P "__static_attributes__" 251 (.ref 59), en P "__doc__" 252 (.none)] 2, #[]⟩) :: (nat_lit 61, ⟨.type "type", none, .cls ⟨"NoRoom", [.ref 24], [.ref 61, .ref 24, .type "ValueError", .type "Exception", .type "BaseException", .type "object"], 60, "NoRoom", true, [], [], false, none, false⟩, #[some (.ref 52), none, some (.str "NoRoom" 239), some (.str "NoRoom" 247), some (.builtin "ValueError.__new__"), some (.bool true)]⟩) :: (nat_lit 64, tO [.ref 24]) :: (nat_lit 71, tO []) :: (nat_lit 72, ⟨.type "dict", none, .dict #[en P "__module__" 262 (.str "penwright.errors" 187), en P "__firstlineno__" 266 (.int 10 265), en P "__static_attributes__" 267 (.ref 71), en P "__doc__" 268 (.none)] 2, #[]⟩) :: (nat_lit 73, ⟨.type "type", none, .cls ⟨"NoStep", [.ref 24], [.ref 73, .ref 24, .type "ValueError", .type "Exception", .type "BaseException", .type "object"], 72, "NoStep", true, [], [], false, none, false⟩, #[some (.ref 64), none, some (.str "NoStep" 255), some (.str "NoStep" 263), some (.builtin "ValueError.__new__"), some (.bool true)]⟩) :: (nat_lit 76, tO [.ref 24]) :: (nat_lit 83, tO []) :: (nat_lit 84, ⟨.type "dict", none, .dict #[en P "__module__" 278 (.str "penwright.errors" 187), en P "__firstlineno__" 282 (.int 12 281), en P "__static_attributes__" 283 (.ref 83), en P "__doc__" 284 (.none)] 2, #[]⟩) :: (nat_lit 85, ⟨.type "type", none, .cls ⟨"NoNumber", [.ref 24], [.ref 85, .ref 24, .type "ValueError", .type "Exception", .type "BaseException", .type "object"], 84, "NoNumber", true, [], [], false, none, false⟩, #[some (.ref 76), none, some (.str "NoNumber" 271), some (.str "NoNumber" 279), some (.builtin "ValueError.__new__"), some (.bool true)]⟩) :: (nat_lit 88, tO [.ref 24]) :: (nat_lit 95, tO []) :: (nat_lit 96, ⟨.type "dict", none, .dict #[en P "__module__" 294 (.str "penwright.errors" 187), en P "__firstlineno__" 298 (.int 14 297), en P "__static_attributes__" 299 (.ref 95), en P "__doc__" 300 (.none)] 2, #[]⟩) :: (nat_lit 97, ⟨.type "type", none, .cls ⟨"BadNote", [.ref 24], [.ref 97, .ref 24, .type "ValueError", .type "Exception", .type "BaseException", .type "object"], 96, "BadNote", true, [], [], false, none, false⟩, #[some (.ref 88), none, some (.str "BadNote" 287), some (.str "BadNote" 295), some (.builtin "ValueError.__new__"), some (.bool true)]⟩) :: (nat_lit 100, tO [.int 1 305, .int 0 306]) :: (nat_lit 101, tO [.int 0 307, .int 1 308]) :: (nat_lit 102, tO [.int (-1) 310, .int 0 311]) :: (nat_lit 103, tO [.int 0 312, .int (-1) 314]) :: (nat_lit 104, tO [.ref 100, .ref 101, .ref 102, .ref 103]) :: (nat_lit 110, co "led" 316 "led" 317 318 [18, 2, 0, 0, 3] [.ref 105, vb, vi, .ref 106, .none, .ref 107, .ref 108, .ref 109] 324 18 325) :: (nat_lit 111, fo "led" "led" zz2 (.str "penwright.words" 303) (.ref 110)) :: (nat_lit 112, tO [.int 0 329, .int 1 330]) :: (nat_lit 113, tO [.int 0 332, .int 0 333]) :: (nat_lit 114, tO [.int 0 334, .int 1 335]) :: (nat_lit 115, tO [.int 0 336, .int 2 337]) :: (nat_lit 116, tO [.int 0 338, .int 3 339]) :: (nat_lit 117, tO [.int 1 340, .int 0 341]) :: (nat_lit 118, tO [.int 1 342, .int 1 343]) :: (nat_lit 119, tO [.int 1 344, .int 2 345]) :: (nat_lit 120, tO [.int 1 346, .int 3 347]) :: (nat_lit 121, tO [.ref 113, .ref 114, .ref 115, .ref 116, .ref 117, .ref 118, .ref 119, .ref 120]) :: (nat_lit 127, co "check_picture" 349 "check_picture" 350 351 [26, 1, 0, 0, 3] [.ref 122, vb, vi, .ref 123, .none, .ref 124, .ref 125, .ref 126] 355 26 356) :: (nat_lit 128, fo "check_picture" "check_picture" yb3 (.str "penwright.pictures" 327) (.ref 127)) :: (nat_lit 134, co "check_stroke" 358 "check_stroke" 359 360 [32, 1, 0, 0, 3] [.ref 129, vb, vi, .ref 130, .none, .ref 131, .ref 132, .ref 133] 362 32 363) :: (nat_lit 135, fo "check_stroke" "check_stroke" wa3 (.str "penwright.pictures" 327) (.ref 134)) :: (nat_lit 141, co "check_pictures" 365 "check_pictures" 366 367 [35, 2, 0, 0, 3] [.ref 136, vb, vi, .ref 137, .none, .ref 138, .ref 139, .ref 140] 370 35 371) :: (nat_lit 142, fo "check_pictures" "check_pictures" xb3 (.str "penwright.pictures" 327) (.ref 141)) :: (nat_lit 148, co "ends_of" 373 "ends_of" 374 375 [38, 1, 0, 0, 3] [.ref 143, vb, vi, .ref 144, .none, .ref 145, .ref 146, .ref 147] 377 38 378) :: (nat_lit 149, fo "ends_of" "ends_of" ya3 (.str "penwright.pictures" 327) (.ref 148)) :: (nat_lit 155, co "stroke_between" 380 "stroke_between" 381 382 [42, 2, 0, 0, 3] [.ref 150, vb, vi, .ref 151, .none, .ref 152, .ref 153, .ref 154] 386 42 387) :: (nat_lit 156, fo "stroke_between" "stroke_between" yx2 (.str "penwright.pictures" 327) (.ref 155)) :: (nat_lit 162, co "picture_with" 389 "picture_with" 390 391 [45, 1, 0, 0, 3] [.ref 157, vb, vi, .ref 158, .none, .ref 159, .ref 160, .ref 161] 393 45 394) :: (nat_lit 163, fo "picture_with" "picture_with" xy2 (.str "penwright.pictures" 327) (.ref 162)) :: (nat_lit 167, co "moved_picture" 396 "moved_picture" 397 398 [47, 3, 0, 0, 3] [.ref 164, vb, vi, .ref 165, .none, .none, .none, .ref 166] 399 47 400) :: (nat_lit 168, fo "moved_picture" "moved_picture" wy2 (.str "penwright.pictures" 327) (.ref 167)) :: (nat_lit 174, co "moved_stroke" 402 "moved_stroke" 403 404 [50, 3, 0, 0, 3] [.ref 169, vb, vi, .ref 170, .none, .ref 171, .ref 172, .ref 173] 408 50 409) :: (nat_lit 175, fo "moved_stroke" "moved_stroke" zy2 (.str "penwright.pictures" 327) (.ref 174)) :: (nat_lit 179, co "turned_picture" 411 "turned_picture" 412 413 [52, 2, 0, 0, 3] [.ref 176, vb, vi, .ref 177, .none, .none, .none, .ref 178] 414 52 415) :: (nat_lit 180, fo "turned_picture" "turned_picture" xx2 (.str "penwright.pictures" 327) (.ref 179)) :: (nat_lit 186, co "turned_stroke" 417 "turned_stroke" 418 419 [55, 2, 0, 0, 3] [.ref 181, vb, vi, .ref 182, .none, .ref 183, .ref 184, .ref 185] 423 55 424) :: (nat_lit 187, fo "turned_stroke" "turned_stroke" zw2 (.str "penwright.pictures" 327) (.ref 186)) :: (nat_lit 193, co "turned_point" 426 "turned_point" 427 428 [58, 2, 0, 0, 3] [.ref 188, vb, vi, .ref 189, .none, .ref 190, .ref 191, .ref 192] 432 58 433) :: (nat_lit 194, fo "turned_point" "turned_point" ww2 (.str "penwright.pictures" 327) (.ref 193)) :: (nat_lit 198, co "mirrored_picture" 435 "mirrored_picture" 436 437 [61, 1, 0, 0, 3] [.ref 195, vb, vi, .ref 196, .none, .none, .none, .ref 197] 438 61 439) :: (nat_lit 199, fo "mirrored_picture" "mirrored_picture" yz2 (.str "penwright.pictures" 327) (.ref 198)) :: (nat_lit 205, co "mirrored_stroke" 441 "mirrored_stroke" 442 443 [64, 1, 0, 0, 3] [.ref 200, vb, vi, .ref 201, .none, .ref 202, .ref 203, .ref 204] 446 64 447) :: (nat_lit 206, fo "mirrored_stroke" "mirrored_stroke" xz2 (.str "penwright.pictures" 327) (.ref 205)) :: (nat_lit 212, co "both_pictures" 449 "both_pictures" 450 451 [67, 2, 0, 0, 3] [.ref 207, vb, vi, .ref 208, .none, .ref 209, .ref 210, .ref 211] 454 67 455) :: (nat_lit 213, fo "both_pictures" "both_pictures" s_q9 (.str "penwright.pictures" 327) (.ref 212)) :: (nat_lit 219, co "common_picture" 457 "common_picture" 458 459 [70, 2, 0, 0, 3] [.ref 214, vb, vi, .ref 215, .none, .ref 216, .ref 217, .ref 218] 462 70 463) :: (nat_lit 220, fo "common_picture" "common_picture" za3 (.str "penwright.pictures" 327) (.ref 219)) :: (nat_lit 226, co "without_picture" 465 "without_picture" 466 467 [73, 2, 0, 0, 3] [.ref 221, vb, vi, .ref 222, .none, .ref 223, .ref 224, .ref 225] 470 73 471) :: (nat_lit 227, fo "without_picture" "without_picture" yw2 (.str "penwright.pictures" 327) (.ref 226)) :: (nat_lit 233, co "parting_stroke" 473 "parting_stroke" 474 475 [76, 2, 0, 0, 3] [.ref 228, vb, vi, .ref 229, .none, .ref 230, .ref 231, .ref 232] 479 76 480) :: (nat_lit 234, fo "parting_stroke" "parting_stroke" yy2 (.str "penwright.pictures" 327) (.ref 233)) :: (nat_lit 240, co "kept_by" 482 "kept_by" 483 484 [82, 1, 0, 0, 3] [.ref 235, vb, vi, .ref 236, .none, .ref 237, .ref 238, .ref 239] 489 82 490) :: (nat_lit 241, fo "kept_by" "kept_by" xa3 (.str "penwright.pictures" 327) (.ref 240)) :: (nat_lit 245, co "same_shape" 492 "same_shape" 493 494 [90, 2, 0, 0, 3] [.ref 242, vb, vi, .ref 243, .none, .none, .none, .ref 244] 495 90 496) :: (nat_lit 246, fo "same_shape" "same_shape" wx2 (.str "penwright.pictures" 327) (.ref 245)) :: (nat_lit 252, co "laid" 498 "laid" 499 500 [93, 2, 0, 0, 3] [.ref 247, vb, vi, .ref 248, .none, .ref 249, .ref 250, .ref 251] 503 93 504) :: (nat_lit 253, fo "laid" "laid" wz2 (.str "penwright.pictures" 327) (.ref 252)) :: (nat_lit 259, co "shift_between" 506 "shift_between" 507 508 [97, 2, 0, 0, 3] [.ref 254, vb, vi, .ref 255, .none, .ref 256, .ref 257, .ref 258] 512 97 513) :: (nat_lit 260, fo "shift_between" "shift_between" zx2 (.str "penwright.pictures" 327) (.ref 259)) :: (nat_lit 266, co "_law_cell_at" 517 "_law_cell_at" 518 519 [107, 2, 0, 0, 3] [.ref 261, vb, vi, .ref 262, .none, .ref 263, .ref 264, .ref 265] 522 107 523) :: (nat_lit 267, fo "_law_cell_at" "_law_cell_at" s_q2 (.str "law_penwright_k21_no_pictures" 515) (.ref 266)) :: (nat_lit 273, co "_law_state" 525 "_law_state" 526 527 [111, 2, 0, 0, 3] [.ref 268, vb, vi, .ref 269, .none, .ref 270, .ref 271, .ref 272] 531 111 532) :: (nat_lit 274, fo "_law_state" "_law_state" s_q7 (.str "law_penwright_k21_no_pictures" 515) (.ref 273)) :: (nat_lit 280, co "_law_choice" 534 "_law_choice" 535 536 [116, 2, 0, 0, 3] [.ref 275, vb, vi, .ref 276, .none, .ref 277, .ref 278, .ref 279] 541 116 542) :: (nat_lit 281, fo "_law_choice" "_law_choice" s_q3 (.str "law_penwright_k21_no_pictures" 515) (.ref 280)) :: (nat_lit 287, co "_law_picture" 544 "_law_picture" 545 546 [125, 2, 0, 0, 3] [.ref 282, vb, vi, .ref 283, .none, .ref 284, .ref 285, .ref 286] 554 125 555) :: (nat_lit 288, fo "_law_picture" "_law_picture" s_q5 (.str "law_penwright_k21_no_pictures" 515) (.ref 287)) :: (nat_lit 294, co "_law_bad_picture" 557 "_law_bad_picture" 558 559 [137, 1, 0, 0, 3] [.ref 289, vb, vi, .ref 290, .none, .ref 291, .ref 292, .ref 293] 567 137 568) :: (nat_lit 295, fo "_law_bad_picture" "_law_bad_picture" s_q0 (.str "law_penwright_k21_no_pictures" 515) (.ref 294)) :: (nat_lit 301, co "_law_marks" 570 "_law_marks" 571 572 [151, 1, 0, 0, 3] [.ref 296, vb, vi, .ref 297, .none, .ref 298, .ref 299, .ref 300] 575 151 576) :: (nat_lit 302, fo "_law_marks" "_law_marks" s_q4 (.str "law_penwright_k21_no_pictures" 515) (.ref 301)) :: (nat_lit 306, co "_law_refused" 578 "_law_refused" 579 580 [154, 2, 0, 0, 3] [.ref 303, vb, vi, .ref 304, .none, .none, .none, .ref 305] 581 154 582) :: (nat_lit 307, fo "_law_refused" "_law_refused" s_q6 (.str "law_penwright_k21_no_pictures" 515) (.ref 306)) :: (nat_lit 313, co "_law_called" 584 "_law_called" 585 586 [156, 3, 0, 0, 3] [.ref 308, vb, vi, .ref 309, .none, .ref 310, .ref 311, .ref 312] 590 156 591) :: (nat_lit 314, fo "_law_called" "_law_called" s_q1 (.str "law_penwright_k21_no_pictures" 515) (.ref 313)) :: (nat_lit 320, co "_law_told" 593 "_law_told" 594 595 [175, 3, 0, 0, 3] [.ref 315, vb, vi, .ref 316, .none, .ref 317, .ref 318, .ref 319] 601 175 602) :: (nat_lit 321, fo "_law_told" "_law_told" s_q8 (.str "law_penwright_k21_no_pictures" 515) (.ref 320)) :: (nat_lit 327, co "law" 604 "law" 605 606 [182, 1, 0, 0, 3] [.ref 322, vb, vi, .ref 323, .none, .ref 324, .ref 325, .ref 326] 611 182 612) :: (nat_lit 328, fo "law" "law" wg1 (.str "law_penwright_k21_no_pictures" 515) (.ref 327)) :: []
noncomputable def KA : List Addr := [2, 3, 15, 22, 23, 24, 25, 28, 35, 36, 37, 40, 47, 48, 49, 52, 59, 60, 61, 64, 71, 72, 73, 76, 83, 84, 85, 88, 95, 96, 97, 100, 101, 102, 103, 104, 110, 111, 112, 113, 114, 115, 116, 117, 118, 119, 120, 121, 127, 128, 134, 135, 141, 142, 148, 149, 155, 156, 162, 163, 167, 168, 174, 175, 179, 180, 186, 187, 193, 194, 198, 199, 205, 206, 212, 213, 219, 220, 226, 227, 233, 234, 240, 241, 245, 246, 252, 253, 259, 260, 266, 267, 273, 274, 280, 281, 287, 288, 294, 295, 301, 302, 306, 307, 313, 314, 320, 321, 327, 328]
theorem ke : ∀ P, KA = (KK P).map (·.1) := fun _ => by kernel_rfl
noncomputable def vw : Program := { PySem.Challenge.pw_penwright_k21_no_pictures with main := { PySem.Challenge.pw_penwright_k21_no_pictures.main with body := [top 1, top 2, top 3, top 4, top 5, top 6, top 7, top 9, top 10, top 12, top 13, top 14, top 15, top 16, top 17, top 18, top 19, top 20, top 21, top 22, top 23, top 24, top 25, top 26, top 27, top 28, top 29, top 30, top 31, top 32, top 33, top 34, top 36, top 37, top 38, top 39, top 40, top 41, top 42, top 43, top 44, top 45] } }
theorem h_said : PySem.Challenge.rw_penwright_k21_no_pictures.wellSaid = true := by kernel_rfl
theorem h_left : PySem.W.LeftO (PySem.W.OpenLaw.row PySem.Challenge.rw_penwright_k21_no_pictures).prog vw [] (fun s => PySem.W.xlAt vw [] s && PySem.W.recOk (PySem.W.RowW.records (PySem.W.OpenRow.toRowW (PySem.W.OpenLaw.row PySem.Challenge.rw_penwright_k21_no_pictures))) s) (PySem.W.Hook.obs (PySem.W.kHook KK KA ke)) (PySem.W.Hook.val (PySem.W.kHook KK KA ke)) 5242 := by
  intro w
  delta PySem.W.openEnds PySem.W.fencedOpening PySem.W.topFrom
  rw [PySem.W.Fast.te14082659384304107361, PySem.W.Fast.te10274390034422433532, PySem.W.Fast.te14289696077712309145, PySem.W.Fast.te1435165496053646825, PySem.W.Fast.te14364793385576792824, PySem.W.Fast.te4187177175401517315]
  kernel_rfl
end Pv
open PySem PySem.W PyProof.Rows
set_option maxRecDepth 100000 in
set_option maxHeartbeats 0 in
theorem PySem.Challenge.cw_penwright_k21_no_pictures_holds : PySem.Challenge.rw_penwright_k21_no_pictures.Holds := by
  w_on
  refine PySem.W.holds_law Pv.h_said fun said => ?_
  refine PySem.W.holds_open (YP := PySem.W.Hook.says (PySem.W.kHook Pv.KK Pv.KA Pv.ke)) Pv.h_left (PySem.W.Hook.of (PySem.W.kHook Pv.KK Pv.KA Pv.ke)) (PySem.W.Hook.keeps (PySem.W.kHook Pv.KK Pv.KA Pv.ke)) (fun s e => PySem.W.xl_of s (Bool.and_eq_true_iff.mp e).1) PySem.W.XL.keeps (by rfl) (by rfl) (by rfl) (fun s e => PySem.W.recFacts_of (Bool.and_eq_true_iff.mp e).2) (by rfl) said (by decide +kernel) ⟨rfl, rfl, rfl, rfl, rfl, by decide +kernel⟩ ?hw ?hc
  case hw => w_witness2
  k_fill
  refine Pv.walk (l := PySem.Challenge.rw_penwright_k21_no_pictures) rfl rfl (fun w h Y => PySem.W.kIn_of Y) ?F
  case F =>
    intro w mg fa h KX G hmg
    refine' Pv.all_mk KX G hmg ?a_q18 ?A_q18 ?a_q10 ?A_q10 ?a_q12 ?A_q12 ?a_q11 ?A_q11 ?a_q14 ?A_q14 ?a_q27 ?A_q27 ?a_q24 ?A_q24 ?a_q21 ?A_q21 ?a_q22 ?A_q22 ?a_q28 ?A_q28 ?a_q30 ?A_q30 ?a_q29 ?A_q29 ?a_q19 ?A_q19 ?a_q20 ?A_q20 ?a_q9 ?A_q9 ?a_q13 ?A_q13 ?a_q31 ?A_q31 ?a_q23 ?A_q23 ?a_q15 ?A_q15 ?a_q25 ?A_q25 ?a_q16 ?A_q16 ?a_q26 ?A_q26 ?a_q2 ?A_q2 ?a_q7 ?A_q7 ?a_q3 ?A_q3 ?a_q5 ?A_q5 ?a_q0 ?A_q0 ?a_q4 ?A_q4 ?a_q6 ?A_q6 ?a_q1 ?A_q1 ?a_q8 ?A_q8 ?a_q17 ?A_q17 ?e_AHEAD ?ql_1 ?ql_11 ?ql_8 ?ql_5 ?ql_2 ?e_WAYS ?ql_14 ?e_LAYINGS ?ql_17 ?ql_39 ?ql_36 ?ql_33 ?ql_30 ?ql_27 ?ql_24 ?ql_21 ?ql_18 ?ac_BadNote ?cl_BadNote ?tc_BadNote ?ac_NoNumber ?cl_NoNumber ?tc_NoNumber ?ac_NoPicture ?cl_NoPicture ?tc_NoPicture ?ac_NoRoom ?cl_NoRoom ?tc_NoRoom ?ac_NoStep ?cl_NoStep ?tc_NoStep ?ac_NoWord ?cl_NoWord ?tc_NoWord ?ac_PenError ?cl_PenError ?tc_PenError ?q_NoPicture ?ek0_NoPicture ?ek1_NoPicture ?ek2_NoPicture ?ek4_NoPicture ?ek5_NoPicture ?ek6_NoPicture ?ek7_NoPicture ?sb_NoPicture_BadNote ?ne_NoPicture_BadNote ?sb_NoPicture_NoNumber ?ne_NoPicture_NoNumber ?sb_NoPicture_NoRoom ?ne_NoPicture_NoRoom ?sb_NoPicture_NoStep ?ne_NoPicture_NoStep ?sb_NoPicture_NoWord ?ne_NoPicture_NoWord ?sb_NoPicture_ValueError ?k3s ?k2s_PenError ?sb_NoPicture_PenError ?zz_ValueError ?zz_any ?zz_isinstance ?zz_len ?zz_list ?zz_min ?zz_range ?zz_set ?zz_sorted ?zz_tuple
    (case e_AHEAD | ql_1 | ql_11 | ql_8 | ql_5 | ql_2 | e_WAYS | ql_14 | e_LAYINGS | ql_17 | ql_39 | ql_36 | ql_33 | ql_30 | ql_27 | ql_24 | ql_21 | ql_18 | ac_BadNote | cl_BadNote | tc_BadNote | ac_NoNumber | cl_NoNumber | tc_NoNumber | ac_NoPicture | cl_NoPicture | tc_NoPicture | ac_NoRoom | cl_NoRoom | tc_NoRoom | ac_NoStep | cl_NoStep | tc_NoStep | ac_NoWord | cl_NoWord | tc_NoWord | ac_PenError | cl_PenError | tc_PenError | ek0_NoPicture | ek1_NoPicture | ek2_NoPicture | ek4_NoPicture | ek5_NoPicture | ek6_NoPicture | ek7_NoPicture | sb_NoPicture_BadNote | sb_NoPicture_NoNumber | sb_NoPicture_NoRoom | sb_NoPicture_NoStep | sb_NoPicture_NoWord | sb_NoPicture_ValueError | k3s | k2s_PenError | sb_NoPicture_PenError | zz_ValueError | zz_any | zz_isinstance | zz_len | zz_list | zz_min | zz_range | zz_set | zz_sorted | zz_tuple => k_is)
    (case a_q18 | a_q10 | a_q12 | a_q11 | a_q14 | a_q27 | a_q24 | a_q21 | a_q22 | a_q28 | a_q30 | a_q29 | a_q19 | a_q20 | a_q9 | a_q13 | a_q31 | a_q23 | a_q15 | a_q25 | a_q16 | a_q26 | a_q2 | a_q7 | a_q3 | a_q5 | a_q0 | a_q4 | a_q6 | a_q1 | a_q8 | a_q17 => (show _ = _; k_is))
    (case A_q18 | A_q10 | A_q12 | A_q11 | A_q14 | A_q27 | A_q24 | A_q21 | A_q22 | A_q28 | A_q30 | A_q29 | A_q19 | A_q20 | A_q9 | A_q13 | A_q31 | A_q23 | A_q15 | A_q25 | A_q16 | A_q26 | A_q2 | A_q7 | A_q3 | A_q5 | A_q0 | A_q4 | A_q6 | A_q1 | A_q8 | A_q17 => (refine' Pv.fnA_mk ?l ?c ?k; (case l => k_is); (case c => k_is); (case k => k_is)))
    (case q_NoPicture => k_exc)
    (case ne_NoPicture_BadNote | ne_NoPicture_NoNumber | ne_NoPicture_NoRoom | ne_NoPicture_NoStep | ne_NoPicture_NoWord => rfl)
