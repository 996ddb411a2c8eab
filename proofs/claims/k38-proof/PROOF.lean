import PyProof.Rows.All
import Wide.All
import OpenK.AllK
import Wide.FinOn
import Lean
import PyProof.EqAt
import PyProof.EqKinds
import PyProof.TupleCall
import PyProof.P3Statements
import KE.KIntText
import KE.KSortTup
import KE.KDictSum
import PyProof.LongRange
import KE.KIsAll
import PyProof.ExcAttrAll.ValueError
import PySem.Challenge.RW_penwright_k38_how_often_drawn
set_option Elab.async false
set_option linter.all false
set_option maxRecDepth 100000
set_option maxHeartbeats 4000000
namespace L2
open PySem PySem.Spec PyProof.Rows
noncomputable abbrev Key:=Sum Int Str
noncomputable def yq8:Key->Value->Bool
 | .inl k,v=>Value.isInt k v
 | .inr x,v=>Value.isStrOf x v
noncomputable def keyH (w:World):Key->Int
 | .inl k=>hashInt k
 | .inr x=>hashStr w x
theorem xj0:∀ {k:Key} {v:Value},yq8 k v=true->(∃ i t,k=Sum.inl i /\ v=Value.int i t) \/ (∃ x t,k=Sum.inr x /\ v=Value.str x t)
 | .inl i,v,h=>by
  obtain ⟨t,e⟩:=Value.isInt_shape (k:=i) (v:=v) h
  exact .inl ⟨i,t,rfl,e⟩
 | .inr x,v,h=>by
  obtain ⟨t,e⟩:=Value.isStrOf_shape (x:=x) (v:=v) h
  exact .inr ⟨x,t,rfl,e⟩
theorem xq8 (a b:Int):decide ((Sum.inl a:Key)=Sum.inl b)=(a == b):=by
 by_cases e:a=b
 ·subst e; simp
 ·have h:¬ (Sum.inl a:Key)=Sum.inl b:=λ q=>e (Sum.inl.inj q)
  rw [decide_eq_false h]
  exact (beq_eq_false_iff_ne.mpr e).symm
theorem yp8 (a b:Str):decide ((Sum.inr a:Key)=Sum.inr b)=decide (a=b):=by
 by_cases e:a=b
 ·subst e; simp
 ·have h:¬ (Sum.inr a:Key)=Sum.inr b:=λ q=>e (Sum.inr.inj q)
  rw [decide_eq_false h,decide_eq_false e]
theorem wp8 (a:Int) (b:Str):decide ((Sum.inl a:Key)=Sum.inr b)=false:=decide_eq_false (λ q=>nomatch q)
theorem zp8 (a:Str) (b:Int):decide ((Sum.inr a:Key)=Sum.inl b)=false:=decide_eq_false (λ q=>nomatch q)
noncomputable def yk4 (prog:Program) (w:World):PySem.KeyKind prog w Key where
 is:=yq8
 hash:=keyH w
 inj:=λ v a b ha hb=>by
  rcases xj0 ha with ⟨i,t,rfl,rfl⟩ | ⟨x,t,rfl,rfl⟩
  ·rcases xj0 hb with ⟨j,u,rfl,e⟩ | ⟨y,u,rfl,e⟩
   ·injection e with e1 _; rw [e1]
   ·exact nomatch e
  ·rcases xj0 hb with ⟨j,u,rfl,e⟩ | ⟨y,u,rfl,e⟩
   ·exact nomatch e
   ·injection e with e1 _; rw [e1]
 byValue:=λ k v h=>by
  rcases xj0 h with ⟨i,t,rfl,rfl⟩ | ⟨x,t,rfl,rfl⟩ <;> rfl
 pyHash:=λ hv h=>by
  rcases xj0 hv with ⟨i,t,rfl,rfl⟩ | ⟨x,t,rfl,rfl⟩
  ·exact wpAny_pyHash_int h
  ·exact wpAny_pyHash_str h
 eqBool:=λ hu hv h=>by
  rcases xj0 hu with ⟨i,t,rfl,rfl⟩ | ⟨x,t,rfl,rfl⟩
  ·rcases xj0 hv with ⟨j,u,rfl,rfl⟩ | ⟨y,u,rfl,rfl⟩
   ·rw [xq8] at h; exact wpAny_eqBool_int h
   ·rw [wp8] at h; exact SeqAt.EqAt.int_str i t y u _ _ _ _ h
  ·rcases xj0 hv with ⟨j,u,rfl,rfl⟩ | ⟨y,u,rfl,rfl⟩
   ·rw [zp8] at h; exact SeqAt.EqAt.str_int x t j u _ _ _ _ h
   ·rw [yp8] at h; exact wpAny_eqBool_str h
 «strs» := λ k x t v h=>by
  rcases xj0 h with ⟨i,u,rfl,e⟩ | ⟨y,u,rfl,e⟩
  ·exact nomatch e
  ·injection e with e1 _
   subst e1
   cases v <;> rfl
end L2
namespace L2
open PySem PySem.Spec PyProof.Rows
inductive V where
 | non | bl (b:Bool) | int (i:Int) | str (x:Str) | byt (b:Array UInt8) | flt (b:UInt64) | ref (a:Addr) | ty (n:String)
 deriving DecidableEq
noncomputable def RelV:V->Value->Prop
 | .non,u=>u=Value.none
 | .bl b,u=>u=Value.bool b
 | .int i,u=>∃ t,u=Value.int i t
 | .str x,u=>∃ t,u=Value.str x t
 | .byt b,u=>∃ t,u=Value.bytes b t
 | .flt b,u=>∃ t,u=Value.float b t
 | .ref a,u=>u=Value.ref a
 | .ty n,u=>u=Value.type n
noncomputable abbrev Vals:List V->List Value->Prop:=Paired RelV
theorem Vals.length {xs:List V} {us:List Value} (r:Vals xs us):xs.length=us.length:=Paired.length r
theorem Vals.get:∀ {xs:List V} {us:List Value} {i:Nat} {x:V},Vals xs us->xs[i]?=some x->∃ u,us[i]?=some u /\ RelV x u
 | _,_,_,_,.nil,e=>by simp at e
 | _,_,0,_,.cons r _,e=>by simp at e; subst e; exact ⟨_,rfl,r⟩
 | _,_,i + 1,x,.cons _ t,e=>by
  obtain ⟨u,h1,h2⟩:=Vals.get (i:=i) (x:=x) t (by simpa using e)
  exact ⟨u,by simpa using h1,h2⟩
theorem Vals.set {x:V} {u:Value} (r:RelV x u):∀ {xs:List V} {us:List Value} (i:Nat),Vals xs us->Vals (xs.set i x) (us.set i u)
 | _,_,_,.nil=>.nil
 | _,_,0,.cons _ t=>.cons r t
 | _,_,i + 1,.cons q t=>.cons q (Vals.set r i t)
theorem Vals.append:∀ {xs ys:List V} {us ws:List Value},Vals xs us->Vals ys ws->Vals (xs ++ ys) (us ++ ws)
 | _,_,_,_,.nil,s=>s
 | _,_,_,_,.cons r t,s=>.cons r (Vals.append t s)
theorem Vals.take:∀ {xs:List V} {us:List Value} (n:Nat),Vals xs us->Vals (xs.take n) (us.take n)
 | _,_,0,_=>.nil
 | _,_,_ + 1,.nil=>.nil
 | _,_,n + 1,.cons r t=>.cons r (Vals.take n t)
theorem Vals.drop:∀ {xs:List V} {us:List Value} (n:Nat),Vals xs us->Vals (xs.drop n) (us.drop n)
 | _,_,0,r=>r
 | _,_,_ + 1,.nil=>.nil
 | _,_,n + 1,.cons _ t=>Vals.drop n t
noncomputable def RelO:Option V->Option Value->Prop
 | some v,some u=>RelV v u
 | none,none=>True
 | _,_=>False
noncomputable def KV {κ:Type}:List (κ × V)->List (κ × Value)->Prop:=Paired λ (p:κ × V) (q:κ × Value)=>p.1=q.1 /\ RelV p.2 q.2
noncomputable def kV:Key->V
 | .inl i=>.int i
 | .inr x=>.str x
inductive HO where
 | lst (xs:List V)
 | tup (xs:List V)
 | dK (kvs:List (Key × V)) | dT (kvs:List (List Key × V))
 | set (S:Int->Bool) (n:Nat)
 | ins (C dx:Addr) (fs:List (Str × V))
 | own (x:Addr)
 | xd (fs:List (Str × V))
 | met (f x:Addr)
 | rng (lo hi:Int)
 | frz (o:Obj) (u:HO)
 | tbl (ps:Array Value)
 | ext (φ:Heap->Prop)
noncomputable abbrev Hp:=Addr->Option HO
noncomputable def upd (H:Hp) (a:Addr) (o:HO):Hp:=λ b=>if b=a then some o else H b
theorem wj0 {H:Hp} {a:Addr} {o:HO}:upd H a o a=some o:=by unfold upd; rw [if_pos rfl]
theorem xg0 {H:Hp} {a b:Addr} {o:HO} (h:b ≠ a):upd H a o b=H b:=by unfold upd; rw [if_neg h]
theorem wh5 {H:Hp} {a b:Addr} {o u:HO} (h:H a=some o) (h':H b=some u) (d:o ≠ u):a ≠ b:=by
 intro e; subst e; rw [h] at h'; exact d (Option.some.inj h')
theorem yn0 {H:Hp} {a b:Addr} {o:HO} (h:H a=some o) (h':H b=none):a ≠ b:=by
 intro e; subst e; rw [h] at h'; cases h'
section
variable (P:Program) (w:World)
noncomputable def ObjOk (H:Hp) (h:Heap) (a:Addr):HO->Prop
 | .lst xs=>xs.length<=sizeLine /\ ∃ (its:List Value) (n:Nat),Vals xs its /\ h.get? a=some { cls:=.type "list",data:=.seq its.toArray n }
 | .tup xs=>xs.length<=sizeLine /\ ∃ its:List Value,Vals xs its /\ IsTup h a its.toArray
 | .dK kvs=>kvs.length<=sizeLine /\ (a == sysModules)=false /\ ∃ vs,KV kvs vs /\ h.DictOf (yk4 P w) a vs
 | .dT kvs=>kvs.length<=sizeLine /\ (a == sysModules)=false /\ ∃ xs:List (List Key × Addr × Value),
     Paired (λ (p:List Key × V) (q:List Key × Addr × Value)=>p.1=q.1 /\ H q.2.1=some (.tup (p.1.map kV)) /\ RelV p.2 q.2.2) kvs xs ∧
     ∃ o es ep,h.get? a=some o /\ o.ExactDict /\ o.data=.dict es ep /\ es.toList=xs.map (entryOfKey (tupleKind (yk4 P w))) /\ (xs.map (·.1)).Nodup
 | .set S n=>h.SetOf (intKind P w) a S n
 | .ins C dx fs=>H dx=some (.own a) /\ fs.length<=1000 /\ dx ≠ a /\ h.get? a=some (PySem.W.instObj C dx) ∧
     ∃ mA,h.Ns1 dx mA /\ (∀ f,RelO (fs.lookup f) (mA f)) /\ PySem.Within mA (fs.map (·.1))
 | .own _=>∃ o,h.get? a=some o
 | .xd fs=>∃ mA,h.Ns1 a mA /\ ∀ f,RelO (fs.lookup f) (mA f)
 | .rng lo hi=>∃ t u v,h.get? a=some { cls:=.type "range",data:=.fields #[.int lo t,.int hi u,.int 1 v] }
 | .frz o u=>h.get? a=some o /\ ObjOk H h a u
 | .tbl ps=>h.get? a=some { cls:=.none,data:=.fields ps }
 | .met f x=>h.get? a=some (PySem.W.methodObj (.ref f) (.ref x))
 | .ext φ=>φ h /\ (∃ o,h.get? a=some o) /\ ∀ h1 h2:Heap,φ h1->(∀ o,h1.get? a=some o->h2.get? a=some o)->φ h2
noncomputable def HOk (H:Hp) (h:Heap):Prop:=∀ a o,H a=some o->ObjOk P w H h a o
end
section
variable {P:Program} {w:World} {H H':Hp} {h h':Heap} {a:Addr} {o:HO}
theorem ObjOk.lt (x:ObjOk P w H h a o):a < h.objs.size:=by
 cases o with
 | lst xs=>obtain ⟨_,_,_,_,e⟩:=x; exact Heap.lt_size e
 | tup xs=>obtain ⟨_,_,_,p⟩:=x; exact p.lt
 | dK kvs=>obtain ⟨_,_,_,_,o,_,_,e,_⟩:=x; exact Heap.lt_size e
 | dT kvs=>obtain ⟨_,_,_,_,o,_,_,e,_⟩:=x; exact Heap.lt_size e
 | set S n=>obtain ⟨o,_,_,_,e,_⟩:=x; exact Heap.lt_size e
 | ins C dx fs=>obtain ⟨_,_,_,e,_⟩:=x; exact Heap.lt_size e
 | own y=>obtain ⟨_,e⟩:=x; exact Heap.lt_size e
 | xd fs=>obtain ⟨_,⟨_,_,_,e,_⟩,_⟩:=x; exact Heap.lt_size e
 | rng lo hi=>obtain ⟨_,_,_,e⟩:=x; exact Heap.lt_size e
 | frz ob u=>obtain ⟨e,_⟩:=x; exact Heap.lt_size e
 | tbl ps=>exact Heap.lt_size (show h.get? a=some _ from x)
 | met f y=>exact Heap.lt_size (show h.get? a=some _ from x)
 | ext φ=>obtain ⟨_,⟨_,e⟩,_⟩:=x; exact Heap.lt_size e
theorem Paired.mapP {α β:Type} {F G:α->β->Prop}:∀ {l₁:List α} {l₂:List β},Paired F l₁ l₂->(∀ a b,F a b->G a b)->Paired G l₁ l₂
 | _,_,.nil,_=>.nil
 | _,_,.cons r t,f=>.cons (f _ _ r) (Paired.mapP t f)
theorem ObjOk.stay (x:ObjOk P w H h a o) (k:∀ b u,(b=a \/ H b=some (.own a))->h.get? b=some u->h'.get? b=some u)
    (ho:∀ b,H b=some (.own a)->H' b=some (.own a)) (ht:∀ b xs,H b=some (.tup xs)->H' b=some (.tup xs)):ObjOk P w H' h' a o:=by
 induction o with
 | lst xs=>obtain ⟨z,its,n,r,e⟩:=x; exact ⟨z,its,n,r,k _ _ (.inl rfl) e⟩
 | tup xs=>obtain ⟨z,its,r,ob,e,c⟩:=x; exact ⟨z,its,r,ob,k _ _ (.inl rfl) e,c⟩
 | dK kvs=>obtain ⟨z,y,vs,r,ob,es,ep,e,c⟩:=x; exact ⟨z,y,vs,r,ob,es,ep,k _ _ (.inl rfl) e,c⟩
 | dT kvs =>
  obtain ⟨z,y,xs,r,ob,es,ep,e,c⟩:=x
  exact ⟨z,y,xs,Paired.mapP r λ p q z=>⟨z.1,ht _ _ z.2.1,z.2.2⟩,ob,es,ep,k _ _ (.inl rfl) e,c⟩
 | set S n=>obtain ⟨ob,es,ep,t,e,c⟩:=x; exact ⟨ob,es,ep,t,k _ _ (.inl rfl) e,c⟩
 | ins C dx fs =>
  obtain ⟨d,z,ne,e,mA,⟨od,es,ep,e2,c⟩,r⟩:=x
  exact ⟨ho _ d,z,ne,k _ _ (.inl rfl) e,mA,⟨od,es,ep,k _ _ (.inr d) e2,c⟩,r⟩
 | own y=>obtain ⟨ob,e⟩:=x; exact ⟨ob,k _ _ (.inl rfl) e⟩
 | xd fs=>obtain ⟨mA,⟨od,es,ep,e,c⟩,r⟩:=x; exact ⟨mA,⟨od,es,ep,k _ _ (.inl rfl) e,c⟩,r⟩
 | rng lo hi=>obtain ⟨t,u,v,e⟩:=x; exact ⟨t,u,v,k _ _ (.inl rfl) e⟩
 | frz ob u ih=>obtain ⟨e,q⟩:=x; exact ⟨k _ _ (.inl rfl) e,ih q⟩
 | tbl ps =>
  have e:h.get? a=some { cls:=.none,data:=.fields ps }:=x
  show h'.get? a=some { cls:=.none,data:=.fields ps }
  exact k a _ (.inl rfl) e
 | met f y =>
  have e:h.get? a=some (PySem.W.methodObj (.ref f) (.ref y)):=x
  show h'.get? a=some (PySem.W.methodObj (.ref f) (.ref y))
  exact k a _ (.inl rfl) e
 | ext φ=>obtain ⟨p,⟨o,e⟩,st⟩:=x; exact ⟨st _ _ p λ o q=>k _ _ (.inl rfl) q,⟨o,k _ _ (.inl rfl) e⟩,st⟩
theorem HOk.lt (x:HOk P w H h) (e:H a=some o):a < h.objs.size:=(x a o e).lt
theorem HOk.fresh (x:HOk P w H h) (e:h.objs.size<=a):H a=none:=by
 cases q:H a with
 | none=>rfl
 | some u=>exact absurd (Nat.lt_of_lt_of_le (x.lt q) e) (Nat.lt_irrefl _)
theorem HOk.kept (x:HOk P w H h) (k:∀ b u,h.get? b=some u->h'.get? b=some u):HOk P w H h':=λ a o e =>
 (x a o e).stay (λ b u _ q=>k b u q) (λ _ q=>q) λ _ _ q=>q
theorem HOk.laid (x:HOk P w H h) (k:∀ b u,h.get? b=some u->h'.get? b=some u) (hp:h.objs.size<=a) (new:ObjOk P w (upd H a o) h' a o):HOk P w (upd H a o) h':=λ b u e=>by
 have hn:=x.fresh hp
 by_cases hb:b=a
 ·subst hb; rw [wj0] at e; cases e; exact new
 ·rw [xg0 hb] at e
  exact (x b u e).stay (λ c v _ q=>k c v q) (λ c q=>by rw [xg0 (yn0 q hn)]; exact q) λ c xs q=>by rw [xg0 (yn0 q hn)]; exact q
end
noncomputable def Rd (H:Hp) (a:Addr) (u:HO):Prop:=H a=some u \/ ∃ o,H a=some (.frz o u)
theorem Rd.ok {P:Program} {w:World} {H:Hp} {h:Heap} {a:Addr} {u:HO} (r:Rd H a u) (x:HOk P w H h):ObjOk P w H h a u:=by
 rcases r with r | ⟨o,r⟩
 ·exact x a u r
 ·obtain ⟨_,q⟩:=x a _ r
  exact q
noncomputable def Mut:Option HO->Prop
 | some (.lst _)=>True
 | some (.dK _)=>True
 | some (.dT _)=>True
 | some (.set _ _)=>True
 | some (.ins _ _ _)=>True
 | some (.ext _)=>True
 | _=>False
section
variable {P:Program} {w:World} {H:Hp} {h h':Heap} {x e:Addr} {o':HO}
theorem HOk.write (ok:HOk P w H h) (mu:Mut (H x)) (he:e=x \/ H e=some (.own x)) (k:∀ b u,b ≠ e->h.get? b=some u->h'.get? b=some u) (heo:∃ u,h'.get? e=some u)
    (new:ObjOk P w (upd H x o') h' x o'):HOk P w (upd H x o') h':=λ b u q=>by
 have nown:∀ c y,H c=some (.own y)->c ≠ x:=λ c y r z=>by subst z; rw [r] at mu; exact mu
 have ntup:∀ c xs,H c=some (.tup xs)->c ≠ x:=λ c xs r z=>by subst z; rw [r] at mu; exact mu
 by_cases hb:b=x
 ·subst hb; rw [wj0] at q; cases q; exact new
 ·rw [xg0 hb] at q
  by_cases hbe:b=e
  ·have q':H b=some (.own x):=by
     rcases he with z | z
     ·exact absurd (hbe.trans z) hb
     ·rw [hbe]; exact z
   rw [q] at q'; cases q'
   obtain ⟨v,hv⟩:=heo
   exact ⟨v,by rw [hbe]; exact hv⟩
  ·refine (ok b u q).stay (λ c v hc r=>k c v ?_ r) (λ c r=>by rw [xg0 (nown c b r)]; exact r) λ c xs r=>by rw [xg0 (ntup c xs r)]; exact r
   rcases hc with rfl | hc
   ·exact hbe
   ·rintro rfl
    rcases he with z | z
    ·exact nown c b hc z
    ·rw [hc] at z; cases z; exact hb rfl
end
structure Un (fs ex:List Addr) (H H':Hp) (h h':Heap):Prop where
 keep:∀ b o,h.get? b=some o->H b=none->b ∉ fs->b ∉ ex->h'.get? b=some o
 slot:∀ b o,h.get? b=some o->H b=none->b ∈ fs->b ∉ ex->∃ sl,h'.get? b=some { o with slots:=sl }
 free:∀ b o,h.get? b=some o->H b=none->b ∉ ex->H' b=none
 there:∀ b o,h.get? b=some o->b ∉ ex->∃ o',h'.get? b=some o'
 tups:∀ b xs,H b=some (.tup xs)->H' b=some (.tup xs)
 frzs:∀ b o u,H b=some (.frz o u)->H' b=some (.frz o u)
 tbls:∀ b ps,H b=some (.tbl ps)->∃ more,H' b=some (.tbl (ps ++ more))
section
variable {fs fs' ex ex':List Addr} {H H1 H2:Hp} {h h1 h2 h':Heap} {a x e:Addr} {o:HO}
theorem Un.any (u:Un fs ex H H1 h h1) {b:Addr} {ob:Obj} (q:h.get? b=some ob) (n:H b=none) (hx:b ∉ ex):∃ sl,h1.get? b=some { ob with slots:=sl }:=by
 by_cases hb:b ∈ fs
 ·exact u.slot b ob q n hb hx
 ·exact ⟨ob.slots,u.keep b ob q n hb hx⟩
theorem Un.kept (k:∀ b u,h.get? b=some u->h'.get? b=some u):Un fs ex H H h h' :=
 ⟨λ b ob q _ _ _=>k b ob q,λ b ob q _ _ _=>⟨ob.slots,k b ob q⟩,λ _ _ _ n _=>n,λ b ob q _=>⟨ob,k b ob q⟩,λ _ _ q=>q,λ _ _ _ q=>q,λ _ ps q=>⟨#[],by rw [q]; simp⟩⟩
theorem Un.refl:Un fs ex H H h h:=Un.kept λ _ _ q=>q
theorem Un.laid (k:∀ b u,h.get? b=some u->h'.get? b=some u) (hp:h.objs.size<=a) (hn:H a=none):Un fs ex H (upd H a o) h h' where
 keep:=λ b u q _ _ _=>k b u q
 slot:=λ b u q _ _ _=>⟨u.slots,k b u q⟩
 free:=λ b u q n _=>by rw [xg0 (Nat.ne_of_lt (Nat.lt_of_lt_of_le (Heap.lt_size q) hp))]; exact n
 there:=λ b u q _=>⟨u,k b u q⟩
 tups:=λ b xs q=>by rw [xg0 (yn0 q hn)]; exact q
 frzs:=λ b u xs q=>by rw [xg0 (yn0 q hn)]; exact q
 tbls:=λ b ps q=>⟨#[],by rw [xg0 (yn0 q hn),q]; simp⟩
theorem Un.write (mu:Mut (H x)) (he:e=x \/ H e=some (.own x)) (k:∀ b u,b ≠ e->h.get? b=some u->h'.get? b=some u) (heo:∃ u,h'.get? e=some u):Un fs ex H (upd H x o) h h':=by
 have hx:∀ b,H b=none->b ≠ x:=λ b n z=>by subst z; rw [n] at mu; exact mu
 have hb:∀ b,H b=none->b ≠ e:=λ b n z=>by
  subst z
  rcases he with r | r
  ·exact hx b n r
  ·rw [n] at r; cases r
 have hm:∀ b u,H b=some u->¬ Mut (some u)->b ≠ x:=λ b u q nm z=>by subst z; rw [q] at mu; exact nm mu
 refine ⟨λ b u q n _ _=>k b u (hb b n) q,λ b u q n _ _=>⟨u.slots,k b u (hb b n) q⟩,λ b u q n _=>by rw [xg0 (hx b n)]; exact n,λ b u q _=>?_,
  λ b xs q=>by rw [xg0 (hm b _ q λ z=>z)]; exact q,λ b u xs q=>by rw [xg0 (hm b _ q λ z=>z)]; exact q,λ b ps q=>⟨#[],by rw [xg0 (hm b _ q λ z=>z),q]; simp⟩⟩
 by_cases hbe:b=e
 ·subst hbe; exact heo
 ·exact ⟨u,k b u hbe q⟩
end
noncomputable def trk (h:Heap) (H:Hp):List Addr:=(List.range h.objs.size).filter λ a=>(H a).isSome
noncomputable def hidT (h:Heap) (H:Hp):Heap:=PySem.W.hideAll h (trk h H)
theorem wn4 (h:Heap) (H:Hp):(hidT h H).objs.size=h.objs.size:=PySem.W.hideAll_size _ _
theorem xm5 {h:Heap} {H:Hp} {b:Addr} {o:Obj} (e:h.get? b=some o) (n:H b=none):(hidT h H).get? b=some o :=
 PySem.W.hideAll_get _ e λ hm=>by
  have q:(H b).isSome=true:=(List.mem_filter.mp hm).2
  rw [n] at q; simp at q
theorem wt6 {h:Heap} {H:Hp} {b:Addr} {o:Obj} (e:(hidT h H).get? b=some o):h.get? b=some o /\ H b=none:=by
 have e':h.get? b=some o:=PySem.W.of_hideAll (trk h H) e
 refine ⟨e',?_⟩
 cases q:H b with
 | none=>rfl
 | some x =>
  have hm:b ∈ trk h H:=List.mem_filter.mpr ⟨List.mem_range.mpr (Heap.lt_size e'),by simp [q]⟩
  have z:(hidT h H).get? b=none:=PySem.W.hideAll_none (trk h H) hm
  rw [z] at e; cases e
noncomputable def yc7 (g h:Heap) (L:Addr):List (Addr × Obj):=(List.range h.objs.size).filterMap λ a=>if a=L \/ (g.get? a).isSome=true then none else (h.get? a).map λ o=>(a,o)
noncomputable def rest (g h:Heap) (L d:Addr):List (Addr × Obj):=(yc7 g h L).filter λ p=>decide (p.1 ≠ d)
end L2
namespace L2
open PySem PySem.Spec PyProof.Rows
structure Mod (K:PySem.W.Frag) (mg:Str->Option Value) (base:Heap):Prop where
 kin:K.In base
 glob:base.Ns mainGlobals mg
 blt:∃ mb,base.Ns builtinsNs mb /\ ∀ x:Str,x ≠ "__name__" -> mb x=bootBuiltins x
 nolimit:base.NoLimit
structure Cx where
 prog:Program
 w:World
 K:PySem.W.Frag
 mg:Str->Option Value
 base:Heap
 A:Around
 N:List Str
 s₀:Shared
 H₀:Hp
 env:Env
 outer:List Env
 stack:List Env
 ex:List Addr
 fn:Str->Bool
 calm:Bool
 pn:List (Addr × Obj)
 xe:Value->Shared->Prop
noncomputable def frs (l:List Env):List Addr:=l.filterMap (·.frame)
noncomputable abbrev Cx.fs (X:Cx):List Addr:=frs X.outer
noncomputable def Vis (sc:Scope) (x:Str):Prop:=sc.names.lookup x=some .local \/ sc.names.lookup x=some .cell \/ sc.names.lookup x=some .free
noncomputable def Loc (sc:Scope) (x:Str):Prop:=sc.names.lookup x=some .local \/ sc.names.lookup x=some .cell
noncomputable def Look (env:Env) (h:Heap) (m:Str->Option Value) (x:Str) (u:Value):Prop :=
 (env.kindOf x=some .local /\ m x=some u) \/ ((env.kindOf x=some .cell \/ env.kindOf x=some .free) /\ ∃ c,env.cells.lookup x=some c /\ h.IsCell c (some u))
structure Cx.Ok (X:Cx):Prop where
 mod:Mod X.K X.mg X.base
 kind:X.env.scope.kind=.function
 glob:X.env.globals=mainGlobals
 blt:X.env.builtins=builtinsNs
 above:X.s₀.heap.objs.size<=X.env.locals
 inj:∀ x y c,X.env.cells.lookup x=some c->X.env.cells.lookup y=some c->x=y
 has:∀ x,(X.env.kindOf x=some .cell \/ X.env.kindOf x=some .free)->∃ c,X.env.cells.lookup x=some c
 cab:∀ x c,X.fn x=true->X.env.cells.lookup x=some c->X.s₀.heap.objs.size<=c
 hd:X.calm=true->X.A.handled=none
 frames:X.A.frames=some X.stack
 stk:X.stack=X.outer \/ (X.stack=X.env :: X.outer /\ X.env.frame=some X.env.locals)
 exf:∀ b ∈ X.ex,b ≠ X.env.locals /\ ∀ x c,X.env.cells.lookup x=some c->c ≠ b
 bs:∀ b o,X.base.get? b=some o->X.s₀.heap.get? b=some o /\ X.H₀ b=none
 bsz:X.base.objs.size<=X.s₀.heap.objs.size
 noex:∀ b o,X.base.get? b=some o->b ∉ X.ex
 exfs:∀ b ∈ X.ex,b ∉ X.fs
 funs:X.s₀.heap.FunFrames X.base X.outer
 frf:∀ b ∈ X.fs,X.H₀ b=none
structure Inv (X:Cx) (pins:List (Addr × Obj)) (σ:List (Option V)) (H:Hp) (s:Shared):Prop where
 ok:X.Ok
 os:s.os=X.s₀.os
 bare:AllBare s.gens
 base:Un X.fs X.ex X.H₀ H X.s₀.heap s.heap
 loc:∃ m,s.heap.Ns X.env.locals m /\ ∀ (i:Nat) (x:Str) (v:V),X.N[i]?=some x->σ[i]?=some (some v)->Vis X.env.scope x->∃ u,RelV v u /\ Look X.env s.heap m x u
 cell:∀ x c,X.env.cells.lookup x=some c->∃ v,s.heap.IsCell c v
 free:H X.env.locals=none
 freeC:∀ x c,X.env.cells.lookup x=some c->H c=none
 pin:∀ p ∈ X.pn ++ pins,s.heap.get? p.1=some p.2 /\ H p.1=none /\ p.1 ≠ X.env.locals /\ p.1 ∉ X.fs /\ ∀ v,p.2.data ≠ .cell v
 hok:HOk X.prog X.w H s.heap
 len:σ.length=X.N.length
section
variable {X:Cx} {pins:List (Addr × Obj)} {σ:List (Option V)} {H H':Hp} {s:Shared} {h':Heap}
theorem Cx.Ok.nofr (ok:X.Ok) {b:Addr} {o:Obj} (e:X.base.get? b=some o):b ∉ X.fs:=λ hb=>by
 have:=(ok.funs.mem hb).1
 rw [e] at this; cases this
theorem Inv.bs (I:Inv X pins σ H s):∀ b o,X.base.get? b=some o->s.heap.get? b=some o /\ H b=none:=λ b o e =>
 ⟨I.base.keep b o (I.ok.bs b o e).1 (I.ok.bs b o e).2 (I.ok.nofr e) (I.ok.noex b o e),I.base.free b o (I.ok.bs b o e).1 (I.ok.bs b o e).2 (I.ok.noex b o e)⟩
theorem Inv.bk (I:Inv X pins σ H s):∀ b o,X.base.get? b=some o->s.heap.get? b=some o:=λ b o e=>(I.bs b o e).1
theorem Inv.mod (I:Inv X pins σ H s):Mod X.K X.mg X.base:=I.ok.mod
theorem Inv.kIn (I:Inv X pins σ H s):X.K.In s.heap:=I.ok.mod.kin.keeps I.bk
theorem Inv.lt (I:Inv X pins σ H s):X.env.locals < s.heap.objs.size:=let ⟨_,hn,_⟩:=I.loc; hn.lt
theorem Inv.sz (I:Inv X pins σ H s):X.s₀.heap.objs.size<=s.heap.objs.size:=Nat.le_trans I.ok.above (Nat.le_of_lt I.lt)
theorem Inv.nofs (I:Inv X pins σ H s) {a:Addr} (h:s.heap.objs.size<=a):a ∉ X.fs:=λ hb=>by
 obtain ⟨_,o,ho,_⟩:=I.ok.funs.mem hb
 exact absurd (Nat.lt_of_lt_of_le (Heap.lt_size ho) (Nat.le_trans I.sz h)) (Nat.lt_irrefl _)
theorem Inv.cne (I:Inv X pins σ H s):∀ x c,X.env.cells.lookup x=some c->c ≠ X.env.locals:=λ x c e z=>by
 obtain ⟨v,o,ho,hd⟩:=I.cell x c e
 obtain ⟨m,⟨o',es,ep,ho',hd',_⟩,_⟩:=I.loc
 rw [z,ho'] at ho; cases ho; rw [hd'] at hd; cases hd
theorem Inv.funs (I:Inv X pins σ H s):s.heap.FunFrames X.base X.outer:=by
 have all:∀ (l:List Env),(∀ b ∈ frs l,b ∈ X.fs)->X.s₀.heap.FunFrames X.base l->s.heap.FunFrames X.base l:=by
  intro l
  induction l with
  | nil=>intro _ _; trivial
  | cons env r ih =>
   intro hs hl
   obtain ⟨hk,⟨L,o,hf,hn,ho,hd⟩,hr⟩:=hl
   have hL:L ∈ X.fs:=hs L (by unfold frs; rw [List.filterMap_cons,hf]; exact List.mem_cons_self)
   obtain ⟨sl,e⟩:=I.base.slot L o ho (I.ok.frf L hL) hL λ z=>I.ok.exfs L z hL
   exact ⟨hk,⟨L,_,hf,hn,e,hd⟩,ih (λ b hb=>hs b (by unfold frs; rw [List.filterMap_cons,hf]; exact List.mem_cons_of_mem _ hb)) hr⟩
 exact all X.outer (λ _ hb=>hb) I.ok.funs
theorem Inv.stack (I:Inv X pins σ H s):s.heap.FunFrames X.base X.stack:=by
 rcases I.ok.stk with e | ⟨e,hf⟩
 ·rw [e]; exact I.funs
 ·rw [e]
  obtain ⟨m,hn,_⟩:=I.loc
  refine .cons (by rw [I.ok.kind]; decide) hf hn ?_ I.funs
  exact Heap.get?_none_of_le (Nat.le_trans I.ok.bsz I.ok.above)
theorem Inv.stkSub (I:Inv X pins σ H s):∀ b ∈ frs X.stack,b ∈ X.env.locals :: X.fs:=λ b hb=>by
 rcases I.ok.stk with e | ⟨e,hf⟩
 ·rw [e] at hb; exact List.mem_cons_of_mem _ hb
 ·rw [e] at hb
  unfold frs at hb
  rw [List.filterMap_cons,hf] at hb
  exact hb
theorem Inv.stkFree (I:Inv X pins σ H s):∀ b ∈ frs X.stack,H b=none:=λ b hb=>by
 rcases List.mem_cons.mp (I.stkSub b hb) with e | hb
 ·rw [e]; exact I.free
 ·obtain ⟨_,o,ho,_⟩:=I.ok.funs.mem hb
  exact I.base.free b o ho (I.ok.frf b hb) λ z=>I.ok.exfs b z hb
theorem Inv.step {g':Array GenState} {t':Nat} {d':Drawn} {ch:List Addr} (I:Inv X pins σ H s)
    (hch:∀ b ∈ ch,(b ∈ X.ex \/ X.s₀.heap.objs.size<=b) /\ b ≠ X.env.locals /\ (∀ x c,X.env.cells.lookup x=some c->c ≠ b) /\ ∀ p ∈ X.pn ++ pins,p.1 ≠ b)
    (keep:∀ b o,b ≠ X.env.locals->b ∉ X.fs->b ∉ ch->s.heap.get? b=some o->H b=none->h'.get? b=some o)
    (slot:∀ b o,b ≠ X.env.locals->b ∈ X.fs->b ∉ ch->s.heap.get? b=some o->H b=none->∃ sl,h'.get? b=some { o with slots:=sl }) (free:∀ b o,b ∉ ch->s.heap.get? b=some o->H b=none->H' b=none)
    (there:∀ b o,b ∉ ch->s.heap.get? b=some o->∃ o',h'.get? b=some o')
    (tups:∀ b xs,H b=some (.tup xs)->H' b=some (.tup xs)) (frzs:∀ b o u,H b=some (.frz o u)->H' b=some (.frz o u)) (tbls:∀ b ps,H b=some (.tbl ps)->∃ more,H' b=some (.tbl (ps ++ more)))
    (ns:∀ m,s.heap.Ns X.env.locals m->h'.Ns X.env.locals m) (hok:HOk X.prog X.w H' h') (hg:AllBare g') :
    Inv X pins σ H' { s with heap:=h',gens:=g',drawn:=d',toks:=t' }:=by
 have neL:∀ b o,X.s₀.heap.get? b=some o->b ≠ X.env.locals:=λ b o e=>Nat.ne_of_lt (Nat.lt_of_lt_of_le (Heap.lt_size e) I.ok.above)
 have neC:∀ b o,X.s₀.heap.get? b=some o->b ∉ X.ex->b ∉ ch:=λ b o e hx hb=>by
  rcases (hch b hb).1 with z | z
  ·exact hx z
  ·exact absurd (Nat.lt_of_lt_of_le (Heap.lt_size e) z) (Nat.lt_irrefl _)
 have cellK:∀ x c,X.env.cells.lookup x=some c->∀ v,s.heap.IsCell c v->h'.IsCell c v:=λ x c e v ⟨o,ho,hd⟩=>by
  have nch:c ∉ ch:=λ z=>(hch c z).2.2.1 x c e rfl
  by_cases hc:c ∈ X.fs
  ·obtain ⟨sl,q⟩:=slot c o (I.cne x c e) hc nch ho (I.freeC x c e)
   exact ⟨_,q,hd⟩
  ·exact ⟨o,keep c o (I.cne x c e) hc nch ho (I.freeC x c e),hd⟩
 refine ⟨I.ok,I.os,hg,⟨λ b o e n hb hx=>?_,λ b o e n hb hx=>?_,λ b o e n hx=>?_,λ b o e hx=>?_,λ b xs e=>tups b xs (I.base.tups b xs e),λ b o xs e=>frzs b o xs (I.base.frzs b o xs e),λ b ps e=>?_⟩,?_,λ x c e=>?_,?_,λ x c e=>?_,λ p hp=>?_,hok,I.len⟩
 ·exact keep b o (neL b o e) hb (neC b o e hx) (I.base.keep b o e n hb hx) (I.base.free b o e n hx)
 ·obtain ⟨sl,e1⟩:=I.base.slot b o e n hb hx
  obtain ⟨sl',e2⟩:=slot b _ (neL b o e) hb (neC b o e hx) e1 (I.base.free b o e n hx)
  exact ⟨sl',e2⟩
 ·obtain ⟨o',e1⟩:=I.base.there b o e hx
  exact free b o' (neC b o e hx) e1 (I.base.free b o e n hx)
 ·obtain ⟨o',e1⟩:=I.base.there b o e hx
  exact there b o' (neC b o e hx) e1
 ·obtain ⟨m1,e1⟩:=I.base.tbls b ps e
  obtain ⟨m2,e2⟩:=tbls b _ e1
  exact ⟨m1 ++ m2,by rw [e2,Array.append_assoc]⟩
 ·obtain ⟨m,hn,hl⟩:=I.loc
  refine ⟨m,ns m hn,λ i x v e1 e2 e3=>?_⟩
  obtain ⟨u,r,l⟩:=hl i x v e1 e2 e3
  refine ⟨u,r,?_⟩
  rcases l with l | ⟨k,c,e,z⟩
  ·exact .inl l
  ·exact .inr ⟨k,c,e,cellK x c e _ z⟩
 ·obtain ⟨v,z⟩:=I.cell x c e
  exact ⟨v,cellK x c e v z⟩
 ·obtain ⟨m,⟨o,_,_,ho,_⟩,_⟩:=I.loc
  exact free _ o (λ z=>(hch _ z).2.1 rfl) ho I.free
 ·obtain ⟨v,o,ho,hd⟩:=I.cell x c e
  exact free c o (λ z=>(hch c z).2.2.1 x c e rfl) ho (I.freeC x c e)
 ·obtain ⟨e,n,ne,nf,d⟩:=I.pin p hp
  have nch:p.1 ∉ ch:=λ z=>(hch p.1 z).2.2.2 p hp rfl
  exact ⟨keep p.1 p.2 ne nf nch e n,free p.1 p.2 nch e n,ne,nf,d⟩
theorem Inv.un {t':Nat} (I:Inv X pins σ H s) (u:Un X.fs [] H H' s.heap h') (hok:HOk X.prog X.w H' h'):Inv X pins σ H' { s with heap:=h',toks:=t' }:=by
 obtain ⟨m,⟨o,es,ep,ho,r⟩,_⟩:=id I.loc
 obtain ⟨sl,hL⟩:=u.any ho I.free (by simp)
 exact I.step (g':=s.gens) (d':=s.drawn) (ch:=[]) (λ _ z=>nomatch z) (λ b o _ hb _ e n=>u.keep b o e n hb (by simp)) (λ b o _ hb _ e n=>u.slot b o e n hb (by simp)) (λ b o _ e n=>u.free b o e n (by simp)) (λ b o _ e=>u.there b o e (by simp)) u.tups u.frzs u.tbls (λ m' hm=>by
  obtain ⟨o',es',ep',ho',r'⟩:=hm
  rw [ho] at ho'; cases ho'
  exact ⟨_,es',ep',hL,r'⟩) hok I.bare
theorem Inv.call {g':Array GenState} {t':Nat} {d':Drawn} {ch:List Addr} (I:Inv X pins σ H s) (u:Un (frs X.stack) ch H H' s.heap h') (hok:HOk X.prog X.w H' h') (hg:AllBare g')
    (hch:∀ b ∈ ch,(b ∈ X.ex \/ X.s₀.heap.objs.size<=b) /\ b ≠ X.env.locals /\ (∀ x c,X.env.cells.lookup x=some c->c ≠ b) /\ ∀ p ∈ X.pn ++ pins,p.1 ≠ b) :
    Inv X pins σ H' { s with heap:=h',gens:=g',drawn:=d',toks:=t' }:=by
 obtain ⟨m,⟨o,es,ep,ho,r⟩,_⟩:=id I.loc
 obtain ⟨sl,hL⟩:=u.any ho I.free λ z=>(hch _ z).2.1 rfl
 exact I.step (ch:=ch) hch (λ b o hL hb hc e n=>u.keep b o e n (λ z=>(List.mem_cons.mp (I.stkSub b z)).elim hL hb) hc) (λ b o _ _ hc e n=>u.any e n hc) (λ b o hc e n=>u.free b o e n hc) (λ b o hc e=>u.there b o e hc) u.tups u.frzs u.tbls (λ m' hm=>by
  obtain ⟨o',es',ep',ho',r'⟩:=hm
  rw [ho] at ho'; cases ho'
  exact ⟨_,es',ep',hL,r'⟩) hok hg
theorem Inv.turned {t':Nat} {it:Addr} (I:Inv X pins σ H s) (k:∀ b o,b ≠ it->s.heap.get? b=some o->h'.get? b=some o) (hn:H it=none) (hL:it ≠ X.env.locals)
    (h1:it ∈ X.ex \/ X.s₀.heap.objs.size<=it) (h2:∀ x c,X.env.cells.lookup x=some c->c ≠ it) (h3:∀ p ∈ X.pn ++ pins,p.1 ≠ it):Inv X pins σ H { s with heap:=h',toks:=t' }:=by
 have nit:∀ b u,H b=some u->b ≠ it:=λ b u e z=>by rw [z,hn] at e; cases e
 refine I.step (g':=s.gens) (d':=s.drawn) (ch:=[it]) (λ b hb=>?_) (λ b o _ _ hc e _=>k b o (λ z=>hc (by simp [z])) e) (λ b o _ _ hc e _=>⟨o.slots,k b o (λ z=>hc (by simp [z])) e⟩) (λ _ _ _ _ n=>n)
  (λ b o hc e=>⟨o,k b o (λ z=>hc (by simp [z])) e⟩) (λ _ _ e=>e) (λ _ _ _ e=>e) (λ b ps e=>⟨#[],by rw [e]; simp⟩) (λ m hm=>?_) (λ b u e=>?_) I.bare
 ·have e:b=it:=by simpa using hb
  subst e
  exact ⟨h1,hL,h2,h3⟩
 ·obtain ⟨o,es,ep,ho,r⟩:=hm
  exact ⟨o,es,ep,k _ o (Ne.symm hL) ho,r⟩
 ·refine (I.hok b u e).stay (λ c v hc q=>k c v ?_ q) (λ _ q=>q) λ _ _ q=>q
  rcases hc with z | z
  ·rw [z]; exact nit b u e
  ·exact nit c _ z
theorem Inv.tok (I:Inv X pins σ H s) (t:Nat):Inv X pins σ H { s with toks:=t }:=I.un (h':=s.heap) (t':=t) Un.refl I.hok
theorem Inv.kept {t':Nat} (I:Inv X pins σ H s) (k:∀ b u,s.heap.get? b=some u->h'.get? b=some u):Inv X pins σ H { s with heap:=h',toks:=t' }:=I.un (Un.kept k) (I.hok.kept k)
theorem Inv.laid {a:Addr} {o:HO} {t':Nat} (I:Inv X pins σ H s) (k:∀ b u,s.heap.get? b=some u->h'.get? b=some u) (hp:s.heap.objs.size<=a) (new:ObjOk X.prog X.w (upd H a o) h' a o) :
    Inv X pins σ (upd H a o) { s with heap:=h',toks:=t' }:=I.un (Un.laid k hp (I.hok.fresh hp)) (I.hok.laid k hp new)
theorem Inv.write {x e:Addr} {o:HO} {t':Nat} (I:Inv X pins σ H s) (mu:Mut (H x)) (he:e=x \/ H e=some (.own x)) (k:∀ b u,b ≠ e->s.heap.get? b=some u->h'.get? b=some u) (heo:∃ u,h'.get? e=some u)
    (new:ObjOk X.prog X.w (upd H x o) h' x o):Inv X pins σ (upd H x o) { s with heap:=h',toks:=t' }:=I.un (Un.write mu he k heo) (I.hok.write mu he k heo new)
theorem Inv.pins_of {pins':List (Addr × Obj)} (I:Inv X pins σ H s) (h:∀ p ∈ pins',s.heap.get? p.1=some p.2 /\ H p.1=none /\ p.1 ≠ X.env.locals /\ p.1 ∉ X.fs /\ ∀ v,p.2.data ≠ .cell v):Inv X pins' σ H s :=
 ⟨I.ok,I.os,I.bare,I.base,I.loc,I.cell,I.free,I.freeC,λ p hp=>(List.mem_append.mp hp).elim (λ z=>I.pin p (List.mem_append_left _ z)) (h p),I.hok,I.len⟩
theorem we3 {N:List Str} (hN:N.Nodup) {i j:Nat} {x:Str} (a:N[i]?=some x) (b:N[j]?=some x):i=j:=by
 obtain ⟨h1,e1⟩:=List.getElem?_eq_some_iff.mp a
 obtain ⟨h2,e2⟩:=List.getElem?_eq_some_iff.mp b
 exact (List.getElem_inj hN).mp (e1.trans e2.symm)
theorem zi2 {M:Model} {A:Around} {E:Value->Shared->Prop} {i:Nat} {x:Str} {v:V} {u:Value} {Q:Unit->Shared->Prop} (I:Inv X pins σ H s) (hN:X.N.Nodup) (hi:X.N[i]?=some x) (hx:Loc X.env.scope x) (r:RelV v u)
    (h:∀ s',Inv X pins (σ.set i (some v)) H s'->(∃ a,Heap.SameBut a s.heap s'.heap /\ (a=X.env.locals \/ X.env.cells.lookup x=some a))->Q () s') (hf:X.fn x=true \/ X.env.scope.names.lookup x=some .local:=by first | exact .inl rfl | exact .inr rfl | assumption):wpAny M A (storeName X.env x u) Q E s:=by
 obtain ⟨m,hn,hl⟩:=id I.loc
 have hcls:(X.env.scope.kind == .class || (X.env.scope.kind == .module && X.env.locals != X.env.globals))=false:=by rw [I.ok.kind]; rfl
 have hiσ:i < σ.length:=by rw [I.len]; exact (List.getElem?_eq_some_iff.mp hi).1
 have cne:=I.cne
 have tracked:∀ {a:Addr} {h':Heap},(∃ o,s.heap.get? a=some o /\ H a=none)->Heap.SameBut a s.heap h'->HOk X.prog X.w H h':=λ {a h'} ha hs b ob e=>by
  obtain ⟨_,_,hfree⟩:=ha
  refine (I.hok b ob e).stay (λ c w' hc q=>(hs.2 c ?_).trans q) (λ _ q=>q) λ _ _ q=>q
  rintro rfl
  rcases hc with rfl | hc
  ·rw [hfree] at e; cases e
  ·rw [hfree] at hc; cases hc
 rcases hx with hk | hk
 ·refine wpAny_storeName_local hk hn (λ h' hn' hs=>?_) hcls
  obtain ⟨oL,_,_,hoL,_⟩:=id hn
  refine h _ ⟨I.ok,I.os,I.bare,⟨λ b o e n hb hx=>?_,λ b o e n hb hx=>?_,I.base.free,λ b o e hx=>?_,I.base.tups,I.base.frzs,I.base.tbls⟩,⟨_,hn',λ j y v' e1 e2 e3=>?_⟩,λ y c e=>?_,I.free,I.freeC,λ p hp=>?_,tracked ⟨oL,hoL,I.free⟩ hs,by simpa using I.len⟩ ⟨_,hs,.inl rfl⟩
  ·exact (hs.2 b (Nat.ne_of_lt (Nat.lt_of_lt_of_le (Heap.lt_size e) I.ok.above))).trans (I.base.keep b o e n hb hx)
  ·obtain ⟨sl,e1⟩:=I.base.slot b o e n hb hx
   exact ⟨sl,(hs.2 b (Nat.ne_of_lt (Nat.lt_of_lt_of_le (Heap.lt_size e) I.ok.above))).trans e1⟩
  ·obtain ⟨o',e1⟩:=I.base.there b o e hx
   exact ⟨o',(hs.2 b (Nat.ne_of_lt (Nat.lt_of_lt_of_le (Heap.lt_size e) I.ok.above))).trans e1⟩
  ·by_cases hj:j=i
   ·subst hj
    rw [hi] at e1; cases e1
    rw [List.getElem?_set_self hiσ] at e2
    cases e2
    exact ⟨u,r,.inl ⟨hk,by simp⟩⟩
   ·rw [List.getElem?_set_ne (Ne.symm hj)] at e2
    obtain ⟨u',r',q⟩:=hl j y v' e1 e2 e3
    refine ⟨u',r',?_⟩
    rcases q with ⟨k,e⟩ | ⟨k,c,e,z⟩
    ·refine .inl ⟨k,?_⟩
     have:y ≠ x:=λ e=>hj (we3 hN e1 (e ▸ hi))
     simp [this,e]
    ·exact .inr ⟨k,c,e,z.sameBut hs (cne y c e)⟩
  ·obtain ⟨w',z⟩:=I.cell y c e
   exact ⟨w',z.sameBut hs (cne y c e)⟩
  ·obtain ⟨e,n,ne,nf,d⟩:=I.pin p hp
   exact ⟨(hs.2 p.1 ne).trans e,n,ne,nf,d⟩
 ·have hfn:X.fn x=true:=by
    rcases hf with z | z
    ·exact z
    ·rw [z] at hk; cases hk
  obtain ⟨c,hc⟩:=I.ok.has x (.inl hk)
  obtain ⟨w',z⟩:=I.cell x c hc
  refine wpAny_storeName_cell I.ok.kind hk hc z (λ h' hc' hs=>?_)
  obtain ⟨oc,hoc,hocd⟩:=id z
  refine h { s with heap:=h' } ⟨I.ok,I.os,I.bare,⟨λ b o e n hb hx=>?_,λ b o e n hb hx=>?_,I.base.free,λ b o e hx=>?_,I.base.tups,I.base.frzs,I.base.tbls⟩,⟨m,hn.sameBut hs (Ne.symm (cne x c hc)),λ j y v' e1 e2 e3=>?_⟩,λ y c' e=>?_,I.free,I.freeC,λ p hp=>?_,tracked ⟨oc,hoc,I.freeC x c hc⟩ hs,by simpa using I.len⟩ ⟨c,hs,.inr hc⟩
  ·exact (hs.2 b (Nat.ne_of_lt (Nat.lt_of_lt_of_le (Heap.lt_size e) (I.ok.cab x c hfn hc)))).trans (I.base.keep b o e n hb hx)
  ·obtain ⟨sl,e1⟩:=I.base.slot b o e n hb hx
   exact ⟨sl,(hs.2 b (Nat.ne_of_lt (Nat.lt_of_lt_of_le (Heap.lt_size e) (I.ok.cab x c hfn hc)))).trans e1⟩
  ·obtain ⟨o',e1⟩:=I.base.there b o e hx
   exact ⟨o',(hs.2 b (Nat.ne_of_lt (Nat.lt_of_lt_of_le (Heap.lt_size e) (I.ok.cab x c hfn hc)))).trans e1⟩
  ·by_cases hj:j=i
   ·subst hj
    rw [hi] at e1; cases e1
    rw [List.getElem?_set_self hiσ] at e2
    cases e2
    exact ⟨u,r,.inr ⟨.inl hk,c,hc,hc'⟩⟩
   ·rw [List.getElem?_set_ne (Ne.symm hj)] at e2
    obtain ⟨u',r',q⟩:=hl j y v' e1 e2 e3
    refine ⟨u',r',?_⟩
    rcases q with q | ⟨k,c',e,z'⟩
    ·exact .inl q
    ·refine .inr ⟨k,c',e,z'.sameBut hs ?_⟩
     rintro rfl
     exact hj (we3 hN e1 (I.ok.inj _ _ _ e hc ▸ hi))
  ·by_cases hcc:c'=c
   ·subst hcc; exact ⟨_,hc'⟩
   ·obtain ⟨w2,z2⟩:=I.cell y c' e
    exact ⟨w2,z2.sameBut hs hcc⟩
  ·obtain ⟨e,n,ne,nf,d⟩:=I.pin p hp
   refine ⟨(hs.2 p.1 ?_).trans e,n,ne,nf,d⟩
   intro q
   rw [q,hoc] at e
   have q':oc=p.2:=Option.some.inj e
   exact d w' (by rw [<- q']; exact hocd)
theorem za3 {M:Model} {A:Around} {E:Value->Shared->Prop} {i:Nat} {x:Str} {v:V} {u:Value} {Q:Unit->Shared->Prop} (I:Inv X pins σ H s) (hN:X.N.Nodup) (hi:X.N[i]?=some x) (hx:Loc X.env.scope x) (r:RelV v u)
    (h:∀ s',Inv X pins (σ.set i (some v)) H s'->Q () s') (hf:X.fn x=true \/ X.env.scope.names.lookup x=some .local:=by first | exact .inl rfl | exact .inr rfl | assumption):wpAny M A (storeName X.env x u) Q E s :=
 zi2 I hN hi hx r (λ s' I' _=>h s' I') hf
theorem Inv.call' {s':Shared} {ch:List Addr} (I:Inv X pins σ H s) (ho:s'.os=s.os) (u:Un (frs X.stack) ch H H' s.heap s'.heap) (hok:HOk X.prog X.w H' s'.heap) (hg:AllBare s'.gens)
    (hch:∀ b ∈ ch,(b ∈ X.ex \/ X.s₀.heap.objs.size<=b) /\ b ≠ X.env.locals /\ (∀ x c,X.env.cells.lookup x=some c->c ≠ b) /\ ∀ p ∈ X.pn ++ pins,p.1 ≠ b):Inv X pins σ H' s':=by
 obtain ⟨h',g',d',t',o'⟩:=s'
 have e:o'=s.os:=ho
 subst e
 exact I.call (g':=g') (t':=t') (d':=d') u hok hg hch
end
noncomputable abbrev XK:=Value->Option Addr->Hp->Prop
noncomputable abbrev St:=List (Option V)
noncomputable abbrev VK:=V->Hp->Prop
noncomputable abbrev TE:=St->Hp->VK->Prop
noncomputable abbrev TT:=St->Hp->(Bool->Hp->Prop)->Prop
noncomputable abbrev TA:=St->Hp->(List V->Hp->Prop)->Prop
structure Ends where
 nx:St->Hp->Prop
 rt:VK
 bk:St->Hp->Prop:=λ _ _=>False
 ct:St->Hp->Prop:=λ _ _=>False
noncomputable abbrev TS:=Ends->St->Hp->Prop
noncomputable def EP (X:Cx) (pins:List (Addr × Obj)) (σ:St) (Q:VK) (u:Value) (s':Shared):Prop:=∃ v H',Inv X pins σ H' s' /\ RelV v u /\ Q v H'
noncomputable def TP (X:Cx) (pins:List (Addr × Obj)) (σ:St) (Q:Bool->Hp->Prop) (b:Bool) (s':Shared):Prop:=∃ H',Inv X pins σ H' s' /\ Q b H'
noncomputable def AP (X:Cx) (pins:List (Addr × Obj)) (σ:St) (Q:List V->Hp->Prop) (us:List Value) (s':Shared):Prop:=∃ vs H',Inv X pins σ H' s' /\ Vals vs us /\ Q vs H'
noncomputable def SP (X:Cx) (pins:List (Addr × Obj)) (D:Ends) (f:Flow) (s':Shared):Prop :=
 match f with
 | .next=>∃ σ' H',Inv X pins σ' H' s' /\ D.nx σ' H'
 | .brk=>∃ σ' H',Inv X pins σ' H' s' /\ D.bk σ' H'
 | .cont=>∃ σ' H',Inv X pins σ' H' s' /\ D.ct σ' H'
 | .ret u=>∃ v σ' H',Inv X pins σ' H' s' /\ RelV v u /\ D.rt v H'
noncomputable def PE (X:Cx) (e:Expr) (t:TE):Prop :=
 ∀ (pins:List (Addr × Obj)) (s:Shared) (σ:St) (H:Hp) (Q:VK),Inv X pins σ H s->t σ H Q->wpAny (model X.prog X.w) X.A (eval e X.env) (EP X pins σ Q) X.xe s
noncomputable def PT (X:Cx) (e:Expr) (t:TT):Prop :=
 ∀ (pins:List (Addr × Obj)) (s:Shared) (σ:St) (H:Hp) (Q:Bool->Hp->Prop),Inv X pins σ H s->t σ H Q->wpAny (model X.prog X.w) X.A (isTrue e X.env (eval e X.env)) (TP X pins σ Q) X.xe s
noncomputable def PW (X:Cx) (e:Expr) (t:TT):Prop :=
 ∀ (whole:Sem Value) (pins:List (Addr × Obj)) (s:Shared) (σ:St) (H:Hp) (Q:Bool->Hp->Prop),Inv X pins σ H s->t σ H Q->wpAny (model X.prog X.w) X.A (isTrue e X.env whole) (TP X pins σ Q) X.xe s
theorem PW.pt {X:Cx} {e:Expr} {t:TT} (h:PW X e t):PT X e t:=h _
noncomputable def PA (X:Cx) (es:List Expr) (t:TA):Prop :=
 ∀ (pos:Pos) (pins:List (Addr × Obj)) (s:Shared) (σ:St) (H:Hp) (Q:List V->Hp->Prop),Inv X pins σ H s->t σ H Q->wpAny (model X.prog X.w) X.A (spliced (backTo pos (starEach es X.env))) (AP X pins σ Q) X.xe s
noncomputable def PS (X:Cx) (st:Stmt) (t:TS):Prop :=
 ∀ (pins:List (Addr × Obj)) (s:Shared) (σ:St) (H:Hp) (D:Ends),Inv X pins σ H s->t D σ H->wpAny (model X.prog X.w) X.A (exec st X.env) (SP X pins D) X.xe s
noncomputable def PSs (X:Cx) (st:List Stmt) (t:TS):Prop :=
 ∀ (pins:List (Addr × Obj)) (s:Shared) (σ:St) (H:Hp) (D:Ends),Inv X pins σ H s->t D σ H->wpAny (model X.prog X.w) X.A (execs st X.env) (SP X pins D) X.xe s
theorem thn {α:Type} {t:Sem α} {Q Q':α->Shared->Prop} {M:Model} {A:Around} {E:Value->Shared->Prop} {s:Shared} (h:wpAny M A t Q E s) (hQ:∀ a s,Q a s->Q' a s):wpAny M A t Q' E s:=wpAny_mono h hQ λ _ _ x=>x
end L2
namespace L2
open PySem PySem.Spec PyProof.Rows
section
variable {X:Cx}
noncomputable def tVar (i:Nat):TE:=λ σ H Q=>∃ v,σ[i]?=some (some v) /\ Q v H
noncomputable def tC (v:V):TE:=λ _ H Q=>Q v H
theorem wh8 {i:Nat} {x:Str} {pos:Pos} (hN:X.N[i]?=some x) (hv:Vis X.env.scope x) (hd:(x == ("__debug__" : Str))=false:=by decide) (hcd:(x == ("__classdict__" : Str))=false:=by decide):PE X (.Name x pos) (tVar i):=by
 intro pins s σ H Q I h
 obtain ⟨v,e,h⟩:=h
 obtain ⟨m,hn,hl⟩:=I.loc
 obtain ⟨u,r,l⟩:=hl i x v hN e hv
 have fin:EP X pins σ Q u s:=⟨v,H,I,r,h⟩
 rcases l with ⟨hk,hm⟩ | ⟨hk,c,hc,hcell⟩
 ·exact wpAny_Name (wpAny_loadName_local I.ok.kind hk hn hm fin) hd
 ·rcases hk with hk | hk
  ·exact wpAny_Name (wpAny_loadName_cell I.ok.kind hk hc hcell fin) hd
  ·exact wpAny_Name (wpAny_loadName_free I.ok.kind hk hc hcell fin hcd) hd
theorem zj8 {i j pos}:PE X (.Constant (.int i) j pos) (tC (.int i)):=λ _ _ _ H _ I h=>wpAny_Constant_int ⟨.int i,H,I.tok _,⟨_,rfl⟩,h⟩
theorem yl9 {b j pos}:PE X (.Constant (.bool b) j pos) (tC (.bl b)):=λ _ _ _ H _ I h=>Constant_bool ⟨.bl b,H,I,rfl,h⟩
theorem xj8 {j pos}:PE X (.Constant .none j pos) (tC .non):=λ _ _ _ H _ I h=>Constant_none ⟨.non,H,I,rfl,h⟩
theorem yi8 {x j pos}:PE X (.Constant (.str x) j pos) (tC (.str x)):=λ _ _ _ H _ I h=>Calls.Constant_str ⟨.str x,H,I.tok _,⟨_,rfl⟩,h⟩
noncomputable def Gl (X:Cx) (x:Str):Prop:=X.env.kindOf x=some .globalImplicit
theorem zu2 {E:Value->Shared->Prop} {pins:List (Addr × Obj)} {s:Shared} {σ:St} {H:Hp} {x:Str} {u:Value} {pos:Pos} {Q:Value->Shared->Prop} (I:Inv X pins σ H s) (hg:Gl X x) (hm:X.mg x=some u) (h:Q u s)
    (hd:(x == ("__debug__" : Str))=false:=by decide):wpAny (model X.prog X.w) X.A (eval (.Name x pos) X.env) Q E s :=
 Calls.Name_function_global I.ok.kind hg (Calls.loadGlobal_global (by rw [I.ok.glob]; exact I.mod.glob.keeps I.bk) hm h) hd
theorem xx0 {E:Value->Shared->Prop} {pins:List (Addr × Obj)} {s:Shared} {σ:St} {H:Hp} {x:Str} {u:Value} {pos:Pos} {Q:Value->Shared->Prop} (I:Inv X pins σ H s) (hg:Gl X x) (hm:X.mg x=none) (hv:bootBuiltins x=some u) (h:Q u s)
    (hn:x ≠ "__name__" := by decide) (hd:(x == ("__debug__" : Str))=false:=by decide):wpAny (model X.prog X.w) X.A (eval (.Name x pos) X.env) Q E s:=by
 obtain ⟨mb,h1,h2⟩:=I.mod.blt
 exact Calls.Name_function_global I.ok.kind hg (Calls.loadGlobal_builtin (by rw [I.ok.glob]; exact I.mod.glob.keeps I.bk) hm (by rw [I.ok.blt]; exact h1.keeps I.bk) ((h2 x hn).trans hv) h) hd
theorem xr6 {x:Str} {v:V} {u:Value} {pos:Pos} (hg:Gl X x) (hm:X.mg x=some u) (r:RelV v u) (hd:(x == ("__debug__" : Str))=false:=by decide):PE X (.Name x pos) (tC v) :=
 λ _ _ _ H _ I h=>zu2 I hg hm ⟨v,H,I,r,h⟩ hd
theorem xs6 {x:Str} {v:V} {u:Value} {pos:Pos} (hg:Gl X x) (hm:X.mg x=none) (hv:bootBuiltins x=some u) (r:RelV v u) (hn:x ≠ "__name__" := by decide) (hd:(x == ("__debug__" : Str))=false:=by decide):PE X (.Name x pos) (tC v) :=
 λ _ _ _ H _ I h=>xx0 I hg hm hv ⟨v,H,I,r,h⟩ hn hd
variable {a b:Expr} {ta tb:TE} {pos:Pos}
noncomputable def tB (t:TE):TT:=λ σ H Q=>t σ H λ x H1=>∃ c,x=.bl c /\ Q c H1
theorem xf8 {e:Expr} {t:TE} (h:PE X e t) (he:∀ whole,isTrue e X.env whole=(do let v <- whole; standAt e.pos; holding [v] (truthy v)):=by intro _; rfl):PT X e (tB t):=by
 intro pins s σ H Q I hw
 refine isTrue_plain (thn (h pins s σ H _ I hw) λ v s1 ⟨x,H1,I1,r1,q1⟩=>?_) (he _)
 obtain ⟨d,rfl,q⟩:=q1
 cases r1
 exact wpAny_truthy_bool ⟨H1,I1,q⟩
variable {tA tB':TT} {rest:List Expr}
noncomputable def tAnd (t u:TT):TT:=λ σ H Q=>t σ H λ c H1=>if c=true then u σ H1 Q else Q false H1
noncomputable def tOr (t u:TT):TT:=λ σ H Q=>t σ H λ c H1=>if c=true then Q true H1 else u σ H1 Q
noncomputable def tNot (t:TT):TT:=λ σ H Q=>t σ H λ c H1=>Q (!c) H1
theorem wm6 (ha:PT X a tA):PW X (.BoolOp .And [a] pos) tA:=by
 intro wh pins s σ H Q I h
 refine isTrue_and (thn (ha pins s σ H Q I h) λ c s1 e=>?_)
 cases c with
 | true=>exact isTrue_and_nil e
 | false=>exact e
theorem ze8 (ha:PT X a tA):PW X (.BoolOp .Or [a] pos) tA:=by
 intro wh pins s σ H Q I h
 refine isTrue_or (thn (ha pins s σ H Q I h) λ c s1 e=>?_)
 cases c with
 | false=>exact isTrue_or_nil e
 | true=>exact e
theorem we8 (ha:PT X a tA) (hb:PW X (.BoolOp .And (b :: rest) pos) tB'):PW X (.BoolOp .And (a :: b :: rest) pos) (tAnd tA tB'):=by
 intro wh pins s σ H Q I h
 refine isTrue_and (thn (ha pins s σ H _ I h) λ c s1 ⟨H1,I1,q1⟩=>?_)
 cases c with
 | true=>exact hb wh pins s1 σ H1 Q I1 q1
 | false=>exact ⟨H1,I1,q1⟩
theorem xj9 (ha:PT X a tA) (hb:PW X (.BoolOp .Or (b :: rest) pos) tB'):PW X (.BoolOp .Or (a :: b :: rest) pos) (tOr tA tB'):=by
 intro wh pins s σ H Q I h
 refine isTrue_or (thn (ha pins s σ H _ I h) λ c s1 ⟨H1,I1,q1⟩=>?_)
 cases c with
 | true=>exact ⟨H1,I1,q1⟩
 | false=>exact hb wh pins s1 σ H1 Q I1 q1
theorem yf8 (ha:PT X a tA):PT X (.UnaryOp .Not a pos) (tNot tA):=by
 intro pins s σ H Q I h
 exact isTrue_not (ha pins s σ H (λ c H1=>Q (!c) H1) I h)
noncomputable def xa9 (ta tb:TE):TE:=λ σ H Q=>ta σ H λ x H1=>∃ c,x=.bl c /\ if c=true then tb σ H1 Q else Q (.bl false) H1
noncomputable def tOrV (ta tb:TE):TE:=λ σ H Q=>ta σ H λ x H1=>∃ c,x=.bl c /\ if c=true then Q (.bl true) H1 else tb σ H1 Q
noncomputable def xy8 (ta:TE):TE:=λ σ H Q=>ta σ H λ x H1=>∃ c,x=.bl c /\ Q (.bl (!c)) H1
theorem zi8 {op} {t:TE} (h:PE X a t):PE X (.BoolOp op [a] pos) t:=λ pins s σ H Q I hw=>BoolOp_one (h pins s σ H Q I hw)
theorem xk8 (ha:PE X a ta) (hb:PE X (.BoolOp .And (b :: rest) pos) tb):PE X (.BoolOp .And (a :: b :: rest) pos) (xa9 ta tb):=by
 intro pins s σ H Q I h
 refine BoolOp_and (thn (ha pins s σ H _ I h) λ v s1 ⟨x,H1,I1,r1,q1⟩=>?_)
 obtain ⟨c,rfl,q1⟩:=q1
 cases r1
 refine wpAny_truthy_bool ?_
 cases c with
 | true=>exact hb pins s1 σ H1 Q I1 q1
 | false=>exact ⟨.bl false,H1,I1,rfl,q1⟩
theorem yk9 (ha:PE X a ta) (hb:PE X (.BoolOp .Or (b :: rest) pos) tb):PE X (.BoolOp .Or (a :: b :: rest) pos) (tOrV ta tb):=by
 intro pins s σ H Q I h
 refine BoolOp_or (thn (ha pins s σ H _ I h) λ v s1 ⟨x,H1,I1,r1,q1⟩=>?_)
 obtain ⟨c,rfl,q1⟩:=q1
 cases r1
 refine wpAny_truthy_bool ?_
 cases c with
 | false=>exact hb pins s1 σ H1 Q I1 q1
 | true=>exact ⟨.bl true,H1,I1,rfl,q1⟩
theorem wi8 (ha:PE X a ta):PE X (.UnaryOp .Not a pos) (xy8 ta):=by
 intro pins s σ H Q I h
 refine UnaryOp_ (thn (ha pins s σ H _ I h) λ v s1 ⟨x,H1,I1,r1,q1⟩=>?_)
 obtain ⟨c,rfl,q1⟩:=q1
 cases r1
 exact not_of (wpAny_truthy_bool ⟨.bl (!c),H1,I1,rfl,q1⟩)
noncomputable def tIf (t:TT) (ta tb:TE):TE:=λ σ H Q=>t σ H λ c H1=>if c=true then ta σ H1 Q else tb σ H1 Q
theorem zg5 {c:Expr} (hc:PT X c tA) (ha:PE X a ta) (hb:PE X b tb):PE X (.IfExp c a b pos) (tIf tA ta tb):=by
 intro pins s σ H Q I h
 refine wpAny_IfExp (thn (hc pins s σ H _ I h) λ d s1 ⟨H1,I1,q1⟩=>?_)
 cases d with
 | true=>exact ha pins s1 σ H1 Q I1 q1
 | false=>exact hb pins s1 σ H1 Q I1 q1
end
end L2
namespace L2
open PySem PySem.Spec PyProof.Rows
noncomputable def SqL (K:PySem.W.Frag) (H:Hp) (a:Addr) (xs:List V):Prop :=
 Rd H a (.lst xs) ∨
  ∃ (o:Obj) (its:Array Value) (n:Nat),K.lookup a=some o /\ o.cls=.type "list" /\ o.dict=none /\ o.data=.seq its n /\ its.size<=sizeLine /\ Vals xs its.toList
noncomputable def SqT (K:PySem.W.Frag) (H:Hp) (a:Addr) (xs:List V):Prop :=
 Rd H a (.tup xs) ∨
  ∃ (o:Obj) (its:Array Value) (n:Nat),K.lookup a=some o /\ o.cls=.type "tuple" /\ o.data=.seq its n /\ its.size<=sizeLine /\ Vals xs its.toList
noncomputable def absV:Value->Option V
 | .none=>some .non
 | .bool b=>some (.bl b)
 | .int i _=>some (.int i)
 | .str x _=>some (.str x)
 | .bytes b _=>some (.byt b)
 | .float b _=>some (.flt b)
 | .ref a=>some (.ref a)
 | .type n=>some (.ty n)
 | _=>none
theorem RelV.abs {x:V} {u:Value} (r:RelV x u):absV u=some x:=by
 cases x with
 | non=>cases r; rfl
 | bl _=>cases r; rfl
 | int _=>obtain ⟨t,rfl⟩:=r; rfl
 | str _=>obtain ⟨t,rfl⟩:=r; rfl
 | byt _=>obtain ⟨t,rfl⟩:=r; rfl
 | flt _=>obtain ⟨t,rfl⟩:=r; rfl
 | ref _=>cases r; rfl
 | ty _=>cases r; rfl
theorem RelV.inj {x y:V} {u:Value} (r:RelV x u) (q:RelV y u):x=y:=Option.some.inj (r.abs.symm.trans q.abs)
theorem Vals.inj:∀ {xs ys:List V} {us:List Value},Vals xs us->Vals ys us->xs=ys
 | _,_,_,.nil,.nil=>rfl
 | _,_,_,.cons r t,.cons r' t'=>by rw [r.inj r',Vals.inj t t']
section
variable {X:Cx} {pins:List (Addr × Obj)} {σ:St} {H:Hp} {s:Shared} {a:Addr} {xs ys:List V}
theorem SqL.of {K:PySem.W.Frag} (h:H a=some (.lst xs)):SqL K H a xs:=.inl (.inl h)
theorem SqT.of {K:PySem.W.Frag} (h:H a=some (.tup xs)):SqT K H a xs:=.inl (.inl h)
theorem Inv.list (I:Inv X pins σ H s) (h:SqL X.K H a xs):∃ its:List Value,Vals xs its /\ PlainL s.heap a its.toArray /\ xs.length<=sizeLine:=by
 rcases h with h | ⟨o,its,n,hk,hc,hd,hs,hz,r⟩
 ·obtain ⟨z,its,n,r,e⟩:=h.ok I.hok
  exact ⟨its,r,⟨_,n,e,rfl,rfl,rfl⟩,z⟩
 ·refine ⟨its.toList,r,⟨o,n,I.kIn a o hk,hc,hd,by simpa using hs⟩,?_⟩
  have e:=r.length
  simp only [Array.length_toList] at e
  omega
theorem Inv.tuple (I:Inv X pins σ H s) (h:SqT X.K H a xs):∃ its:List Value,Vals xs its /\ IsTup s.heap a its.toArray /\ xs.length<=sizeLine:=by
 rcases h with h | ⟨o,its,n,hk,hc,hs,hz,r⟩
 ·obtain ⟨z,its,r,p⟩:=h.ok I.hok
  exact ⟨its,r,p,z⟩
 ·refine ⟨its.toList,r,⟨o,I.kIn a o hk,hc,n,by simpa using hs⟩,?_⟩
  have e:=r.length
  simp only [Array.length_toList] at e
  omega
theorem Inv.list_inj (I:Inv X pins σ H s) (h:SqL X.K H a xs) (h':SqL X.K H a ys):xs=ys:=by
 obtain ⟨its,r,⟨o,n,e,_,_,d⟩,_⟩:=I.list h
 obtain ⟨its',r',⟨o',n',e',_,_,d'⟩,_⟩:=I.list h'
 rw [e] at e'; cases e'
 rw [d] at d'
 injection d' with d1 _
 have:its=its':=by simpa using congrArg Array.toList d1
 subst this
 exact r.inj r'
theorem Inv.tuple_inj (I:Inv X pins σ H s) (h:SqT X.K H a xs) (h':SqT X.K H a ys):xs=ys:=by
 obtain ⟨its,r,⟨o,e,_,n,d⟩,_⟩:=I.tuple h
 obtain ⟨its',r',⟨o',e',_,n',d'⟩,_⟩:=I.tuple h'
 rw [e] at e'; cases e'
 rw [d] at d'
 injection d' with d1 _
 have:its=its':=by simpa using congrArg Array.toList d1
 subst this
 exact r.inj r'
end
noncomputable abbrev Cx.wish (X:Cx) (E:Value->Shared->Prop):Cx:={ X with xe:=E }
noncomputable abbrev Cx.nox (X:Cx):Cx:=X.wish λ _ _=>False
theorem Cx.Ok.wish {X:Cx} (ok:X.Ok) (E:Value->Shared->Prop):(X.wish E).Ok :=
 ⟨ok.mod,ok.kind,ok.glob,ok.blt,ok.above,ok.inj,ok.has,ok.cab,ok.hd,ok.frames,ok.stk,ok.exf,ok.bs,ok.bsz,ok.noex,ok.exfs,ok.funs,ok.frf⟩
theorem Cx.Ok.unwish {X:Cx} {E:Value->Shared->Prop} (ok:(X.wish E).Ok):X.Ok :=
 ⟨ok.mod,ok.kind,ok.glob,ok.blt,ok.above,ok.inj,ok.has,ok.cab,ok.hd,ok.frames,ok.stk,ok.exf,ok.bs,ok.bsz,ok.noex,ok.exfs,ok.funs,ok.frf⟩
section
variable {X:Cx} {pins:List (Addr × Obj)} {σ:St} {H:Hp} {s:Shared} {E:Value->Shared->Prop}
theorem Inv.wish (I:Inv X pins σ H s) (E:Value->Shared->Prop):Inv (X.wish E) pins σ H s:=⟨I.ok.wish E,I.os,I.bare,I.base,I.loc,I.cell,I.free,I.freeC,I.pin,I.hok,I.len⟩
theorem Inv.unwish (I:Inv (X.wish E) pins σ H s):Inv X pins σ H s:=⟨I.ok.unwish,I.os,I.bare,I.base,I.loc,I.cell,I.free,I.freeC,I.pin,I.hok,I.len⟩
theorem SP.unwish {D:Ends} {f:Flow} {s':Shared} (h:SP (X.wish E) pins D f s'):SP X pins D f s':=by
 cases f with
 | next=>obtain ⟨σ',H',I,q⟩:=h; exact ⟨σ',H',I.unwish,q⟩
 | brk=>obtain ⟨σ',H',I,q⟩:=h; exact ⟨σ',H',I.unwish,q⟩
 | cont=>obtain ⟨σ',H',I,q⟩:=h; exact ⟨σ',H',I.unwish,q⟩
 | ret u=>obtain ⟨v,σ',H',I,r,q⟩:=h; exact ⟨v,σ',H',I.unwish,r,q⟩
theorem PSs.nox {st:List Stmt} {t:TS} (h:PSs X.nox st t):PSs X st t:=λ pins s σ H D I hw =>
 wpAny_mono (h pins s σ H D (I.wish _) hw) (λ _ _ q=>q.unwish) λ _ _ z=>False.elim z
end
section
variable {X:Cx} {st:Stmt} {rest:List Stmt} {t u:TS} {e:Expr} {te:TE} {pos:Pos}
noncomputable def yy8:TS:=λ D σ H=>D.nx σ H
noncomputable def tSeq (t u:TS):TS:=λ D σ H=>t { D with nx:=u D } σ H
theorem wn6:PSs X [] yy8:=λ _ _ σ H _ I h=>wpAny_execs_nil ⟨σ,H,I,h⟩
theorem we5 (h1:PS X st t) (h2:PSs X rest u):PSs X (st :: rest) (tSeq t u):=by
 intro pins s σ H D I h
 refine wpAny_execs_cons (thn (h1 pins s σ H { D with nx:=u D } I h) λ f s1 q=>?_)
 cases f with
 | next =>
  obtain ⟨σ',H',I',q⟩:=q
  exact h2 pins s1 σ' H' D I' q
 | ret v=>exact q
 | brk=>exact q
 | cont=>exact q
theorem zn6 (h1:PS X st t):PSs X [st] t:=by
 intro pins s σ H D I h
 refine wpAny_execs_cons (thn (h1 pins s σ H D I h) λ f s1 q=>?_)
 cases f with
 | next=>exact wpAny_execs_nil q
 | ret v=>exact q
 | brk=>exact q
 | cont=>exact q
theorem Inv.quiet {pins:List (Addr × Obj)} {σ:St} {H:Hp} {s:Shared} (I:Inv X pins σ H s):interactive X.env=false:=by simp [interactive,I.ok.kind]
noncomputable def yz8 (te:TE):TS:=λ D σ H=>te σ H λ _ H1=>D.nx σ H1
theorem yo6 (he:PE X e te) (hs:swapsWith e none pos.line X.env=pure false:=by rfl):PS X (.Expr e pos) (yz8 te):=by
 intro pins s σ H D I h
 exact wpAny_Expr_any (thn (he pins s σ H _ I h) λ v s1 ⟨x,H1,I1,r1,q1⟩=>⟨σ,H1,I1,q1⟩) I.quiet hs
noncomputable def tRet (te:TE):TS:=λ D σ H=>te σ H D.rt
theorem zf8 (he:PE X e te):PS X (.Return (some e) pos) (tRet te):=by
 intro pins s σ H D I h
 exact wpAny_Return_some (thn (he pins s σ H _ I h) λ v s1 ⟨x,H1,I1,r1,q1⟩=>⟨x,σ,H1,I1,r1,q1⟩)
noncomputable def tIfS (c:TT) (t u:TS):TS:=λ D σ H=>c σ H λ b H1=>if b=true then t D σ H1 else u D σ H1
theorem yj9 {c:Expr} {a b:List Stmt} {tc:TT} (hc:PT X c tc) (ha:PSs X a t) (hb:PSs X b u):PS X (.If c a b pos) (tIfS tc t u):=by
 intro pins s σ H D I h
 refine wpAny_If (thn (hc pins s σ H _ I h) λ d s1 ⟨H1,I1,q1⟩=>?_)
 cases d with
 | true=>exact ha pins s1 σ H1 D I1 q1
 | false=>exact hb pins s1 σ H1 D I1 q1
noncomputable def xk7:TS:=λ _ _ _=>False
theorem xf5:PS X st xk7:=λ _ _ _ _ _ _ h=>h.elim
end
noncomputable abbrev TG:=V->St->Hp->(St->Hp->Prop)->Prop
noncomputable abbrev TGs:=List V->St->Hp->(St->Hp->Prop)->Prop
noncomputable def PG (X:Cx) (target:Expr) (t:TG):Prop :=
 ∀ (pins:List (Addr × Obj)) (s:Shared) (σ:St) (H:Hp) (v:V) (u:Value) (Q:St->Hp->Prop),Inv X pins σ H s->RelV v u->t v σ H Q ->
  wpAny (model X.prog X.w) X.A (assign target X.env u) (λ _ s'=>∃ σ' H',Inv X pins σ' H' s' /\ Q σ' H') X.xe s
noncomputable def PGs (X:Cx) (ts:List Expr) (t:TGs):Prop :=
 ∀ (pins:List (Addr × Obj)) (s:Shared) (σ:St) (H:Hp) (vs:List V) (us:List Value) (Q:St->Hp->Prop),Inv X pins σ H s->Vals vs us->t vs σ H Q ->
  wpAny (model X.prog X.w) X.A (assignInOrder ((assignEach ts X.env).map (·.2)) us) (λ _ s'=>∃ σ' H',Inv X pins σ' H' s' /\ Q σ' H') X.xe s
noncomputable abbrev TSet:=V->V->V->Hp->(Hp->Prop)->Prop
noncomputable def PSet (X:Cx) (t:TSet):Prop :=
 ∀ (pins:List (Addr × Obj)) (s:Shared) (σ:St) (H:Hp) (o i v:V) (ov iv u:Value) (Q:Hp->Prop),Inv X pins σ H s->RelV o ov->RelV i iv->RelV v u->t o i v H Q ->
  wpAny (model X.prog X.w) X.A (setItem ov iv u) (λ _ s'=>∃ H',Inv X pins σ H' s' /\ Q H') X.xe s
section
variable {X:Cx} {pos:Pos}
noncomputable def zx6 (i:Nat):TG:=λ v σ H Q=>Q (σ.set i (some v)) H
theorem zp6 {i:Nat} {x:Str} (hN:X.N.Nodup) (hi:X.N[i]?=some x) (hx:Loc X.env.scope x) (hf:X.fn x=true \/ X.env.scope.names.lookup x=some .local:=by first | exact .inl rfl | exact .inr rfl | assumption):PG X (.Name x pos) (zx6 i):=by
 intro pins s σ H v u Q I r h
 exact wpAny_assign_Name (za3 I hN hi hx r (λ s' I'=>⟨_,H,I',h⟩) hf)
noncomputable def gNil:TGs:=λ vs σ H Q=>vs=[] /\ Q σ H
noncomputable def zo9 (t:TG) (u:TGs):TGs:=λ vs σ H Q=>∃ v r,vs=v :: r /\ t v σ H λ σ' H'=>u r σ' H' Q
theorem yp6:PGs X [] gNil:=by
 intro pins s σ H vs us Q I r h
 obtain ⟨e,h⟩:=h
 subst e
 cases r
 exact assignInOrder_nil ⟨σ,H,I,h⟩
theorem zf5 {e:Expr} {es:List Expr} {t:TG} {u:TGs} (h1:PG X e t) (h2:PGs X es u)
    (hs:(assignEach (e :: es) X.env).map (·.2)=assign e X.env :: (assignEach es X.env).map (·.2):=by rfl):PGs X (e :: es) (zo9 t u):=by
 intro pins s σ H vs us Q I r h
 obtain ⟨v,vr,e1,h⟩:=h
 subst e1
 cases r with
 | cons r rr =>
  rw [hs]
  refine assignInOrder_cons (thn (h1 pins s σ H _ _ _ I r h) λ _ s1 ⟨σ1,H1,I1,q1⟩=>?_)
  exact h2 pins s1 σ1 H1 _ _ Q I1 rr q1
noncomputable def gTup (K:PySem.W.Frag) (n:Nat) (t:TGs):TG:=λ v σ H Q=>∃ a xs,v=.ref a /\ SqT K H a xs /\ xs.length=n /\ t xs σ H Q
theorem yh8 {es:List Expr} {k:Nat} {t:TGs} {n:Nat} (hc:X.calm=true) (h:PGs X es t)
    (hn:(assignEach es X.env).length=n:=by rfl) (hst:(assignEach es X.env).findIdx? (·.1)=none:=by rfl):PG X (.Tuple es k pos) (gTup X.K n t):=by
 intro pins s σ H v u Q I r hw
 obtain ⟨a,xs,e1,hq,hl,hw⟩:=hw
 subst e1
 cases r
 obtain ⟨its,rv,ht,hz⟩:=I.tuple hq
 refine assign_Tuple_tuple (I.ok.hd hc) ht (by simp [hn,<- hl,rv.length]) hst λ h' hx=>?_
 have I1:Inv X pins σ H { s with heap:=h' }:=I.kept (t':=s.toks) λ b o e=>hx b o (Nat.ne_of_lt (Heap.lt_size e)) e
 exact h pins _ σ H xs _ Q I1 (by simpa using rv) hw
noncomputable def gSub (to ti:TE) (t:TSet):TG:=λ v σ H Q=>to σ H λ o H1=>ti σ H1 λ i H2=>t o i v H2 λ H3=>Q σ H3
theorem zh8 {o i:Expr} {to ti:TE} {t:TSet} (ho:PE X o to) (hi:PE X i ti) (hs:PSet X t)
    (ha:∀ v,assign (.Subscript o i pos) X.env v=(do
     let ov <- holding [v] (eval o X.env)
     let iv <- holding [v,ov] (eval i X.env)
     standAt pos
     holding [v,ov,iv] (setItem ov iv v)
     release [v,ov,iv] []):=by intro _; rfl):PG X (.Subscript o i pos) (gSub to ti t):=by
 intro pins s σ H v u Q I r h
 rw [ha]
 refine wpAny_bind (wpAny_holding (thn (ho pins s σ H _ I h) λ ov s1 ⟨x,H1,I1,r1,q1⟩=>?_))
 refine wpAny_bind (wpAny_holding (thn (hi pins s1 σ H1 _ I1 q1) λ iv s2 ⟨y,H2,I2,r2,q2⟩=>?_))
 refine wpAny_bind (wpAny_standAt (wpAny_bind (wpAny_holding (thn (hs pins s2 σ H2 x y v ov iv u _ I2 r1 r2 r q2) λ _ s3 ⟨H3,I3,q3⟩=>?_))))
 exact wpAny_release ⟨σ,H3,I3,q3⟩
noncomputable def tAsg (te:TE) (g:TG):TS:=λ D σ H=>te σ H λ x H1=>g x σ H1 D.nx
theorem yg8 {tg e:Expr} {te:TE} {g:TG} (he:PE X e te) (hg:PG X tg g) (hs:swapsWithSole [tg] e pos.line X.env=pure false:=by rfl) (hw:swappedStores [tg] e X.env=pure none:=by rfl)
    (h1:(assignEach [tg] X.env).map (·.2)=[assign tg X.env]:=by rfl):PS X (.Assign [tg] e pos) (tAsg te g):=by
 intro pins s σ H D I h
 refine wpAny_Assign_stores (thn (he pins s σ H _ I h) λ v s1 ⟨x,H1,I1,r1,q1⟩=>?_) hs hw
 rw [h1]
 exact thn (hg pins s1 σ H1 x v _ I1 r1 q1) λ _ s2 q=>q
theorem yf4 {i:Nat} {x:Str} {e:Expr} {te:TE} {pos':Pos} (hN:X.N.Nodup) (hi:X.N[i]?=some x) (hx:Loc X.env.scope x) (he:PE X e te) (hs:swapsWith e (some (.Name x pos')) pos.line X.env=pure false:=by rfl) (hf:X.fn x=true \/ X.env.scope.names.lookup x=some .local:=by first | exact .inl rfl | exact .inr rfl | assumption) :
    PS X (.Assign [.Name x pos'] e pos) (tAsg te (zx6 i)):=by
 intro pins s σ H D I h
 refine wpAny_Assign_Name (thn (he pins s σ H _ I h) λ v s1 ⟨y,H1,I1,r1,q1⟩=>?_) hs
 exact za3 I1 hN hi hx r1 (λ s2 I2=>⟨_,H1,I2,q1⟩) hf
end
section
variable {X:Cx} {pos:Pos}
end
structure It where
 go:Nat->Hp->Prop
 yld:Nat->Hp->V->Hp->Prop
 stop:Nat->Hp->Prop
noncomputable def FpOk (X:Cx) (pins:List (Addr × Obj)) (H:Hp) (b:Addr):Prop :=
 H b=none /\ b ≠ X.env.locals /\ b ∉ X.fs /\ (b ∈ X.ex \/ X.s₀.heap.objs.size<=b) /\ (∀ x c,X.env.cells.lookup x=some c->c ≠ b) /\ ∀ p ∈ X.pn ++ pins,p.1 ≠ b
theorem Inv.fpOk {X:Cx} {pins:List (Addr × Obj)} {σ:St} {H H':Hp} {s:Shared} {b:Addr} (I:Inv X pins σ H s) (hb:s.heap.objs.size<=b) (hn:H' b=none):FpOk X pins H' b:=by
 refine ⟨hn,Nat.ne_of_gt (Nat.lt_of_lt_of_le I.lt hb),I.nofs hb,.inr (Nat.le_trans I.sz hb),λ x c e z=>?_,λ p hp z=>?_⟩
 ·obtain ⟨v,q⟩:=I.cell x c e
  exact absurd (Nat.lt_of_lt_of_le q.lt (by rw [z]; exact hb)) (Nat.lt_irrefl _)
 ·exact absurd (Nat.lt_of_lt_of_le (Heap.lt_size (I.pin p hp).1) (by rw [z]; exact hb)) (Nat.lt_irrefl _)
structure Turn (P:Program) (w:World) (K:PySem.W.Frag) (tg:Expr) (J:It) (fp:List Addr) (it:Addr) (tn:Nat->Heap->Prop):Prop where
 mem:it ∈ fp
 obj:∀ i h,tn i h->∀ b ∈ fp,∃ o,h.get? b=some o /\ ∀ v,o.data ≠ .cell v
 keep:∀ i h h',tn i h->(∀ b ∈ fp,∀ o,h.get? b=some o->h'.get? b=some o)->tn i h'
 item:∀ (X:Cx),X.prog=P->X.w=w->X.K=K->X.calm=true->∀ (i:Nat) (pins:List (Addr × Obj)) (s:Shared) (σ:St) (H:Hp) (E:Value->Shared->Prop),Inv X pins σ H s->(∀ b ∈ fp,FpOk X pins H b)->tn i s.heap->J.go i H ->
  wpAny (model P w) X.A (pyNext (.ref it)) (λ r s1=>∃ u,r=some u ∧
   wpAny (model P w) X.A (letOwnedTupleGo tg (.ref it) u) (λ _ s2=>∃ x H',Inv X pins σ H' s2 /\ RelV x u /\ J.yld i H x H' /\ tn (i + 1) s2.heap /\ ∀ b ∈ fp,H' b=none) E s1) E s
 done:∀ (X:Cx),X.prog=P->X.w=w->X.K=K->X.calm=true->∀ (i:Nat) (pins:List (Addr × Obj)) (s:Shared) (σ:St) (H:Hp) (E:Value->Shared->Prop),Inv X pins σ H s->(∀ b ∈ fp,FpOk X pins H b)->tn i s.heap->J.stop i H ->
  wpAny (model P w) X.A (pyNext (.ref it)) (λ r s1=>r=none /\ Inv X pins σ H s1) E s
 self:∀ (A:Around) (i:Nat) (s:Shared) (Q:Value->Shared->Prop) (E:Value->Shared->Prop),tn i s.heap->Q (.ref it) s->wpAny (model P w) A (pyIter (.ref it)) Q E s
noncomputable abbrev TI:=St->Hp->(It->Hp->Prop)->Prop
noncomputable def PIE (X:Cx) (pins:List (Addr × Obj)) (σ:St) (tg:Expr) (R:It->Hp->Prop) (itv:Value) (s2:Shared):Prop :=
 ∃ (it:Addr) (fp:List Addr) (tn:Nat->Heap->Prop) (J:It) (H':Hp),itv=.ref it /\ Inv X pins σ H' s2 /\ Turn X.prog X.w X.K tg J fp it tn /\ tn 0 s2.heap /\ (∀ b ∈ fp,FpOk X pins H' b) /\ R J H'
noncomputable def PI (X:Cx) (tg iter:Expr) (wi:TI):Prop :=
 ∀ (pins:List (Addr × Obj)) (s:Shared) (σ:St) (H:Hp) (R:It->Hp->Prop),Inv X pins σ H s->wi σ H R ->
  wpAny (model X.prog X.w) X.A (eval iter X.env) (λ v s1=>wpAny (model X.prog X.w) X.A (pyIter v) (PIE X pins σ tg R) X.xe s1) X.xe s
theorem xp4 {M:Model} {A:Around} {E:Value->Shared->Prop} {s:Shared} {tg:Expr} {it:Addr} {u:Value} {o:Obj} {n:String} {vs:Array Value} {Q:Unit->Shared->Prop} (ho:s.heap.get? it=some o) (hc:o.cls=.type n) (hd:o.data=.fields vs)
    (hn:["enumerate", "zip", "dict_itemiterator", "dict_reverseitemiterator", "odict_iterator", "itertools.zip_longest", "itertools.pairwise"].contains n=false) (hQ:Q () s):wpAny M A (letOwnedTupleGo tg (.ref it) u) Q E s:=by
 unfold letOwnedTupleGo
 cases tg <;> first
  | exact wpAny_pure hQ
  | (cases u <;> first
      | exact wpAny_pure hQ
      | (refine wpAny_bind (wpAny_load ho ?_)
         rw [hc,hd]
         show wpAny M A (if (["enumerate", "zip", "dict_itemiterator", "dict_reverseitemiterator", "odict_iterator", "itertools.zip_longest", "itertools.pairwise"].contains n && vs[0]? == some (rawInt _))=true then _ else _) Q E s
         rw [if_neg (by intro h; rw [hn,Bool.false_and] at h; cases h)]
         exact wpAny_pure hQ))
noncomputable def Itl (K:PySem.W.Frag) (a:Addr):It :=
 ⟨λ i H=>∃ xs x,SqL K H a xs /\ xs[i]?=some x,λ i H x H'=>H'=H /\ ∀ xs,SqL K H a xs->xs[i]?=some x,λ i H=>∃ xs,SqL K H a xs /\ xs.length<=i⟩
noncomputable def Itt (K:PySem.W.Frag) (a:Addr):It :=
 ⟨λ i H=>∃ xs x,SqT K H a xs /\ xs[i]?=some x,λ i H x H'=>H'=H /\ ∀ xs,SqT K H a xs->xs[i]?=some x,λ i H=>∃ xs,SqT K H a xs /\ xs.length<=i⟩
noncomputable def Itr (lo:Int) (n:Nat):It:=⟨λ i _=>i < n,λ i H x H'=>H'=H /\ x=.int (lo + i),λ i _=>n<=i⟩
theorem yu3 {P:Program} {w:World} {K:PySem.W.Frag} {tg:Expr} (a it:Addr):Turn P w K tg (Itl K a) [it] it (λ i h=>h.IsListIter it a i) where
 mem:=by simp
 obj:=λ i h st b hb=>by
  have e:b=it:=by simpa using hb
  subst e
  obtain ⟨o,e,c,d⟩:=st
  exact ⟨o,e,λ v z=>by rw [d] at z; cases z⟩
 keep:=λ i h h' st k=>st.at λ o e=>k it (by simp) o e
 item:=by
  intro X hP hw hK hc i pins s σ H E I hf st hg
  subst hP hw hK
  obtain ⟨xs,x,hq,hx⟩:=hg
  obtain ⟨its,rv,p,hz⟩:=I.list hq
  obtain ⟨u,hu,ru⟩:=rv.get hx
  obtain ⟨f0,f1,f2,f3,f4,f5⟩:=hf it (by simp)
  refine wpAny_pyNext_list_item st p.isList (x:=u) (by simpa using hu) λ h' st' sb=>?_
  have I1:Inv X pins σ H { s with heap:=h' }:=I.turned (t':=s.toks) (λ b o hb e=>(sb.2 b hb).trans e) f0 f1 f3 f4 f5
  obtain ⟨o,e,c,d⟩:=id st'
  exact ⟨u,rfl,xp4 (s:={ s with heap:=h' }) e c d (by decide) ⟨x,H,I1,ru,⟨rfl,λ ys hy=>by rw [I.list_inj hy hq]; exact hx⟩,st',λ b hb=>(hf b hb).1⟩⟩
 done:=by
  intro X hP hw hK hc i pins s σ H E I hf st hg
  subst hP hw hK
  obtain ⟨xs,hq,hx⟩:=hg
  obtain ⟨its,rv,p,hz⟩:=I.list hq
  obtain ⟨f0,f1,f2,f3,f4,f5⟩:=hf it (by simp)
  have hl:=rv.length
  exact wpAny_pyNext_list_end (I.ok.hd hc) st p.isList (by simp; omega) λ h' eb=>⟨rfl,I.turned (t':=s.toks) (λ b o hb e=>eb b o hb e) f0 f1 f3 f4 f5⟩
 self:=λ _ _ _ _ _ st h=>wpAny_pyIter_listiter st h
theorem wj3 {P:Program} {w:World} {K:PySem.W.Frag} {tg:Expr} (a it:Addr):Turn P w K tg (Itt K a) [it] it (λ i h=>h.IsTupleIter it a i) where
 mem:=by simp
 obj:=λ i h st b hb=>by
  have e:b=it:=by simpa using hb
  subst e
  obtain ⟨o,e,c,d⟩:=st
  exact ⟨o,e,λ v z=>by rw [d] at z; cases z⟩
 keep:=λ i h h' st k=>st.at λ o e=>k it (by simp) o e
 item:=by
  intro X hP hw hK hc i pins s σ H E I hf st hg
  subst hP hw hK
  obtain ⟨xs,x,hq,hx⟩:=hg
  obtain ⟨its,rv,p,hz⟩:=I.tuple hq
  obtain ⟨u,hu,ru⟩:=rv.get hx
  obtain ⟨f0,f1,f2,f3,f4,f5⟩:=hf it (by simp)
  refine wpAny_pyNext_tuple_item st (show s.heap.IsTuple a its.toArray from p) (x:=u) (by simpa using hu) λ h' st' sb=>?_
  have I1:Inv X pins σ H { s with heap:=h' }:=I.turned (t':=s.toks) (λ b o hb e=>(sb.2 b hb).trans e) f0 f1 f3 f4 f5
  obtain ⟨o,e,c,d⟩:=id st'
  exact ⟨u,rfl,xp4 (s:={ s with heap:=h' }) e c d (by decide) ⟨x,H,I1,ru,⟨rfl,λ ys hy=>by rw [I.tuple_inj hy hq]; exact hx⟩,st',λ b hb=>(hf b hb).1⟩⟩
 done:=by
  intro X hP hw hK hc i pins s σ H E I hf st hg
  subst hP hw hK
  obtain ⟨xs,hq,hx⟩:=hg
  obtain ⟨its,rv,p,hz⟩:=I.tuple hq
  obtain ⟨f0,f1,f2,f3,f4,f5⟩:=hf it (by simp)
  have hl:=rv.length
  exact wpAny_pyNext_tuple_end (I.ok.hd hc) st (show s.heap.IsTuple a its.toArray from p) (by simp; omega) λ h' eb=>⟨rfl,I.turned (t':=s.toks) (λ b o hb e=>eb b o hb e) f0 f1 f3 f4 f5⟩
 self:=λ _ _ _ _ _ st h=>wpAny_pyIter_tupleiter st h
theorem yt1 {P:Program} {w:World} {K:PySem.W.Frag} {tg:Expr} (it:Addr) (lo:Int) (n:Nat):Turn P w K tg (Itr lo n) [it] it (λ i h=>IsRangeIter h it (lo + (i:Nat) * 1) ((n:Int) - (i:Nat)) 1) where
 mem:=by simp
 obj:=λ i h st b hb=>by
  have e:b=it:=by simpa using hb
  subst e
  exact ⟨_,st,λ v z=>by
   have z':Data.fields _=Data.cell v:=z
   cases z'⟩
 keep:=λ i h h' st k=>k it (by simp) _ st
 item:=by
  intro X hP hw hK hc i pins s σ H E I hf st hg
  subst hP hw hK
  obtain ⟨f0,f1,f2,f3,f4,f5⟩:=hf it (by simp)
  have W:=Walks.range (prog:=X.prog) (w:=X.w) (I.ok.hd hc) it lo 1 n
  refine W.item i s _ _ hg st λ v h' tk hv st' kk=>?_
  obtain ⟨t,rfl⟩:=hv
  have I1:Inv X pins σ H { s with heap:=h',toks:=tk }:=I.turned (λ b o hb e=>kk b o (by simpa using hb) e) f0 f1 f3 f4 f5
  refine ⟨_,rfl,xp4 (s:={ s with heap:=h',toks:=tk }) (n := "range_iterator") st' rfl rfl (by decide) ⟨.int (lo + i),H,I1,⟨t,?_⟩,⟨rfl,rfl⟩,st',λ b hb=>(hf b hb).1⟩⟩
  rw [Int.mul_one]
 done:=by
  intro X hP hw hK hc i pins s σ H E I hf st hg
  subst hP hw hK
  obtain ⟨f0,f1,f2,f3,f4,f5⟩:=hf it (by simp)
  exact wpAny_pyNext_range_end (I.ok.hd hc) st (by have:n<=i:=hg; omega) λ h' eb=>⟨rfl,I.turned (t':=s.toks) (λ b o hb e=>eb b o hb e) f0 f1 f3 f4 f5⟩
 self:=λ _ _ _ _ _ st h=>wpAny_pyIter_rangeiter st h
end L2
namespace L2
open PySem PySem.Spec PyProof.Rows
section
variable {X:Cx} {tg:Expr}
theorem ye5 {pins:List (Addr × Obj)} {σ:St} {H:Hp} {s:Shared} {R:It->Hp->Prop} {E:Value->Shared->Prop} {lo hi:Int} {t u v:Tok} {tk:Nat} (I:Inv X pins σ H s) (h1 : -(2 ^ 62)<=lo) (h2:lo < 2 ^ 62) (h3 : -(2 ^ 62)<=hi) (h4:hi < 2 ^ 62)
    (q:R (Itr lo (hi - lo).toNat) H):wpAny (model X.prog X.w) X.A (pyIter (.ref s.heap.objs.size)) (PIE X pins σ tg R) E { s with heap:=s.heap.push { cls:=.type "range",data:=.fields #[.int lo t,.int hi u,.int 1 v] },toks:=tk }:=by
 refine wpAny_pyIter_range (IsRange.new ..) (small_one h1 h2 h3 h4) ?_
 have I1:Inv X pins σ H { s with heap:=s.heap.push { cls:=.type "range",data:=.fields #[.int lo t,.int hi u,.int 1 v] },toks:=tk }:=I.kept λ b o e=>Heap.get?_push_of_some _ e
 refine ⟨(s.heap.push { cls:=.type "range",data:=.fields #[.int lo t,.int hi u,.int 1 v] }).objs.size,[(s.heap.push { cls:=.type "range",data:=.fields #[.int lo t,.int hi u,.int 1 v] }).objs.size],_,_,H,rfl,
  I1.kept (t':=tk) λ b o e=>Heap.get?_push_of_some _ e,yt1 _ lo (hi - lo).toNat,?_,λ b hb=>?_,q⟩
 ·have e1:lo + ((0:Nat):Int) * 1=lo:=by simp
  have e2:(((hi - lo).toNat:Nat):Int) - ((0:Nat):Int)=Builtin.Range.rangeSize lo hi 1:=by rw [rangeSize_one]; split <;> omega
  show IsRangeIter _ _ (lo + ((0:Nat):Int) * 1) ((((hi - lo).toNat:Nat):Int) - ((0:Nat):Int)) 1
  rw [e1,e2]
  exact Heap.get?_push_size _ rfl
 ·have e:b=(s.heap.push { cls:=.type "range",data:=.fields #[.int lo t,.int hi u,.int 1 v] }).objs.size:=by simpa using hb
  subst e
  exact I1.fpOk (Nat.le_refl _) (I1.hok.fresh (Nat.le_refl _))
noncomputable def xo9 (ta:TA):TI:=λ σ H R=>ta σ H λ vs H1=>∃ j:Int,vs=[.int j] /\ -(2 ^ 62)<=j /\ j < 2 ^ 62 /\ R (Itr 0 j.toNat) H1
theorem yh4 {a:Expr} {ta:TA} {p pos:Pos} (hg:Gl X "range") (hm:X.mg "range" = none) (ha:PA X [a] ta) (hs:starEach [a] X.env=[(false,eval a X.env)]:=by rfl):PI X tg (.Call (.Name "range" p) [a] [] pos) (xo9 ta):=by
 intro pins s σ H R I h
 refine Call_ (xx0 I hg hm boot_range (PyProof.Rows.callWith_type1 (thn (ha pos pins s σ H _ I h) λ us s1 ⟨vs,H1,I1,r1,q1⟩=>?_) hs rfl))
 obtain ⟨j,e,q1,q2,q⟩:=q1
 subst e
 cases r1 with
 | cons r rr =>
  cases rr
  obtain ⟨t,rfl⟩:=r
  exact call_range_1 (ye5 I1 (by omega) (by omega) q1 q2 (by simpa using q))
noncomputable def tFor (wi:TI) (g:TG) (tb:TS):TS:=λ D σ H=>wi σ H λ J H1=>∃ W:Nat->Nat->St->Hp->Prop,(∃ m,W 0 m σ H1) /\ ∀ i m σ H,W i m σ H ->
 (J.stop i H /\ D.nx σ H) \/ (J.go i H /\ ∃ N:St->Hp->Prop,(∀ σ' H',N σ' H'->∃ m',m' < m /\ W (i + 1) m' σ' H') /\ ∀ x H',J.yld i H x H'->g x σ H' λ σ2 H2=>tb { D with nx:=N,ct:=N,bk:=D.nx } σ2 H2)
noncomputable def xw1 (fp:List Addr) (h:Heap):List (Addr × Obj):=fp.filterMap λ b=>(h.get? b).map λ o=>(b,o)
theorem yp0 {fp:List Addr} {h:Heap} {b:Addr} {o:Obj} (hb:b ∈ fp) (e:h.get? b=some o):(b,o) ∈ xw1 fp h:=List.mem_filterMap.mpr ⟨b,hb,by rw [e]; rfl⟩
theorem yj4 {fp:List Addr} {h:Heap} {p:Addr × Obj} (hp:p ∈ xw1 fp h):p.1 ∈ fp /\ h.get? p.1=some p.2:=by
 obtain ⟨b,hb,e⟩:=List.mem_filterMap.mp hp
 cases q:h.get? b with
 | none=>rw [q] at e; cases e
 | some o =>
  rw [q] at e
  have e':(b,o)=p:=Option.some.inj e
  subst e'
  exact ⟨hb,q⟩
theorem Inv.pinned {pins:List (Addr × Obj)} {σ:St} {H:Hp} {s:Shared} {fp:List Addr} (I:Inv X pins σ H s) (hf:∀ b ∈ fp,FpOk X pins H b) (ho:∀ b ∈ fp,∃ o,s.heap.get? b=some o /\ ∀ v,o.data ≠ .cell v):Inv X (pins ++ xw1 fp s.heap) σ H s :=
 I.pins_of λ p hp=>(List.mem_append.mp hp).elim (λ z=>I.pin p (List.mem_append_right _ z)) λ z=>by
  obtain ⟨hb,e⟩:=yj4 z
  obtain ⟨f0,f1,f2,_⟩:=hf p.1 hb
  obtain ⟨o,e',d⟩:=ho p.1 hb
  rw [e] at e'; cases e'
  exact ⟨e,f0,f1,f2,d⟩
theorem Inv.unpinned {pins pl:List (Addr × Obj)} {σ:St} {H:Hp} {s:Shared} (I:Inv X (pins ++ pl) σ H s):Inv X pins σ H s:=I.pins_of λ p hp=>I.pin p (List.mem_append_right _ (List.mem_append_left _ hp))
theorem wf8 {iter:Expr} {body:List Stmt} {wi:TI} {g:TG} {tb:TS} {pos:Pos} (hp:PassesOwn (model X.prog X.w) X.A X.env X.xe) (hc:X.calm=true) (hi:PI X tg iter wi) (hg:PG X tg g) (hb:PSs X body tb)
    (hs:∀ x,foldedSetIterable iter X.env x=pure x:=by intro _; rfl):PS X (.For tg iter body [] pos) (tFor wi g tb):=by
 intro pins s σ H D I h
 refine wpAny_For (thn (hi pins s σ H _ I h) λ v s1 h1=>thn h1 λ itv s2 h2=>?_) hs
 obtain ⟨it,fp,tn,J,H2,e,I2,T,st2,f2,W,⟨m0,w0⟩,turn⟩:=h2
 subst e
 have stat:∀ {H':Hp},(∀ b ∈ fp,H' b=none)->∀ b ∈ fp,FpOk X pins H' b:=λ hn b hb=>⟨hn b hb,(f2 b hb).2⟩
 refine codeAny_forLoop_any (λ n s'=>∃ i σ' H',Inv X pins σ' H' s' /\ tn i s'.heap /\ (∀ b ∈ fp,H' b=none) /\ W i n σ' H') ?_ m0 ⟨0,σ,H2,I2,st2,λ b hb=>(f2 b hb).1,w0⟩
 rintro n s3 ⟨i,σ3,H3,I3,st3,fr3,w3⟩
 rcases turn i n σ3 H3 w3 with ⟨stop,qn⟩ | ⟨go,N,hN,step⟩
 ·refine wpAny_passesOwn hp (thn (T.done X rfl rfl rfl hc i pins s3 σ3 H3 X.xe I3 (stat fr3) st3 stop) λ r s4 ⟨hr,I4⟩=>?_)
  subst hr
  exact wpAny_execs_nil ⟨σ3,H3,I4,qn⟩
 ·refine wpAny_passesOwn hp (thn (T.item X rfl rfl rfl hc i pins s3 σ3 H3 X.xe I3 (stat fr3) st3 go) λ r s4 ⟨u,hr,h4⟩=>?_)
  subst hr
  refine wpAny_passesOwn hp (thn h4 λ _ s5 ⟨x,H5,I5,r5,y5,st5,fr5⟩=>?_)
  have I5':=I5.pinned (stat fr5) (T.obj _ _ st5)
  refine wpAny_passesOwn hp (thn (hg _ s5 σ3 H5 x u _ I5' r5 (step x H5 y5)) λ _ s6 ⟨σ6,H6,I6,q6⟩=>?_)
  refine wpAny_passesOwn hp (thn (hb _ s6 σ6 H6 _ I6 q6) λ f s7 q7=>?_)
  have again:∀ {σ7:St} {H7:Hp},Inv X (pins ++ xw1 fp s5.heap) σ7 H7 s7->N σ7 H7->∃ m,m < n /\ ∃ i σ' H',Inv X pins σ' H' s7 /\ tn i s7.heap /\ (∀ b ∈ fp,H' b=none) /\ W i m σ' H':=λ {σ7 H7} I7 n7=>by
   obtain ⟨m',hm,w7⟩:=hN σ7 H7 n7
   refine ⟨m',hm,i + 1,σ7,H7,I7.unpinned,T.keep _ _ _ st5 λ b hb o e=>(I7.pin (b,o) (List.mem_append_right _ (List.mem_append_right _ (yp0 hb e)))).1,λ b hb=>?_,w7⟩
   obtain ⟨o,e,d⟩:=T.obj _ _ st5 b hb
   exact (I7.pin (b,o) (List.mem_append_right _ (List.mem_append_right _ (yp0 hb e)))).2.1
  cases f with
  | next=>obtain ⟨σ7,H7,I7,n7⟩:=q7; exact again I7 n7
  | cont=>obtain ⟨σ7,H7,I7,n7⟩:=q7; exact again I7 n7
  | brk=>obtain ⟨σ7,H7,I7,q7⟩:=q7; exact ⟨σ7,H7,I7.unpinned,q7⟩
  | ret v=>obtain ⟨x7,σ7,H7,I7,r7,q7⟩:=q7; exact ⟨x7,σ7,H7,I7.unpinned,r7,q7⟩
end
end L2
namespace L2
open PySem PySem.Spec PyProof.Rows
noncomputable abbrev R2:=V->V->Hp->VK->Prop
noncomputable def OpR (X:Cx) (f:Value->Value->Sem Value) (r:R2):Prop :=
 ∀ (pins:List (Addr × Obj)) (s:Shared) (σ:St) (H:Hp) (x y:V) (v u:Value) (Q:VK),Inv X pins σ H s->RelV x v->RelV y u->r x y H Q ->
  wpAny (model X.prog X.w) X.A (f v u) (EP X pins σ Q) X.xe s
noncomputable def UnR (X:Cx) (f:Value->Sem Value) (r:V->Hp->VK->Prop):Prop :=
 ∀ (pins:List (Addr × Obj)) (s:Shared) (σ:St) (H:Hp) (x:V) (v:Value) (Q:VK),Inv X pins σ H s->RelV x v->r x H Q ->
  wpAny (model X.prog X.w) X.A (f v) (EP X pins σ Q) X.xe s
noncomputable def CallR (X:Cx) (f:Value) (r:List V->Hp->VK->Prop):Prop :=
 ∀ (pins:List (Addr × Obj)) (s:Shared) (σ:St) (H:Hp) (xs:List V) (us:List Value) (Q:VK),Inv X pins σ H s->Vals xs us->r xs H Q ->
  wpAny (model X.prog X.w) X.A (call f us) (EP X pins σ Q) X.xe s
noncomputable def tOp (r:R2) (ta tb:TE):TE:=λ σ H Q=>ta σ H λ x H1=>tb σ H1 λ y H2=>r x y H2 Q
noncomputable def tUn (r:V->Hp->VK->Prop) (ta:TE):TE:=λ σ H Q=>ta σ H λ x H1=>r x H1 Q
noncomputable def rI (C:Int->Int->Prop) (g:Int->Int->V):R2:=λ x y H Q=>∃ i j,x=.int i /\ y=.int j /\ C i j /\ Q (g i j) H
noncomputable def rI0 (g:Int->Int->V):R2:=λ x y H Q=>∃ i j,x=.int i /\ y=.int j /\ Q (g i j) H
noncomputable def rU (g:Int->V):V->Hp->VK->Prop:=λ x H Q=>∃ i,x=.int i /\ Q (g i) H
section
variable {X:Cx} {a b c:Expr} {ta tb tc:TE} {pos:Pos}
theorem binT (ha:PE X a ta) (hb:PE X b tb) {pins:List (Addr × Obj)} {s:Shared} {σ:St} {H:Hp} {R:V->V->Hp->Prop} (I:Inv X pins σ H s)
    (h:ta σ H λ x H1=>tb σ H1 λ y H2=>R x y H2) {Q:Value->Shared->Prop} {f:Value->Value->Sem Value}
    (hf:∀ v u s2 x y H2,Inv X pins σ H2 s2->RelV x v->RelV y u->R x y H2->wpAny (model X.prog X.w) X.A (f v u) Q X.xe s2) :
    wpAny (model X.prog X.w) X.A (eval a X.env) (λ v s₁=>wpAny (model X.prog X.w) X.A (eval b X.env) (λ u s₂=>wpAny (model X.prog X.w) X.A (f v u) Q X.xe s₂) X.xe s₁) X.xe s:=by
 refine thn (ha pins s σ H _ I h) λ v s1 ⟨x,H1,I1,r1,q1⟩=>?_
 refine thn (hb pins s1 σ H1 _ I1 q1) λ u s2 ⟨y,H2,I2,r2,q2⟩=>?_
 exact hf v u s2 x y H2 I2 r1 r2 q2
theorem zk9 {op:Operator} {r:R2} (ho:OpR X (binaryOp op) r) (ha:PE X a ta) (hb:PE X b tb):PE X (.BinOp a op b pos) (tOp r ta tb):=by
 intro pins s σ H Q I h
 exact wpAny_BinOp (binT ha hb I h λ v u s2 x y H2 I2 rx ry q=>ho pins s2 σ H2 x y v u Q I2 rx ry q)
theorem xk9 {op:UnaryOp} {r:V->Hp->VK->Prop} (ho:UnR X (unaryOp op) r) (ha:PE X a ta):PE X (.UnaryOp op a pos) (tUn r ta):=by
 intro pins s σ H Q I h
 exact UnaryOp_ (thn (ha pins s σ H _ I h) λ v s1 ⟨x,H1,I1,r1,q1⟩=>ho pins s1 σ H1 x v Q I1 r1 q1)
theorem opI {f:Value->Value->Sem Value} {C:Int->Int->Prop} {g:Int->Int->Int}
    (rule:∀ (i j:Int) (t u:Tok) (s:Shared) (Q:Value->Shared->Prop) (E:Value->Shared->Prop),C i j->Q (.int (g i j) s.toks) { s with toks:=s.toks + 1 }->wpAny (model X.prog X.w) X.A (f (.int i t) (.int j u)) Q E s) :
    OpR X f (rI C λ i j=>.int (g i j)):=by
 intro pins s σ H x y v u Q I rx ry h
 obtain ⟨i,j,rfl,rfl,hc,q⟩:=h
 obtain ⟨t,rfl⟩:=rx
 obtain ⟨t',rfl⟩:=ry
 exact rule i j t t' s _ _ hc ⟨.int (g i j),H,I.tok _,⟨_,rfl⟩,q⟩
theorem opI0 {f:Value->Value->Sem Value} {g:Int->Int->Int}
    (rule:∀ (i j:Int) (t u:Tok) (s:Shared) (Q:Value->Shared->Prop) (E:Value->Shared->Prop),Q (.int (g i j) s.toks) { s with toks:=s.toks + 1 }->wpAny (model X.prog X.w) X.A (f (.int i t) (.int j u)) Q E s) :
    OpR X f (rI0 λ i j=>.int (g i j)):=by
 intro pins s σ H x y v u Q I rx ry h
 obtain ⟨i,j,rfl,rfl,q⟩:=h
 obtain ⟨t,rfl⟩:=rx
 obtain ⟨t',rfl⟩:=ry
 exact rule i j t t' s _ _ ⟨.int (g i j),H,I.tok _,⟨_,rfl⟩,q⟩
theorem opB0 {f:Value->Value->Sem Value} {g:Int->Int->Bool}
    (rule:∀ (i j:Int) (t u:Tok) (s:Shared) (Q:Value->Shared->Prop) (E:Value->Shared->Prop),Q (.bool (g i j)) s->wpAny (model X.prog X.w) X.A (f (.int i t) (.int j u)) Q E s) :
    OpR X f (rI0 λ i j=>.bl (g i j)):=by
 intro pins s σ H x y v u Q I rx ry h
 obtain ⟨i,j,rfl,rfl,q⟩:=h
 obtain ⟨t,rfl⟩:=rx
 obtain ⟨t',rfl⟩:=ry
 exact rule i j t t' s _ _ ⟨.bl (g i j),H,I,rfl,q⟩
noncomputable def CPow (i j:Int):Prop:=0<=j /\ j<=1000000 /\ i.natAbs < 2 ^ 64
noncomputable def CMul (i j:Int):Prop:=(-(2 ^ 64) < i /\ i < 2 ^ 64) \/ (-(2 ^ 64) < j /\ j < 2 ^ 64)
theorem CMul.ok {i j:Int} (h:CMul i j):IntMulOk i j:=by
 rcases h with ⟨h1,h2⟩ | ⟨h1,h2⟩
 ·exact .of_left (intBits_le_64 h1 h2)
 ·exact .of_right (intBits_le_64 h1 h2)
theorem op_add:OpR X (binaryOp .Add) (rI0 λ i j=>.int (i + j)):=opI0 λ _ _ _ _ _ _ _ q=>add_int q
theorem zk8:OpR X (binaryOp .Sub) (rI0 λ i j=>.int (i - j)):=opI0 λ _ _ _ _ _ _ _ q=>sub_int q
theorem zl8:OpR X (binaryOp .Mod) (rI (λ _ j=>0 < j) λ i j=>.int (i % j)):=opI λ i j _ _ _ _ _ hc q=>by
 have h1:(0:Int) < j:=hc
 exact mod_int' (by omega) (by rw [Int.fmod_eq_emod_of_nonneg i (by omega)]; exact q)
theorem xl8:OpR X (binaryOp .Pow) (rI CPow λ i j=>.int (i ^ j.toNat)):=opI λ _ _ _ _ _ _ _ hc q=>pow_int_small hc.1 hc.2.1 hc.2.2 q
theorem unI {f:Value->Sem Value} {g:Int->Int}
    (rule:∀ (i:Int) (t:Tok) (s:Shared) (Q:Value->Shared->Prop) (E:Value->Shared->Prop),Q (.int (g i) s.toks) { s with toks:=s.toks + 1 }->wpAny (model X.prog X.w) X.A (f (.int i t)) Q E s) :
    UnR X f (rU λ i=>.int (g i)):=by
 intro pins s σ H x v Q I rx h
 obtain ⟨i,rfl,q⟩:=h
 obtain ⟨t,rfl⟩:=rx
 exact rule i t s _ _ ⟨.int (g i),H,I.tok _,⟨_,rfl⟩,q⟩
theorem xg7:UnR X (unaryOp .USub) (rU λ i=>.int (-i)):=unI λ _ _ _ _ _ q=>neg_int q
end
noncomputable def scal:V->V->Bool
 | .non,.non=>true | .non,.int _=>true | .int _,.non=>true | .non,.bl _=>true | .bl _,.non=>true | .non,.str _=>true | .str _,.non=>true
 | .int _,.int _=>true | .bl _,.bl _=>true | .str _,.str _=>true | .byt _,.byt _=>true
 | .int _,.str _=>true | .str _,.int _=>true | .bl _,.str _=>true | .str _,.bl _=>true
 | _,_=>false
noncomputable def rEq:R2:=λ x y H Q=>scal x y=true /\ Q (.bl (decide (x=y))) H
noncomputable def rNe:R2:=λ x y H Q=>scal x y=true /\ Q (.bl (!decide (x=y))) H
theorem wr4 {i j:Int}:decide (V.int i=V.int j)=(i == j):=by
 rw [Bool.eq_iff_iff]
 simp
theorem xy5 {i j:Bool}:decide (V.bl i=V.bl j)=(i == j):=by
 rw [Bool.eq_iff_iff]
 simp
theorem zr4 {i j:Str}:decide (V.str i=V.str j)=(i == j):=by
 rw [Bool.eq_iff_iff]
 simp
theorem xs4 {i j:Array UInt8}:decide (V.byt i=V.byt j)=(i.toList == j.toList):=by
 rw [Bool.eq_iff_iff]
 cases i
 cases j
 simp
section
variable {X:Cx} {a b c:Expr} {ta tb tc:TE} {pos:Pos}
theorem zh0 {pins:List (Addr × Obj)} {σ:St} {H:Hp} {s:Shared} {Q:VK} {k k':Bool} (I:Inv X pins σ H s) (q:Q (.bl k) H) (e:k=k'):EP X pins σ Q (.bool k') s:=by
 subst e
 exact ⟨.bl k,H,I,rfl,q⟩
theorem op_eq:OpR X (compareOp .Eq) rEq:=by
 intro pins s σ H x y v u Q I rx ry h
 obtain ⟨hs,q⟩:=h
 cases x with
 | non =>
  cases rx
  cases y with
  | non=>cases ry; exact PySem.EqNone.eq_none_none (zh0 I q (by simp))
  | bl j=>cases ry; exact PySem.EqNone.eq_none_bool (zh0 I q (by simp))
  | int j=>obtain ⟨t',rfl⟩:=ry; exact PySem.EqNone.eq_none_int (zh0 I q (by simp))
  | str j=>obtain ⟨t',rfl⟩:=ry; exact PySem.EqNone.eq_none_str (zh0 I q (by simp))
  | _=>exact absurd (show false=true from hs) Bool.false_ne_true
 | bl i =>
  cases rx
  cases y with
  | non=>cases ry; exact PySem.EqNone.eq_bool_none (zh0 I q (by simp))
  | bl j=>cases ry; exact eq_bool (zh0 I q xy5)
  | str j=>obtain ⟨t',rfl⟩:=ry; exact PySem.EqMixed.eq_bool_str (zh0 I q (by simp))
  | _=>exact absurd (show false=true from hs) Bool.false_ne_true
 | int i =>
  obtain ⟨t,rfl⟩:=rx
  cases y with
  | non=>cases ry; exact PySem.EqNone.eq_int_none (zh0 I q (by simp))
  | int j=>obtain ⟨t',rfl⟩:=ry; exact eq_int (zh0 I q wr4)
  | str j=>obtain ⟨t',rfl⟩:=ry; exact PySem.EqMixed.eq_int_str (zh0 I q (by simp))
  | _=>exact absurd (show false=true from hs) Bool.false_ne_true
 | str i =>
  obtain ⟨t,rfl⟩:=rx
  cases y with
  | non=>cases ry; exact PySem.EqNone.eq_str_none (zh0 I q (by simp))
  | bl j=>cases ry; exact PySem.EqMixed.eq_str_bool (zh0 I q (by simp))
  | int j=>obtain ⟨t',rfl⟩:=ry; exact PySem.EqMixed.eq_str_int (zh0 I q (by simp))
  | str j=>obtain ⟨t',rfl⟩:=ry; exact eq_str (zh0 I q zr4)
  | _=>exact absurd (show false=true from hs) Bool.false_ne_true
 | byt i =>
  obtain ⟨t,rfl⟩:=rx
  cases y with
  | byt j=>obtain ⟨t',rfl⟩:=ry; exact PySem.W.eq_bytes (zh0 I q xs4)
  | _=>exact absurd (show false=true from hs) Bool.false_ne_true
 | _=>cases y <;> exact absurd (show false=true from hs) Bool.false_ne_true
theorem op_ne:OpR X (compareOp .NotEq) rNe:=by
 intro pins s σ H x y v u Q I rx ry h
 obtain ⟨hs,q⟩:=h
 cases x with
 | non =>
  cases rx
  cases y with
  | non=>cases ry; exact PySem.EqNone.ne_none_none (zh0 I q (by simp))
  | bl j=>cases ry; exact PySem.EqNone.ne_none_bool (zh0 I q (by simp))
  | int j=>obtain ⟨t',rfl⟩:=ry; exact PySem.EqNone.ne_none_int (zh0 I q (by simp))
  | str j=>obtain ⟨t',rfl⟩:=ry; exact PySem.EqNone.ne_none_str (zh0 I q (by simp))
  | _=>exact absurd (show false=true from hs) Bool.false_ne_true
 | bl i =>
  cases rx
  cases y with
  | non=>cases ry; exact PySem.EqNone.ne_bool_none (zh0 I q (by simp))
  | bl j=>cases ry; exact ne_bool (zh0 I q (congrArg not xy5))
  | str j=>obtain ⟨t',rfl⟩:=ry; exact PySem.EqMixed.ne_bool_str (zh0 I q (by simp))
  | _=>exact absurd (show false=true from hs) Bool.false_ne_true
 | int i =>
  obtain ⟨t,rfl⟩:=rx
  cases y with
  | non=>cases ry; exact PySem.EqNone.ne_int_none (zh0 I q (by simp))
  | int j=>obtain ⟨t',rfl⟩:=ry; exact ne_int (zh0 I q (congrArg not wr4))
  | str j=>obtain ⟨t',rfl⟩:=ry; exact PySem.EqMixed.ne_int_str (zh0 I q (by simp))
  | _=>exact absurd (show false=true from hs) Bool.false_ne_true
 | str i =>
  obtain ⟨t,rfl⟩:=rx
  cases y with
  | non=>cases ry; exact PySem.EqNone.ne_str_none (zh0 I q (by simp))
  | bl j=>cases ry; exact PySem.EqMixed.ne_str_bool (zh0 I q (by simp))
  | int j=>obtain ⟨t',rfl⟩:=ry; exact PySem.EqMixed.ne_str_int (zh0 I q (by simp))
  | str j=>obtain ⟨t',rfl⟩:=ry; exact ne_str (zh0 I q (congrArg not zr4))
  | _=>exact absurd (show false=true from hs) Bool.false_ne_true
 | byt i =>
  obtain ⟨t,rfl⟩:=rx
  cases y with
  | byt j=>obtain ⟨t',rfl⟩:=ry; exact PySem.W.ne_bytes (zh0 I q (congrArg not xs4))
  | _=>exact absurd (show false=true from hs) Bool.false_ne_true
 | _=>cases y <;> exact absurd (show false=true from hs) Bool.false_ne_true
theorem zl9:OpR X (compareOp .Lt) (rI0 λ i j=>.bl (decide (i < j))):=opB0 λ _ _ _ _ _ _ _ q=>lt_int q
theorem wl9:OpR X (compareOp .LtE) (rI0 λ i j=>.bl (decide (i<=j))):=opB0 λ _ _ _ _ _ _ _ q=>le_int q
theorem xm9:OpR X (compareOp .Gt) (rI0 λ i j=>.bl (decide (j < i))):=opB0 λ _ _ _ _ _ _ _ q=>gt_int q
theorem ym9:OpR X (compareOp .GtE) (rI0 λ i j=>.bl (decide (j<=i))):=opB0 λ _ _ _ _ _ _ _ q=>ge_int q
theorem xj4:OpR X (compareOp .In) (λ x y H Q=>∃ i j,x=.str i /\ y=.str j /\ Q (.bl (!(Builtin.Str.occurrences j i 0 j.length 1).isEmpty)) H):=by
 intro pins s σ H x y v u Q I rx ry h
 obtain ⟨i,j,rfl,rfl,q⟩:=h
 obtain ⟨t,rfl⟩:=rx
 obtain ⟨t',rfl⟩:=ry
 exact in_str (zh0 I q rfl)
theorem wl8:OpR X (compareOp .Is) (λ x y H Q=>y=.non /\ Q (.bl (decide (x=.non))) H):=by
 intro pins s σ H x y v u Q I rx ry h
 obtain ⟨rfl,q⟩:=h
 cases ry
 refine is_none_gen (zh0 I q ?_)
 cases x <;> first
  | (cases rx; rfl)
  | (obtain ⟨t,rfl⟩:=rx; rfl)
theorem OpR.or {f:Value->Value->Sem Value} {r r':R2} (h:OpR X f r) (h':OpR X f r'):OpR X f (λ x y H Q=>r x y H Q \/ r' x y H Q):=by
 intro pins s σ H x y v u Q I rx ry q
 rcases q with q | q
 ·exact h pins s σ H x y v u Q I rx ry q
 ·exact h' pins s σ H x y v u Q I rx ry q
theorem wu5 (b:Expr) {op:CmpOp} (h:op ≠ .In:=by decide) (h2:op ≠ .NotIn:=by decide):behindInMarks op b=false:=by
 have e1:(op == CmpOp.In)=false:=by cases op <;> first | rfl | exact absurd rfl h
 have e2:(op == CmpOp.NotIn)=false:=by cases op <;> first | rfl | exact absurd rfl h2
 cases b <;> simp [behindInMarks,e1,e2]
theorem zr6 {op:CmpOp} {r:R2} (ho:OpR X (compareOp op) r) (ha:PE X a ta) (hb:PE X b tb) (hm:behindInMarks op b=false):PE X (.Compare a [op] [b] pos) (tOp r ta tb):=by
 intro pins s σ H Q I h
 exact wpAny_Compare1 (binT ha hb I h λ v u s2 x y H2 I2 rx ry q=>ho pins s2 σ H2 x y v u Q I2 rx ry q) hm
noncomputable def wj7 (t:TE):TT:=λ σ H Q=>t σ H λ x H'=>∃ k,x=.bl k /\ Q k H'
theorem yn6 {op:CmpOp} {r:R2} (ho:OpR X (compareOp op) r) (ha:PE X a ta) (hb:PE X b tb) (hm:behindInMarks op b=false):PT X (.Compare a [op] [b] pos) (wj7 (tOp r ta tb)):=by
 intro pins s σ H Q I h
 refine wpAny_isTrue_Compare1 (thn (ha pins s σ H _ I h) λ v s1 ⟨x,H1,I1,r1,q1⟩=>thn (hb pins s1 σ H1 _ I1 q1) λ u s2 ⟨y,H2,I2,r2,q2⟩ =>
  thn (ho pins s2 σ H2 x y v u _ I2 r1 r2 q2) λ c s3 ⟨z,H3,I3,r3,k,e,q3⟩=>?_) hm
 subst e
 cases r3
 exact wpAny_truthy_bool ⟨H3,I3,q3⟩
theorem ym2:(sizeLine:Nat) < 2 ^ 63:=by rw [sizeLine_eq]; decide
theorem zr3:OpR X (binaryOp .Add) (λ x y H Q=>∃ i j,x=.str i /\ y=.str j /\ i.length + j.length<=sizeLine /\ Q (.str (i ++ j)) H):=by
 intro pins s σ H x y v u Q I rx ry h
 obtain ⟨i,j,rfl,rfl,hz,q⟩:=h
 obtain ⟨t,rfl⟩:=rx
 obtain ⟨t',rfl⟩:=ry
 exact add_str (λ t' tk=>⟨.str (i ++ j),H,I.tok _,⟨_,rfl⟩,q⟩) hz
theorem yh2 {x:V} {us:List Value} (r:Vals [x] us):∃ u,us=[u] /\ RelV x u:=by
 cases r with
 | cons r1 r2=>cases r2; exact ⟨_,rfl,r1⟩
theorem xa6 {x y:V} {us:List Value} (r:Vals [x,y] us):∃ u w',us=[u,w'] /\ RelV x u /\ RelV y w':=by
 cases r with
 | cons r1 r2 =>
  cases r2 with
  | cons r3 r4=>cases r4; exact ⟨_,_,rfl,r1,r3⟩
theorem zn5:CallR X (.builtin "abs") (λ xs H Q=>∃ i,xs=[.int i] /\ Q (.int (if i < 0 then -i else i)) H):=by
 intro pins s σ H xs us Q I r h
 obtain ⟨i,rfl,q⟩:=h
 obtain ⟨u,rfl,t,rfl⟩:=yh2 r
 exact call_abs_int λ u tk=>⟨.int (if i < 0 then -i else i),H,I.tok _,⟨_,rfl⟩,q⟩
theorem xt4 (hc:X.calm=true):CallR X (.builtin "max") (λ xs H Q=>∃ i j,xs=[.int i,.int j] /\ Q (.int (if j > i then j else i)) H):=by
 intro pins s σ H xs us Q I r h
 obtain ⟨i,j,rfl,q⟩:=h
 obtain ⟨u,w',rfl,⟨t,rfl⟩,⟨t',rfl⟩⟩:=xa6 r
 refine max_two_ints (I.ok.hd hc) λ h' tk k=>⟨_,H,I.kept k,?_,q⟩
 by_cases hj:j > i
 ·rw [if_pos hj,if_pos hj]; exact ⟨_,rfl⟩
 ·rw [if_neg hj,if_neg hj]; exact ⟨_,rfl⟩
theorem ws4 (hc:X.calm=true):CallR X (.builtin "min") (λ xs H Q=>∃ i j,xs=[.int i,.int j] /\ Q (.int (if j < i then j else i)) H):=by
 intro pins s σ H xs us Q I r h
 obtain ⟨i,j,rfl,q⟩:=h
 obtain ⟨u,w',rfl,⟨t,rfl⟩,⟨t',rfl⟩⟩:=xa6 r
 refine min_two_ints (I.ok.hd hc) λ h' tk k=>⟨_,H,I.kept k,?_,q⟩
 by_cases hj:j < i
 ·rw [if_pos hj,if_pos hj]; exact ⟨_,rfl⟩
 ·rw [if_neg hj,if_neg hj]; exact ⟨_,rfl⟩
theorem call_int1:CallR X (.type "int") (λ xs H Q=>(∃ i,xs=[.int i] /\ Q (.int i) H) \/ ∃ k,xs=[.bl k] /\ Q (.int (if k then 1 else 0)) H):=by
 intro pins s σ H xs us Q I r h
 rcases h with ⟨i,rfl,q⟩ | ⟨k,rfl,q⟩
 ·obtain ⟨u,rfl,t,rfl⟩:=yh2 r
  exact call_int_int ⟨.int i,H,I,⟨_,rfl⟩,q⟩
 ·obtain ⟨u,rfl,r1⟩:=yh2 r
  cases r1
  exact call_int_bool ⟨.int (if k then 1 else 0),H,I.tok _,⟨_,rfl⟩,q⟩
end
end L2
namespace L2
open PySem PySem.Spec PyProof.Rows
structure ObjM (h:Heap) (x dx C:Addr) (mA:Str->Option Value):Prop where
 obj:h.get? x=some (PySem.W.instObj C dx)
 ns:h.Ns1 dx mA
 ne:dx ≠ x
theorem xm4 {h:Heap} {dx:Addr} {mA:Str->Option Value} (n:h.Ns1 dx mA):∃ od,h.get? dx=some od /\ ∀ name,PySem.W.lookIn name od=some (mA name):=by
 obtain ⟨o,es,ep,ho,hd,hk,_,hm⟩:=n
 refine ⟨o,ho,λ name=>?_⟩
 have e:=hm name
 unfold nsFind findBy at e
 rw [<- Array.find?_toList] at e
 unfold PySem.W.lookIn
 rw [hd]
 dsimp only
 split
 ·rename_i y q
  rw [q] at e
  exact congrArg some e
 ·rename_i q
  rw [q] at e
  have a:es.toList.any (·.refKey)=false:=by
   rw [List.any_eq_false]
   intro y hy
   obtain ⟨z,t,hkey⟩:=hk y (Array.mem_toList_iff.mp hy)
   simp [DictEntry.refKey,hkey]
  have a':¬ es.toList.any (·.refKey)=true:=by rw [a]; exact Bool.false_ne_true
  rw [if_neg a']
  exact congrArg some e
theorem ObjM.look {h:Heap} {x dx C:Addr} {mA:Str->Option Value} (I:ObjM h x dx C mA):∃ od,PySem.W.InstAt h x (PySem.W.instObj C dx) C (some od) /\ ∀ name,PySem.W.lookIn name od=some (mA name) :=
 let ⟨od,ho,hl⟩:=xm4 I.ns
 ⟨od,⟨I.obj,rfl,rfl,ho⟩,hl⟩
section
variable {prog:Program} {w:World} {A:Around} {E:Value->Shared->Prop} {s:Shared} {K:PySem.W.Frag} {x dx C f:Addr} {mA:Str->Option Value} {name:Str} {v:Value}
theorem yx6 {expr:Bool} {Q:Value->Shared->Prop} (X:K.In s.heap) (I:ObjM s.heap x dx C mA) (hg:PySem.W.plainGet K C name=true) (hh:PySem.W.hasDictIn K C=true)
    (ha:PySem.W.findIn K (.ref C) name=some none) (hv:mA name=some v) (hv':PySem.W.handedIn v=true) (h:Q v { s with toks:=s.toks + 1 }) :
    wpAny (model prog w) A (getAttr (.ref x) name expr) Q E s:=by
 obtain ⟨od,J,hl⟩:=I.look
 exact PySem.W.get_value X J (PySem.W.plainGet_of hg).1 (PySem.W.findObj_own hh ha rfl (by rw [hl,hv])) hv' h
theorem zm5 {pl:Sem Bool} {Q:Value × List Value->Shared->Prop} (X:K.In s.heap) (I:ObjM s.heap x dx C mA) (hg:PySem.W.plainGet K C name=true)
    (hf:PySem.W.findIn K (.ref C) name=some (some (.ref f))) (ht:PySem.W.isFn K (.ref f)=true) (hv:mA name=none) (h:Q (.ref f,[.ref x]) s) :
    wpAny (model prog w) A (getMethod (.ref x) name pl) Q E s:=by
 obtain ⟨od,J,hl⟩:=I.look
 exact PySem.W.method_fn X J (PySem.W.plainGet_of hg).1 (PySem.W.plainGet_of hg).2 hf (beq_iff_eq.mp ht) (by show (PySem.W.lookIn name od).map (·.isSome)=some false; rw [hl,hv]; rfl) h
theorem xi6 {ns:List Str} {Q:Unit->Shared->Prop} (X:K.In s.heap) (I:ObjM s.heap x dx C mA)
    (hs:PySem.W.findIn K (.ref C) "__setattr__" = some (some (.builtin "object.__setattr__"))) (hp:PySem.W.plainOver K C=true) (ht:PySem.W.takerIn K C name=some none) (hh:PySem.W.hasDictIn K C=true)
    (hw:PySem.Within mA ns) (hsz:ns.length<=sizeLine)
    (h:∀ h',ObjM h' x dx C (λ y=>if y=name then some v else mA y)->Heap.SameBut dx s.heap h'->Q () { s with heap:=h',toks:=s.toks + 2 }) :
    wpAny (model prog w) A (setAttr (.ref x) name v) Q E s:=by
 obtain ⟨od,J,hl⟩:=I.look
 refine PySem.W.set_plain X J hs (PySem.W.osa_open (s:={ s with toks:=s.toks + 1 }) (r:=none) X J hp ht λ b=>?_)
 obtain ⟨cd,hc,hd'⟩:=PySem.W.any_some hh
 have hx:s.heap.get? x=some ⟨.ref C,some dx,.plain,#[]⟩:=I.obj
 refine wpAny_bind (wpAny_pure (wpAny_bind (wpAny_bind (wpAny_loadPart hx (wpAny_bind (PySem.W.Looks.here (s:={ s with toks:=s.toks + 1 }) (PySem.W.looks_clsIn X hc) ?_))))))
 rw [hd']
 refine wpAny_pure (a:=some dx) (wpAny_bind (wpAny_pure (wpAny_bind ?_)))
 refine wpAny_nsSet1 (s:={ s with toks:=s.toks + 1 }) I.ns λ h' hn2 hs2=>?_
 obtain ⟨oD,esD,epD,hoD,hdD,hcD⟩:=hn2.count (PySem.Within.cons name v hw)
 refine wpAny_bind (wpAny_lookBehind hoD (by rw [hdD]; exact pastItsLine_dict (Nat.le_trans hcD (by rw [List.length_cons]; omega))) ?_)
 exact wpAny_pure (h _ ⟨(hs2.2 _ (Ne.symm I.ne)).trans I.obj,hn2,I.ne⟩ hs2)
theorem wi5 {R:Result->Shared->Prop} {vs:List Value} {kw:List (Str × Value)} (X:K.In s.heap) (hm:PySem.W.makesIn K C=true)
    (hi:PySem.W.findIn K (.ref C) "__init__" = some (some (.ref f))) (hf:PySem.W.typeIn K (.ref f)=some (.type "function"))
    (h:codeAny (model prog w) (A.under (.builtin "type.__call__" ⟨.ref C :: vs,kw⟩)) (.call (.ref f) ⟨.ref (s.heap.objs.size + 1) :: vs,kw⟩) (PySem.W.InitBack (s.heap.objs.size + 1) R)
     { s with heap:=(s.heap.push PySem.W.emptyDict).push (PySem.W.instObj C s.heap.objs.size) }) :
    codeAny (model prog w) A (.call (.ref C) ⟨vs,kw⟩) R s:=by
 obtain ⟨hh,g,d,t,os⟩:=s
 exact PySem.W.make_core (PySem.W.makes_of X hm) (PySem.W.looks_findIn X hi) (λ self=>PySem.W.bind_fn X self hf) (.inl rfl) h
end
noncomputable def putF (f:Str) (v:V):List (Str × V)->List (Str × V)
 | []=>[(f,v)]
 | (g,x) :: r=>if g=f then (g,v) :: r else (g,x) :: putF f v r
theorem wn1 (f g:Str) (v:V):∀ fs:List (Str × V),(putF f v fs).lookup g=if g=f then some v else fs.lookup g
 | []=>by
  show List.lookup g [(f,v)]=_
  by_cases h:g=f
  ·have hb:(g == f)=true:=beq_iff_eq.mpr h
   simp only [List.lookup,hb,if_pos h]
  ·have hb:(g == f)=false:=beq_eq_false_iff_ne.mpr h
   simp only [List.lookup,hb,if_neg h]
 | (k,x) :: r=>by
  have ih:=wn1 f g v r
  rw [show putF f v ((k,x) :: r)=(if k=f then (k,v) :: r else (k,x) :: putF f v r) from rfl]
  by_cases hk:k=f
  ·rw [if_pos hk]
   by_cases h:g=k
   ·have hb:(g == k)=true:=beq_iff_eq.mpr h
    simp only [List.lookup,hb,if_pos (h.trans hk)]
   ·have hb:(g == k)=false:=beq_eq_false_iff_ne.mpr h
    simp only [List.lookup,hb,if_neg (λ e:g=f=>h (e.trans hk.symm))]
  ·rw [if_neg hk]
   by_cases h:g=k
   ·have hb:(g == k)=true:=beq_iff_eq.mpr h
    simp only [List.lookup,hb,if_neg (λ e:g=f=>hk (h.symm.trans e))]
   ·have hb:(g == k)=false:=beq_eq_false_iff_ne.mpr h
    simp only [List.lookup,hb]
    exact ih
theorem zo1 (f:Str) (v:V):∀ fs:List (Str × V),f ∈ (putF f v fs).map (·.1) /\ ∀ g,g ∈ fs.map (·.1)->g ∈ (putF f v fs).map (·.1)
 | []=>⟨by simp [putF],λ g h=>by simp at h⟩
 | (k,x) :: r=>by
  obtain ⟨i1,i2⟩:=zo1 f v r
  rw [show putF f v ((k,x) :: r)=(if k=f then (k,v) :: r else (k,x) :: putF f v r) from rfl]
  by_cases hk:k=f
  ·rw [if_pos hk]
   subst hk
   exact ⟨by simp,λ g h=>by simpa using h⟩
  ·rw [if_neg hk]
   refine ⟨?_,λ g h=>?_⟩
   ·rw [List.map_cons]
    exact List.mem_cons_of_mem _ i1
   ·rw [List.map_cons] at h ⊢
    rcases List.mem_cons.mp h with e | e
    ·exact List.mem_cons.mpr (.inl e)
    ·exact List.mem_cons_of_mem _ (i2 g e)
theorem xo1 (f:Str) (v:V):∀ fs:List (Str × V),(putF f v fs).length<=fs.length + 1
 | []=>by simp [putF]
 | (k,x) :: r=>by
  have ih:=xo1 f v r
  rw [show putF f v ((k,x) :: r)=(if k=f then (k,v) :: r else (k,x) :: putF f v r) from rfl]
  by_cases hk:k=f
  ·rw [if_pos hk,List.length_cons,List.length_cons]; omega
  ·rw [if_neg hk,List.length_cons,List.length_cons]; omega
theorem RelO.some_of {v:V} {o:Option Value} (r:RelO (some v) o):∃ u,o=some u /\ RelV v u:=by
 cases o with
 | none=>exact (show False from r).elim
 | some u=>exact ⟨u,rfl,r⟩
theorem RelO.none_of {o:Option Value} (r:RelO none o):o=none:=by
 cases o with
 | none=>rfl
 | some u=>exact (show False from r).elim
theorem xo4 {v:V} {u:Value} (r:RelV v u):PySem.W.handedIn u=true:=by
 cases v with
 | non=>cases (show u=Value.none from r); rfl
 | bl b=>cases (show u=Value.bool b from r); rfl
 | int i=>obtain ⟨t,e⟩:=(show ∃ t,u=Value.int i t from r); cases e; rfl
 | str x=>obtain ⟨t,e⟩:=(show ∃ t,u=Value.str x t from r); cases e; rfl
 | byt b=>obtain ⟨t,e⟩:=(show ∃ t,u=Value.bytes b t from r); cases e; rfl
 | flt b=>obtain ⟨t,e⟩:=(show ∃ t,u=Value.float b t from r); cases e; rfl
 | ref a=>cases (show u=Value.ref a from r); rfl
 | ty n=>cases (show u=Value.type n from r); rfl
section
variable {P:Program} {w:World} {H H':Hp} {h h':Heap} {a C dx:Addr} {fs fs':List (Str × V)}
theorem xv2 (hok:HOk P w H h) (e:H a=some (.ins C dx fs)):∃ mA,ObjM h a dx C mA /\ (∀ f,RelO (fs.lookup f) (mA f)) /\ PySem.Within mA (fs.map (·.1)) /\ fs.length<=1000 /\ H dx=some (.own a):=by
 obtain ⟨d,z,ne,ob,mA,n,r,q⟩:=(show ObjOk P w H h a (.ins C dx fs) from hok a _ e)
 exact ⟨mA,⟨ob,n,ne⟩,r,q,z,d⟩
end
structure Cls (K:PySem.W.Frag) (C:Addr):Prop where
 pg:PySem.W.plainGet K C Str.empty=true
 hd:PySem.W.hasDictIn K C=true
 po:PySem.W.plainOver K C=true
 sa:PySem.W.findIn K (.ref C) "__setattr__" = some (some (.builtin "object.__setattr__"))
theorem Cls.get {K:PySem.W.Frag} {C:Addr} (c:Cls K C) (f:Str):PySem.W.plainGet K C f=true:=c.pg
noncomputable def NoAttr (K:PySem.W.Frag) (C:Addr) (f:Str):Prop:=PySem.W.findIn K (.ref C) f=some none
theorem NoAttr.taker {K:PySem.W.Frag} {C:Addr} {f:Str} (n:NoAttr K C f):PySem.W.takerIn K C f=some none:=by
 unfold PySem.W.takerIn
 rw [show PySem.W.findIn K (.ref C) f=some none from n]
 rfl
structure Con (K:PySem.W.Frag) (C:Addr) (f:Str) (v:V) (u:Value):Prop where
 at_:PySem.W.findIn K (.ref C) f=some (some u)
 rel:RelV v u
 get:PySem.W.specialIn K u "__get__" = some none
 cp:PySem.W.copiedNames.contains f=false
structure Meth (K:PySem.W.Frag) (C:Addr) (m:Str) (f:Addr):Prop where
 at_:PySem.W.findIn K (.ref C) m=some (some (.ref f))
 fn:PySem.W.isFn K (.ref f)=true
 kp:PySem.W.keepIn K (.ref f)=true
section
variable {X:Cx} {pins:List (Addr × Obj)} {σ:St} {H:Hp} {s:Shared} {a C dx:Addr} {fs:List (Str × V)} {f:Str} {v:V} {A:Around} {E:Value->Shared->Prop}
theorem ws3 {b:Bool} {Q:Value->Shared->Prop} (I:Inv X pins σ H s) (e:H a=some (.ins C dx fs)) (c:Cls X.K C) (n:NoAttr X.K C f) (l:fs.lookup f=some v)
    (h:∀ u s',Inv X pins σ H s'->RelV v u->Q u s'):wpAny (model X.prog X.w) A (getAttr (.ref a) f b) Q E s:=by
 obtain ⟨mA,O,r,_,_,_⟩:=xv2 I.hok e
 obtain ⟨u,hu,ru⟩:=RelO.some_of (v:=v) (o:=mA f) (by rw [<- l]; exact r f)
 exact yx6 I.kIn O (c.get f) c.hd n hu (xo4 ru) (h u _ (I.tok _) ru)
theorem yx1 {m:Str} {g:Addr} {pl:Sem Bool} {Q:Value × List Value->Shared->Prop} (I:Inv X pins σ H s) (e:H a=some (.ins C dx fs)) (c:Cls X.K C) (k:Meth X.K C m g) (l:fs.lookup m=none)
    (h:Q (.ref g,[.ref a]) s):wpAny (model X.prog X.w) A (getMethod (.ref a) m pl) Q E s:=by
 obtain ⟨mA,O,r,_,_,_⟩:=xv2 I.hok e
 have hn:mA m=none:=RelO.none_of (by rw [<- l]; exact r m)
 exact zm5 I.kIn O (c.get m) k.at_ k.fn hn h
theorem zk3 {y:V} {u:Value} {Q:Unit->Shared->Prop} (I:Inv X pins σ H s) (e:H a=some (.ins C dx fs)) (c:Cls X.K C) (n:NoAttr X.K C f) (hl:fs.length < 1000) (ry:RelV y u)
    (h:∀ s',Inv X pins σ (upd H a (.ins C dx (putF f y fs))) s'->Q () s'):wpAny (model X.prog X.w) A (setAttr (.ref a) f u) Q E s:=by
 obtain ⟨mA,O,r,wi,_,ho⟩:=xv2 I.hok e
 have hz:(fs.map (·.1)).length<=sizeLine:=by rw [List.length_map,sizeLine_eq]; omega
 refine xi6 I.kIn O c.sa c.po n.taker c.hd wi hz λ h' O' sb=>h _ ?_
 have hd:∃ o,h'.get? dx=some o:=let ⟨o,_,_,e',_⟩:=O'.ns; ⟨o,e'⟩
 refine I.write (x:=a) (e:=dx) (by rw [e]; exact True.intro) (.inr ho) (λ b q hb z=>(sb.2 b hb).trans z) hd ?_
 refine ⟨by rw [xg0 O.ne]; exact ho,?_,O.ne,O'.obj,_,O'.ns,λ g=>?_,λ g hg=>?_⟩
 ·have:=xo1 f y fs; omega
 ·show RelO ((putF f y fs).lookup g) (if g=f then some u else mA g)
  rw [wn1]
  by_cases q:g=f
  ·rw [if_pos q,if_pos q]; exact ry
  ·rw [if_neg q,if_neg q]; exact r g
 ·by_cases q:g=f
  ·rw [q]; exact (zo1 f y fs).1
  ·refine (zo1 f y fs).2 g (wi g λ z=>hg ?_)
   show (if g=f then some u else mA g)=none
   rw [if_neg q]; exact z
theorem Inv.made (I:Inv X pins σ H s):Inv X pins σ (upd (upd H s.heap.objs.size (.own (s.heap.objs.size + 1))) (s.heap.objs.size + 1) (.ins C s.heap.objs.size []))
    { s with heap:=(s.heap.push PySem.W.emptyDict).push (PySem.W.instObj C s.heap.objs.size) }:=by
 have e1:(s.heap.push PySem.W.emptyDict).get? s.heap.objs.size=some PySem.W.emptyDict:=Heap.get?_push_size s.heap rfl
 have e2:((s.heap.push PySem.W.emptyDict).push (PySem.W.instObj C s.heap.objs.size)).get? (s.heap.objs.size + 1)=some (PySem.W.instObj C s.heap.objs.size):=by
  have:=Heap.get?_push_size (s.heap.push PySem.W.emptyDict) (o:=PySem.W.instObj C s.heap.objs.size) rfl
  rwa [Heap.size_push] at this
 have e3:(s.heap.push PySem.W.emptyDict).Ns s.heap.objs.size (λ _=>none):=⟨PySem.W.emptyDict,#[],_,e1,rfl,(λ e he=>absurd he (by simp)),λ _=>rfl⟩
 have I1:=I.laid (a:=s.heap.objs.size) (o:=.own (s.heap.objs.size + 1)) (h':=s.heap.push PySem.W.emptyDict) (t':=s.toks) (λ b u q=>Heap.get?_push_of_some _ q) (Nat.le_refl _) ⟨_,e1⟩
 refine I1.laid (a:=s.heap.objs.size + 1) (o:=.ins C s.heap.objs.size []) (t':=s.toks) (λ b u q=>Heap.get?_push_of_some _ q) (Nat.le_of_eq (Heap.size_push _ _)) ?_
 have ne:s.heap.objs.size ≠ s.heap.objs.size + 1:=Nat.ne_of_lt (Nat.lt_succ_self _)
 refine ⟨by rw [xg0 ne,wj0],Nat.zero_le _,ne,e2,λ _=>none,(Heap.Ns1.of_empty e3).at λ o q=>Heap.get?_push_of_some _ q,λ _=>True.intro,λ y hy=>absurd rfl hy⟩
theorem zb7 {prog:Program} {w:World} {env:Env} {e:Expr} {f:Str} {pos:Pos} {s:Shared} {Q:Value->Shared->Prop} (hb:attributeBase e f env (eval e env)=eval e env)
    (h:wpAny (model prog w) A (eval e env) (λ o s₁=>wpAny (model prog w) A (getAttr o f true) Q E s₁) E s):wpAny (model prog w) A (eval (.Attribute e f pos) env) Q E s :=
 Attribute_any_ h (by rw [arm_eval_Attribute,hb])
end
noncomputable def tFld (K:PySem.W.Frag) (ta:TE) (f:Str):TE:=λ σ H Q=>ta σ H λ x H1=>∃ a C dx fs v,x=.ref a /\ H1 a=some (.ins C dx fs) /\ Cls K C /\ NoAttr K C f /\ fs.lookup f=some v /\ Q v H1
noncomputable def sFld (K:PySem.W.Frag) (ta tv:TE) (f:Str):TS:=λ D σ H=>tv σ H λ y H1=>ta σ H1 λ x H2=>∃ a C dx fs,x=.ref a /\ H2 a=some (.ins C dx fs) /\ Cls K C /\ NoAttr K C f /\ fs.length < 1000 ∧
 D.nx σ (upd H2 a (.ins C dx (putF f y fs)))
section
variable {X:Cx} {o e value:Expr} {f:Str} {pos pos' tpos:Pos} {ta tv:TE}
theorem wj8 (he:PE X e ta) (hb:attributeBase e f X.env (eval e X.env)=eval e X.env):PE X (.Attribute e f pos) (tFld X.K ta f):=by
 intro pins s σ H Q I h
 refine zb7 hb (thn (he pins s σ H _ I h) λ u s1 ⟨x,H1,I1,rx,a,C,dx,fs,v,ex,ea,c,n,l,q⟩=>?_)
 subst ex
 obtain rfl:u=Value.ref a:=rx
 exact ws3 I1 ea c n l λ u' s2 I2 ru=>⟨v,H1,I2,ru,q⟩
theorem xg8 (ha:PE X o ta) (hv:PE X value tv) (hs:swapsWith value (some (.Attribute o f pos')) pos.line X.env=pure false):PS X (.Assign [.Attribute o f pos'] value pos) (sFld X.K ta tv f):=by
 intro pins s σ H D I h
 refine plainObj_wpAny_Assign_Attribute (thn (hv pins s σ H _ I h) λ u s1 ⟨y,H1,I1,ry,q⟩=>thn (ha pins s1 σ H1 _ I1 q) λ ov s2 ⟨x,H2,I2,rx,a,C,dx,fs,ex,ea,c,n,l,q2⟩=>?_) hs
 subst ex
 obtain rfl:ov=Value.ref a:=rx
 exact zk3 I2 ea c n l ry λ s3 I3=>⟨σ,_,I3,q2⟩
end
section
variable {X:Cx} {pins:List (Addr × Obj)} {σ:St} {H:Hp} {s:Shared} {A:Around} {E:Value->Shared->Prop} {Q:Value->Shared->Prop} {c:Value} {b:Bool}
inductive TyOf (K:PySem.W.Frag) (H:Hp):V->Value->Prop where
 | non:TyOf K H .non (.type "NoneType")
 | bl (x:Bool):TyOf K H (.bl x) (.type "bool")
 | int (i:Int):TyOf K H (.int i) (.type "int")
 | str (x:Str):TyOf K H (.str x) (.type "str")
 | flt (x:UInt64):TyOf K H (.flt x) (.type "float")
 | lst {a:Addr} {xs:List V} (e:H a=some (.lst xs)):TyOf K H (.ref a) (.type "list")
 | frz {a:Addr} {o:Obj} {xs:List V} (e:H a=some (.frz o (.lst xs))):TyOf K H (.ref a) (.type "list")
 | tup {a:Addr} {xs:List V} (e:H a=some (.tup xs)):TyOf K H (.ref a) (.type "tuple")
 | dK {a:Addr} {kvs:List (Key × V)} (e:H a=some (.dK kvs)):TyOf K H (.ref a) (.type "dict")
 | dT {a:Addr} {kvs:List (List Key × V)} (e:H a=some (.dT kvs)):TyOf K H (.ref a) (.type "dict")
 | ins {a C dx:Addr} {fs:List (Str × V)} (e:H a=some (.ins C dx fs)) (cl:Cls K C) (ha:PySem.W.findIn K (.ref C) "__class__" = some (some (.builtin "object.__class__")))
     (hn:PySem.W.specialIn K (.builtin "object.__class__") "__get__" = some (some (.builtin "getset_descriptor.__get__"))) (htk:PySem.W.takesIn K (.builtin "object.__class__")=some true)
     (hm:PySem.W.mroIn K C (.type "object")=some true):TyOf K H (.ref a) (.ref C)
end
end L2
namespace L2
open PySem PySem.Spec PyProof.Rows
structure Room (k:Nat) (A:Around):Prop where
 hd:A.handled=none
 dp:A.depth + 3 * k + 5 < recursionLimit
 un:A.units + 16 * k + 200 < cLine
theorem Room.mono {j k:Nat} {A:Around} (r:Room k A) (h:j<=k):Room j A:=⟨r.hd,by have:=r.dp; omega,by have:=r.un; omega⟩
theorem Room.deeper {k:Nat} {A:Around} (r:Room (k + 1) A) (env:Env):Room k (A.deeper env) :=
 ⟨r.hd,by have:=r.dp; show A.depth + 1 + 3 * k + 5 < _; omega,by have:=r.un; show A.units + 3 + 16 * k + 200 < _; omega⟩
theorem ys3 {A:Around} {C:Addr} {us:List Value} {kw:List (Str × Value)}:(A.under (.builtin "type.__call__" ⟨.ref C :: us,kw⟩)).depth=A.depth + 1:=by
 first | rfl | simp [Around.under,Code.weight,Code.isCreation,Code.isGuard,Code.isCaller,Code.frames,Code.isFrame,guardIds]
theorem xs3 {A:Around} {C:Addr} {us:List Value} {kw:List (Str × Value)}:(A.under (.builtin "type.__call__" ⟨.ref C :: us,kw⟩)).units=A.units + 1:=by
 first | rfl | simp [Around.under,Code.cUnits,Code.frames,Code.isFrame]
theorem Room.make {k:Nat} {A:Around} (r:Room (k + 1) A) (C:Addr) (us:List Value) (kw:List (Str × Value)):Room k (A.under (.builtin "type.__call__" ⟨.ref C :: us,kw⟩)) :=
 ⟨r.hd,by have:=r.dp; rw [ys3]; omega,by have:=r.un; rw [xs3]; omega⟩
theorem Room.depth {k:Nat} {A:Around} (r:Room k A):A.depth < recursionLimit:=by have:=r.dp; omega
noncomputable def tNil:TA:=λ _ H Q=>Q [] H
noncomputable def zz8 (ta:TE) (tr:TA):TA:=λ σ H Q=>ta σ H λ x H1=>tr σ H1 λ xs H2=>Q (x :: xs) H2
section
variable {X:Cx} {e:Expr} {es:List Expr} {te:TE} {t:TA} {pos:Pos}
theorem yk8:PA X [] tNil:=λ _ _ _ _ H Q I h=>Calls.spliced_nil ⟨[],H,I,.nil,h⟩
theorem ws6 (ha:PE X e te) (hr:PA X es t) (hs:starEach (e :: es) X.env=(false,eval e X.env) :: starEach es X.env:=by rfl):PA X (e :: es) (zz8 te t):=by
 intro pos pins s σ H Q I h
 rw [hs]
 show wpAny _ _ (spliced ((false,eval e X.env) :: backTo pos (starEach es X.env))) _ _ s
 refine Calls.spliced_cons (thn (ha pins s σ H _ I h) λ u s1 ⟨x,H1,I1,r1,q1⟩=>?_)
 exact thn (hr pos pins s1 σ H1 _ I1 q1) λ us s2 ⟨xs,H2,I2,r2,q2⟩=>⟨x :: xs,H2,I2,.cons r1 r2,q2⟩
noncomputable def tTup (t:TA):TE:=λ σ H Q=>t σ H λ xs H1=>xs.length<=sizeLine /\ ∀ p,H1 p=none->Q (.ref p) (upd H1 p (.tup xs))
noncomputable def tLst (t:TA):TE:=λ σ H Q=>t σ H λ xs H1=>xs.length<=sizeLine /\ ∀ p,H1 p=none->Q (.ref p) (upd H1 p (.lst xs))
theorem xi8 {x1} (h:PA X es t):PE X (.Tuple es x1 pos) (tTup t):=by
 intro pins s σ H Q I hq
 refine wpAny_Tuple_spliced (thn (h pos pins s σ H _ I hq) λ us s1 ⟨xs,H1,I1,r,z,q⟩=>⟨by rw [<- r.length]; exact z,?_⟩)
 have hf:H1 s1.heap.objs.size=none:=I1.hok.fresh (Nat.le_refl _)
 refine ⟨.ref s1.heap.objs.size,upd H1 s1.heap.objs.size (.tup xs),I1.laid (t':=s1.toks) (λ b u e=>Heap.get?_push_of_some _ e) (Nat.le_refl _) ?_,rfl,q _ hf⟩
 exact ⟨z,us,r,⟨_,Heap.get?_push_size _ rfl,rfl,_,rfl⟩⟩
theorem yj8 (h:PA X es t):PE X (.List es pos) (tLst t):=by
 intro pins s σ H Q I hq
 refine wpAny_List_spliced (thn (h pos pins s σ H _ I hq) λ us s1 ⟨xs,H1,I1,r,z,q⟩=>⟨by rw [<- r.length]; exact z,?_⟩)
 have hf:H1 s1.heap.objs.size=none:=I1.hok.fresh (Nat.le_refl _)
 refine ⟨.ref s1.heap.objs.size,upd H1 s1.heap.objs.size (.lst xs),I1.laid (t':=s1.toks) (λ b u e=>Heap.get?_push_of_some _ e) (Nat.le_refl _) ?_,rfl,q _ hf⟩
 exact ⟨z,us,0,r,Heap.get?_push_size _ rfl⟩
end
noncomputable abbrev Sp:=List V->Hp->VK->XK->Prop
noncomputable abbrev CXT:=List Env->Hp->Shared->XK->Value->Shared->Prop
structure Env0 (P:Program) (w:World) (K:PySem.W.Frag) (mg:Str->Option Value) (base:Heap) (A:Around) (outer:List Env) (s:Shared) (H:Hp):Prop where
 frames:A.frames=some outer
 mod:Mod K mg base
 bs:∀ b o,base.get? b=some o->s.heap.get? b=some o /\ H b=none
 bsz:base.objs.size<=s.heap.objs.size
 funs:s.heap.FunFrames base outer
 frf:∀ b ∈ frs outer,H b=none
 hok:HOk P w H s.heap
 bare:AllBare s.gens
noncomputable def CE (outer:List Env) (P:Program) (w:World) (H:Hp) (s:Shared) (Q:VK) (u:Value) (s':Shared):Prop :=
 ∃ v H',s'.os=s.os /\ AllBare s'.gens /\ Un (frs outer) [] H H' s.heap s'.heap /\ HOk P w H' s'.heap /\ RelV v u /\ Q v H'
noncomputable def CR (CX:CXT) (outer:List Env) (P:Program) (w:World) (H:Hp) (s:Shared) (Q:VK) (E:XK) (r:Result) (s':Shared):Prop :=
 match r with
 | .ok (.ret u)=>CE outer P w H s Q u s'
 | .ok _=>False
 | .error e=>CX outer H s E e s'
structure FnOk (P:Program) (w:World) (K:PySem.W.Frag) (mg:Str->Option Value) (base:Heap) (CX:CXT) (k:Nat) (f:Addr) (fd:FuncData) (ps:List Str) (sp:Sp):Prop where
 len:∀ vs H Q E,sp vs H Q E->vs.length=ps.length
 run:∀ (A:Around) (outer:List Env) (s:Shared) (H:Hp) (args:Args) (us:List Value) (vs:List V) (Q:VK) (E:XK),Room k A->Env0 P w K mg base A outer s H->BindsTo s fd args (ps.zip us)->Vals vs us->sp vs H Q E ->
  codeAny (model P w) A (.call (.ref f) args) (CR CX outer P w H s Q E) s
theorem FnOk.mono {P:Program} {w:World} {K:PySem.W.Frag} {mg:Str->Option Value} {base:Heap} {CX:CXT} {j k:Nat} {f:Addr} {fd:FuncData} {ps:List Str} {sp:Sp} (F:FnOk P w K mg base CX j f fd ps sp) (h:j<=k) :
    FnOk P w K mg base CX k f fd ps sp:=⟨F.len,λ A outer s H args us vs Q E hr=>F.run A outer s H args us vs Q E (hr.mono h)⟩
theorem Env0.make {P:Program} {w:World} {K:PySem.W.Frag} {mg:Str->Option Value} {base:Heap} {A:Around} {outer:List Env} {s:Shared} {H:Hp} (e:Env0 P w K mg base A outer s H) (C:Addr) (us:List Value) (kw:List (Str × Value)) :
    Env0 P w K mg base (A.under (.builtin "type.__call__" ⟨.ref C :: us,kw⟩)) outer s H:=⟨by first | exact e.frames | (simpa [Around.under,Code.envs,Code.isFrame,pushEnvs] using e.frames),e.mod,e.bs,e.bsz,e.funs,e.frf,e.hok,e.bare⟩
section
variable {X:Cx} {pins:List (Addr × Obj)} {σ:St} {H:Hp} {s s':Shared}
theorem Inv.env0 (I:Inv X pins σ H s):Env0 X.prog X.w X.K X.mg X.base X.A X.stack s H :=
 ⟨I.ok.frames,I.ok.mod,I.bs,Nat.le_trans I.ok.bsz I.sz,I.stack,I.stkFree,I.hok,I.bare⟩
theorem Inv.after {Q:VK} {u:Value} (I:Inv X pins σ H s) (h:CE X.stack X.prog X.w H s Q u s'):EP X pins σ Q u s':=by
 obtain ⟨v,H',os,bare,un,hok,r,q⟩:=h
 obtain ⟨hh,g,d,t,os'⟩:=s'
 obtain rfl:os'=s.os:=os
 exact ⟨v,H',I.call (h':=hh) (g':=g) (d':=d) (t':=t) (ch:=[]) un hok bare (λ b z=>absurd z (by simp)),r,q⟩
end
noncomputable def wz8 (sp:Sp) (dvs:List V) (E:XK) (t:TA):TE:=λ σ H Q=>t σ H λ vs H1=>sp (vs ++ dvs) H1 Q E
noncomputable def yk7 (C:Addr) (m:Str) (sp:Sp) (dvs:List V) (E:XK) (ta:TE) (t:TA):TE:=λ σ H Q=>ta σ H λ x H1=>∃ a dx fs,x=.ref a /\ H1 a=some (.ins C dx fs) /\ fs.lookup m=none ∧
 t σ H1 λ vs H2=>sp (x :: (vs ++ dvs)) H2 Q E
noncomputable def zy8 (C:Addr) (sp:Sp) (dvs:List V) (E:XK) (t:TA):TE:=λ σ H Q=>t σ H λ vs H1=>∀ x dx,H1 x=none->H1 dx=none->dx ≠ x ->
 sp (.ref x :: (vs ++ dvs)) (upd (upd H1 dx (.own x)) x (.ins C dx [])) (λ v H2=>v=.non /\ Q (.ref x) H2) E
noncomputable def Binds (K:PySem.W.Frag) (fd:FuncData) (ps:List Str) (ds:List Value):Prop :=
 ∀ (s:Shared) (us:List Value),K.In s.heap->(us ++ ds).length=ps.length->BindsTo s fd ⟨us,[]⟩ (ps.zip (us ++ ds))
theorem Binds.all {K:PySem.W.Frag} {fd:FuncData} {ps:List Str} (h:∀ us:List Value,us.length=ps.length->bindArgs fd ⟨us,[]⟩=pure (ps.zip us)):Binds K fd ps []:=λ s us _ hl=>by
 rw [List.append_nil] at hl ⊢
 exact .of_eq (h us hl)
noncomputable def xs1 (CX:CXT) (X:Cx) (E:XK):Prop:=∀ (pins:List (Addr × Obj)) (σ:St) (H:Hp) (s:Shared) (e:Value) (s':Shared),Inv X pins σ H s->CX X.stack H s E e s'->X.xe e s'
section
variable {X:Cx} {CX:CXT} {k:Nat} {f C:Addr} {fd:FuncData} {ps:List Str} {sp:Sp} {dvs:List V} {ds:List Value} {E:XK} {x m:Str} {p pos apos:Pos} {e o:Expr} {es:List Expr} {ta:TE} {t:TA}
theorem xb4 {pins:List (Addr × Obj)} {σ:St} {H:Hp} {s:Shared} {Q:VK} {us:List Value} {vs:List V} (F:FnOk X.prog X.w X.K X.mg X.base CX k f fd ps sp) (hr:Room k X.A) (hb:Binds X.K fd ps ds) (hd:Vals dvs ds) (hx:xs1 CX X E)
    (I:Inv X pins σ H s) (r:Vals vs us) (h:sp (vs ++ dvs) H Q E):wpAny (model X.prog X.w) X.A (call (.ref f) us) (EP X pins σ Q) X.xe s:=by
 have r2:Vals (vs ++ dvs) (us ++ ds):=r.append hd
 have hl:(us ++ ds).length=ps.length:=by rw [<- r2.length]; exact F.len _ _ _ _ h
 refine wpAny_call (codeAny_mono (F.run X.A X.stack s H ⟨us,[]⟩ (us ++ ds) (vs ++ dvs) Q E hr I.env0 (hb s us I.kIn hl) r2 h) λ r s' hq=>?_)
 cases r with
 | error e=>exact hx pins σ H s e s' I hq
 | ok fl =>
  cases fl with
  | ret u=>exact I.after hq
  | next=>exact False.elim hq
  | brk=>exact False.elim hq
  | cont=>exact False.elim hq
theorem wr6 (F:FnOk X.prog X.w X.K X.mg X.base CX k f fd ps sp) (hr:Room k X.A) (hg:Gl X x) (hm:X.mg x=some (.ref f)) (hk:PySem.W.keepIn X.K (.ref f)=true) (hb:Binds X.K fd ps ds) (hd:Vals dvs ds) (hx:xs1 CX X E)
    (ha:PA X (e :: es) t) (hdb:(x == ("__debug__" : Str))=false:=by decide) (he:starEach (e :: es) X.env=(false,eval e X.env) :: starEach es X.env:=by rfl) (hpl:(backTo pos (starEach es X.env)).any (·.1)=false:=by rfl) :
    PE X (.Call (.Name x p) (e :: es) [] pos) (wz8 sp dvs E t):=by
 intro pins s σ H Q I h
 refine wpAny_Call_Name_kw (zu2 I hg hm ?_ hdb)
 refine PySem.W.callWith_K (h₀:=X.base) I.ok.mod.kin hk (thn (ha pos pins s σ H _ I h) λ us s1 ⟨vs,H1,I1,r,q⟩=>⟨I1.kIn,?_⟩) he hpl
 exact xb4 F hr hb hd hx I1 r q
theorem xq6 {pl:Sem Bool} (he:PE X o ta) (c:Cls X.K C) (hm:Meth X.K C m f) (F:FnOk X.prog X.w X.K X.mg X.base CX k f fd ps sp) (hr:Room k X.A) (hb:Binds X.K fd ps ds) (hd:Vals dvs ds) (hx:xs1 CX X E) (ha:PA X (e :: es) t)
    (hst:starEach (e :: es) X.env=(false,eval e X.env) :: starEach es X.env:=by rfl) (hpl:(backTo pos (starEach es X.env)).any (·.1)=false:=by rfl)
    (ht:eval (.Call (.Attribute o m apos) (e :: es) [] pos) X.env=(do
     let ov <- eval o X.env
     standAt apos.atName
     let (f,first) <- holding [ov] (getMethod ov m pl)
     callWith pos f first (backTo pos (starEach (e :: es) X.env)) (backToKw pos (keywordEach [] X.env))):=by rfl) :
    PE X (.Call (.Attribute o m apos) (e :: es) [] pos) (yk7 C m sp dvs E ta t):=by
 intro pins s σ H Q I h
 refine PySem.W.methodCall_KW (pl:=pl) (thn (he pins s σ H _ I h) λ u s1 ⟨x,H1,I1,rx,a,dx,fs,ex,ea,l,q⟩=>?_) ht
 subst ex
 obtain rfl:u=Value.ref a:=rx
 refine yx1 I1 ea c hm l ?_
 refine PySem.W.callWith_K (first:=[.ref a]) (h₀:=X.base) I.ok.mod.kin hm.kp (thn (ha pos pins s1 σ H1 _ I1 q) λ us s2 ⟨vs,H2,I2,r,q2⟩=>⟨I2.kIn,?_⟩) hst hpl
 exact xb4 (us:=.ref a :: us) (vs:=.ref a :: vs) F hr hb hd hx I2 (.cons rfl r) q2
theorem yg5 {pl:Sem Bool} (he:PE X o ta) (c:Cls X.K C) (hm:Meth X.K C m f) (F:FnOk X.prog X.w X.K X.mg X.base CX k f fd ps sp) (hr:Room k X.A) (hb:Binds X.K fd ps ds) (hd:Vals dvs ds) (hx:xs1 CX X E)
    (ht:eval (.Call (.Attribute o m apos) [] [] pos) X.env=(do
     let ov <- eval o X.env
     standAt apos.atName
     let (f,first) <- holding [ov] (getMethod ov m pl)
     callWith pos f first (backTo pos (starEach [] X.env)) (backToKw pos (keywordEach [] X.env))):=by rfl) :
    PE X (.Call (.Attribute o m apos) [] [] pos) (yk7 C m sp dvs E ta tNil):=by
 intro pins s σ H Q I h
 refine PySem.W.methodCall_KW (pl:=pl) (thn (he pins s σ H _ I h) λ u s1 ⟨x,H1,I1,rx,a,dx,fs,ex,ea,l,q⟩=>?_) ht
 subst ex
 obtain rfl:u=Value.ref a:=rx
 refine yx1 I1 ea c hm l ?_
 exact PySem.W.callWith_K0 (first:=[.ref a]) I1.kIn hm.kp (xb4 (us:=[.ref a]) (vs:=[.ref a]) F hr hb hd hx I1 (.cons rfl .nil) q)
structure Mk (K:PySem.W.Frag) (C f:Addr):Prop where
 makes:PySem.W.makesIn K C=true
 init:PySem.W.findIn K (.ref C) "__init__" = some (some (.ref f))
 fn:PySem.W.isFn K (.ref f)=true
 kp:PySem.W.keepIn K (.ref C)=true
theorem wb5 {pins:List (Addr × Obj)} {σ:St} {H:Hp} {s:Shared} {Q:VK} {us:List Value} {vs:List V} (M:Mk X.K C f) (F:FnOk X.prog X.w X.K X.mg X.base CX k f fd ps sp) (hr:Room (k + 1) X.A) (hb:Binds X.K fd ps ds) (hd:Vals dvs ds)
    (hx:xs1 CX X E) (I:Inv X pins σ H s) (r:Vals vs us)
    (h:∀ x dx,H x=none->H dx=none->dx ≠ x->sp (.ref x :: (vs ++ dvs)) (upd (upd H dx (.own x)) x (.ins C dx [])) (λ v H2=>v=.non /\ Q (.ref x) H2) E) :
    wpAny (model X.prog X.w) X.A (call (.ref C) us) (EP X pins σ Q) X.xe s:=by
 have hq:=h (s.heap.objs.size + 1) s.heap.objs.size (I.hok.fresh (Nat.le_succ _)) (I.hok.fresh (Nat.le_refl _)) (Nat.ne_of_lt (Nat.lt_succ_self _))
 have I2:=Inv.made (C:=C) I
 have r2:Vals (V.ref (s.heap.objs.size + 1) :: (vs ++ dvs)) (Value.ref (s.heap.objs.size + 1) :: (us ++ ds)):=.cons rfl (r.append hd)
 have hl:(Value.ref (s.heap.objs.size + 1) :: us ++ ds).length=ps.length:=by
  have e:=r2.length
  rw [F.len _ _ _ _ hq] at e
  exact e.symm
 refine wpAny_call (wi5 (f:=f) I.kIn M.makes M.init (beq_iff_eq.mp M.fn) (codeAny_mono (F.run _ X.stack _ _ ⟨Value.ref (s.heap.objs.size + 1) :: us,[]⟩ (Value.ref (s.heap.objs.size + 1) :: (us ++ ds)) _ _ E (hr.make C us [])
  (I2.env0.make C us []) (hb _ (Value.ref (s.heap.objs.size + 1) :: us) I2.kIn hl) r2 hq) λ r s' hq'=>?_))
 cases r with
 | error e=>exact hx pins σ _ _ e s' I2 hq'
 | ok fl =>
  cases fl with
  | ret u =>
   obtain ⟨v,H',I3,rv,ev,q3⟩:=I2.after hq'
   subst ev
   exact ⟨rv,⟨V.ref (s.heap.objs.size + 1),H',I3,rfl,q3⟩⟩
  | next=>exact False.elim hq'
  | brk=>exact False.elim hq'
  | cont=>exact False.elim hq'
theorem yq6 (M:Mk X.K C f) (F:FnOk X.prog X.w X.K X.mg X.base CX k f fd ps sp) (hr:Room (k + 1) X.A) (hg:Gl X x) (hm:X.mg x=some (.ref C)) (hb:Binds X.K fd ps ds) (hd:Vals dvs ds) (hx:xs1 CX X E)
    (ha:PA X (e :: es) t) (hdb:(x == ("__debug__" : Str))=false:=by decide) (he:starEach (e :: es) X.env=(false,eval e X.env) :: starEach es X.env:=by rfl) (hpl:(backTo pos (starEach es X.env)).any (·.1)=false:=by rfl) :
    PE X (.Call (.Name x p) (e :: es) [] pos) (zy8 C sp dvs E t):=by
 intro pins s σ H Q I h
 refine wpAny_Call_Name_kw (zu2 I hg hm ?_ hdb)
 refine PySem.W.callWith_K (h₀:=X.base) I.ok.mod.kin M.kp (thn (ha pos pins s σ H _ I h) λ us s1 ⟨vs,H1,I1,r,q⟩=>⟨I1.kIn,?_⟩) he hpl
 exact wb5 M F hr hb hd hx I1 r q
end
section
variable {X:Cx} {CX:CXT} {k:Nat} {f C:Addr} {fd:FuncData} {ps ks:List Str} {sp:Sp} {E:XK} {x m:Str} {p pos apos kpos:Pos} {e o:Expr} {es:List Expr} {kws:List Keyword} {te ta:TE} {t tk:TA} {nm:Option Str}
structure KBinds (K:PySem.W.Frag) (fd:FuncData) (ps ks:List Str) (g:List Value->List Value->List Value) (gV:List V->List V->List V):Prop where
 to:∀ (s:Shared) (us ws:List Value),K.In s.heap->(g us ws).length=ps.length->BindsTo s fd ⟨us,ks.zip ws⟩ (ps.zip (g us ws))
 rel:∀ {vs:List V} {us:List Value} {zs:List V} {ws:List Value},Vals vs us->Vals zs ws->Vals (gV vs zs) (g us ws)
variable {g:List Value->List Value->List Value} {gV:List V->List V->List V}
end
structure FnScope (N P:List Str) (sc:Scope):Prop where
 kind:sc.kind=.function
 co:sc.isCoroutine=false
 gen:sc.isGenerator=false
 nd:N.Nodup
 pre:N.take P.length=P
 par:∀ x ∈ P,sc.names.lookup x=some .local \/ sc.names.lookup x=some .cell
 nofree:∀ y ∈ sc.names,y.2 ≠ .free
theorem wp2 {kindOf:Str->Option NameKind} {x:Str}:∀ {binds:List (Str × Value)} {m:Str->Option Value},(∀ v,(x,v) ∉ binds)->bindL kindOf binds m x=m x
 | [],_,_=>rfl
 | (n,v) :: r,m,h=>by
  unfold bindL
  rw [wp2 λ w hw=>h w (List.mem_cons_of_mem _ hw)]
  split
  ·have:x ≠ n:=by rintro rfl; exact h v List.mem_cons_self
   simp [this]
  ·rfl
theorem yq2 {kindOf:Str->Option NameKind} {x:Str}:∀ {binds:List (Str × Value)} {m:Str->Option Value},(∀ v,(x,v) ∉ binds)->bindC kindOf binds m x=m x
 | [],_,_=>rfl
 | (n,v) :: r,m,h=>by
  unfold bindC
  rw [yq2 λ w hw=>h w (List.mem_cons_of_mem _ hw)]
  split
  ·rfl
  ·have:x ≠ n:=by rintro rfl; exact h v List.mem_cons_self
   simp [this]
theorem xq2 {kindOf:Str->Option NameKind} {x:Str} {v:Value}:∀ {P:List Str} {vs:List Value} {i:Nat} {m:Str->Option Value},P.Nodup->P[i]?=some x->vs[i]?=some v->kindOf x=some .local ->
    bindL kindOf (P.zip vs) m x=some v
 | [],_,_,_,_,h,_,_=>by simp at h
 | _ :: _,[],_,_,_,_,h,_=>by simp at h
 | p :: P,w :: vs,0,m,nd,h1,h2,hk=>by
  simp at h1 h2; subst h1; subst h2
  show bindL kindOf ((p,w) :: P.zip vs) m p=_
  unfold bindL
  rw [wp2 λ v hv=>(List.nodup_cons.mp nd).1 (List.of_mem_zip hv).1,if_pos hk]
  simp
 | p :: P,w :: vs,i + 1,m,nd,h1,h2,hk=>by
  show bindL kindOf ((p,w) :: P.zip vs) m x=_
  unfold bindL
  exact xq2 (i:=i) (List.nodup_cons.mp nd).2 (by simpa using h1) (by simpa using h2) hk
theorem zq2 {kindOf:Str->Option NameKind} {x:Str} {v:Value}:∀ {P:List Str} {vs:List Value} {i:Nat} {m:Str->Option Value},P.Nodup->P[i]?=some x->vs[i]?=some v->kindOf x ≠ some .local ->
    bindC kindOf (P.zip vs) m x=some v
 | [],_,_,_,_,h,_,_=>by simp at h
 | _ :: _,[],_,_,_,_,h,_=>by simp at h
 | p :: P,w :: vs,0,m,nd,h1,h2,hk=>by
  simp at h1 h2; subst h1; subst h2
  show bindC kindOf ((p,w) :: P.zip vs) m p=_
  unfold bindC
  rw [yq2 λ v hv=>(List.nodup_cons.mp nd).1 (List.of_mem_zip hv).1,if_neg hk]
  simp
 | p :: P,w :: vs,i + 1,m,nd,h1,h2,hk=>by
  show bindC kindOf ((p,w) :: P.zip vs) m x=_
  unfold bindC
  exact zq2 (i:=i) (List.nodup_cons.mp nd).2 (by simpa using h1) (by simpa using h2) hk
noncomputable def start (N:List Str) (vs:List V):St:=vs.map some ++ List.replicate (N.length - vs.length) none
noncomputable def cxOf (CX:CXT) (P:Program) (w:World) (K:PySem.W.Frag) (mg:Str->Option Value) (base:Heap) (N:List Str) (qual:Str) (scope:Scope) (f:Addr) (cd:Value) (A:Around) (outer:List Env) (s:Shared) (H:Hp) (E:XK):Cx where
 prog:=P
 w:=w
 K:=K
 mg:=mg
 base:=base
 A:=A.deeper (envOfC qual scope s.heap.objs.size f cd)
 N:=N
 s₀:=s
 H₀:=H
 env:=envOfC qual scope s.heap.objs.size f cd
 outer:=outer
 stack:=envOfC qual scope s.heap.objs.size f cd :: outer
 ex:=[]
 calm:=true
 fn:=λ _=>true
 pn:=[]
 xe:=λ e s'=>wpAny (model P w) (A.deeper (envOfC qual scope s.heap.objs.size f cd)) (leaving (envOfC qual scope s.heap.objs.size f cd) e) (λ _ s''=>CX outer H s E e s'') (λ e' s''=>CX outer H s E e' s'') s'
theorem yf2 {sc:Scope} {n:Nat} {x:Str} (h:sc.names.lookup x=some .cell):∃ c,(cellsFrom n sc.names []).lookup x=some c:=by
 have q:=PySem.W.cellsFrom_some sc.names n [] (.inl h)
 exact Option.isSome_iff_exists.mp q
theorem yn4 {CX:CXT} {P:Program} {w:World} {K:PySem.W.Frag} {mg:Str->Option Value} {base:Heap} {N ps:List Str} {qual:Str} {scope:Scope} {f:Addr} {cd:Value} {A:Around} {outer:List Env} {s s1:Shared} {H:Hp} {E:XK} {us:List Value} {vs:List V}
    (S:FnScope N ps scope) (hd:A.handled=none) (e0:Env0 P w K mg base A outer s H) (hl:vs.length=ps.length) (r:Vals vs us)
    (x:InCallC s s.heap.objs.size (bindL (envOfC qual scope s.heap.objs.size f cd).kindOf (ps.zip us) λ _=>none) (cellsFrom (s.heap.objs.size + 1) scope.names []) (bindC (envOfC qual scope s.heap.objs.size f cd).kindOf (ps.zip us) λ _=>none) s1) :
    Inv (cxOf CX P w K mg base N qual scope f cd A outer s H E) [] (start N vs) H s1:=by
 have hpl:ps.length<=N.length:=by have:=congrArg List.length S.pre; rw [List.length_take] at this; omega
 obtain ⟨h1,tk,rfl,hk⟩:=x.done
 have noA:∀ b:Addr,b ∉ (cxOf CX P w K mg base N qual scope f cd A outer s H E).ex:=λ b z=>absurd (show b ∈ ([]:List Addr) from z) (by simp)
 refine ⟨⟨e0.mod,S.kind,rfl,rfl,Nat.le_refl _,λ y z c h1 h2=>?_,λ y hy=>?_,λ y c _ h=>?_,λ _=>hd,Around.frames_deeper e0.frames,.inr ⟨rfl,rfl⟩,λ b z=>absurd z (noA b),e0.bs,e0.bsz,λ b _ _=>noA b,λ b z=>absurd z (noA b),e0.funs,e0.frf⟩,
  rfl,e0.bare,Un.kept hk,⟨_,x.toInCall.ns,λ i y v h1 h2 h3=>?_⟩,λ y c h=>⟨_,x.cell y c h⟩,e0.hok.fresh (Nat.le_refl _),λ y c h=>?_,λ p hp=>absurd (show p ∈ ([]:List (Addr × Obj)) from hp) (by simp),e0.hok.kept hk,?_⟩
 ·exact name_of_addr x.apart (PySem.mem_of_lookup h1) (PySem.mem_of_lookup h2)
 ·have hy:scope.names.lookup y=some .cell \/ scope.names.lookup y=some .free:=hy
  rcases hy with hy | hy
  ·exact yf2 hy
  ·exact absurd rfl (S.nofree _ (PySem.mem_of_lookup hy))
 ·exact Nat.le_of_lt (x.above y c (PySem.mem_of_lookup h))
 ·have hi:i < vs.length:=by
    unfold start at h2
    by_cases hi:i < vs.length
    ·exact hi
    ·rw [List.getElem?_append_right (by simpa using hi)] at h2
     rw [List.getElem?_replicate] at h2
     split at h2 <;> cases h2
  have ha:vs[i]?=some v:=by
   unfold start at h2
   rw [List.getElem?_append_left (by simpa using hi),List.getElem?_map] at h2
   cases e:vs[i]? with
   | none=>rw [e] at h2; cases h2
   | some a=>rw [e] at h2; cases h2; rfl
  obtain ⟨u,hu,rv⟩:=r.get ha
  have hp:ps[i]?=some y:=by
   rw [<- S.pre,List.getElem?_take_of_lt (by omega)]; exact h1
  have ndP:ps.Nodup:=by rw [<- S.pre]; exact S.nd.sublist (List.take_sublist _ _)
  refine ⟨u,rv,?_⟩
  rcases S.par y (List.mem_of_getElem? hp) with k | k
  ·exact .inl ⟨k,xq2 ndP hp hu k⟩
  ·obtain ⟨c,e⟩:=yf2 (n:=s.heap.objs.size + 1) k
   refine .inr ⟨.inl k,c,e,?_⟩
   have q:=x.cell y c e
   rw [zq2 ndP hp hu (by show scope.names.lookup y ≠ _; rw [k]; decide)] at q
   exact q
 ·exact e0.hok.fresh (Nat.le_of_lt (x.above y c (PySem.mem_of_lookup h)))
 ·unfold start
  show _=N.length
  rw [List.length_append,List.length_map,List.length_replicate]
  omega
theorem wo9 {CX:CXT} {P:Program} {w:World} {K:PySem.W.Frag} {mg:Str->Option Value} {base:Heap} {k:Nat} {f:Addr} {name qual:Str} {params:Arguments} {body:List Stmt} {scope:Scope} {dV kV doc pm cdv ct oc:Value} {an od:Option Addr}
    {osl:Array (Option Value)} {N ps:List Str} {sp:Sp} (lk:K.lookup f=some ⟨oc,od,.func (PySem.W.fnOf name qual params body scope dV kV doc pm an cdv ct),osl⟩) (hcd:PySem.W.codeIn K cdv qual=true) (S:FnScope N ps scope)
    (len:∀ vs H Q E,sp vs H Q E->vs.length=ps.length)
    (hbody:∀ (A:Around) (outer:List Env) (s:Shared) (H:Hp) (vs:List V) (Q:VK) (E:XK),Room k (A.deeper (envOfC qual scope s.heap.objs.size f cdv))->sp vs H Q E ->
     ∃ t,PSs (cxOf CX P w K mg base N qual scope f cdv A outer s H E) body t /\ t { nx:=λ _ H'=>Q .non H',rt:=Q } (start N vs) H) :
    FnOk P w K mg base CX (k + 1) f (PySem.W.fnOf name qual params body scope dV kV doc pm an cdv ct) ps sp:=by
 refine ⟨len,λ A outer s H args us vs Q E hr e0 hb r hsp=>?_⟩
 have hl:=len _ _ _ _ hsp
 have KX:K.In s.heap:=e0.mod.kin.keeps λ b o e=>(e0.bs b o e).1
 have lim:s.heap.NoLimit:=e0.mod.nolimit.keeps λ b o e=>(e0.bs b o e).1
 have hkind:∀ y ∈ ps.zip us,scope.names.lookup y.1=some .local \/ (scope.names.lookup y.1=some .cell /\ ((cellsFrom (s.heap.objs.size + 1) scope.names []).lookup y.1).isSome=true):=λ ⟨n,v⟩ hy=>by
  rcases S.par n (List.of_mem_zip hy).1 with q | q
  ·exact .inl q
  ·exact .inr ⟨q,PySem.W.cellsFrom_some _ _ _ (.inl q)⟩
 refine codeAny_call_function hr.depth (KX _ _ lk) rfl S.co S.gen rfl (PySem.W.codeRec_of KX hcd) (hb _ _ _ _ ?_)
 refine wpAny_newFunctionEnv_cells S.kind hkind λ env he s1 x=>?_
 subst he
 refine ⟨lim.keeps x.toInCall.keep,codeAny_func ?_⟩
 obtain ⟨t,ht,hq⟩:=hbody A outer s H vs Q E (hr.deeper _) hsp
 have I:Inv (cxOf CX P w K mg base N qual scope f cdv A outer s H E) [] (start N vs) H s1:=yn4 S hr.hd e0 hl r x
 refine wpAny_mono (ht [] s1 (start N vs) H _ I hq) (λ fl s' hs=>?_) λ e s' hs=>hs
 have fin:∀ {σ':St} {H':Hp} {v:V} {u:Value},Inv (cxOf CX P w K mg base N qual scope f cdv A outer s H E) [] σ' H' s'->RelV v u->Q v H'->CE outer P w H s Q u s' :=
  λ {σ' H' v u} J rv q=>⟨v,H',J.os,J.bare,J.base,J.hok,rv,q⟩
 cases fl with
 | ret u =>
  obtain ⟨v,σ',H',J,rv,q⟩:=hs
  exact fin J rv q
 | next =>
  obtain ⟨σ',H',J,q⟩:=hs
  exact fin (v:=V.non) (u:=Value.none) J rfl q
 | brk =>
  obtain ⟨_,_,_,q⟩:=hs
  exact False.elim q
 | cont =>
  obtain ⟨_,_,_,q⟩:=hs
  exact False.elim q
end L2
namespace L2
open PySem PySem.Spec PyProof.Rows
section
variable {X:Cx} {x:Str} {p pos:Pos} {e:Expr} {es:List Expr} {t:TA} {id T:String} {r:List V->Hp->VK->Prop}
noncomputable def tCB (r:List V->Hp->VK->Prop) (t:TA):TE:=λ σ H Q=>t σ H λ vs H1=>r vs H1 Q
theorem wg5 (hc:CallR X (.builtin id) r) (hg:Gl X x) (hm:X.mg x=none) (hv:bootBuiltins x=some (.builtin id)) (ha:PA X (e :: es) t) (hn:x ≠ "__name__" := by decide) (hdb:(x == ("__debug__" : Str))=false:=by decide)
    (he:starEach (e :: es) X.env=(false,eval e X.env) :: starEach es X.env:=by rfl) (hpl:(backTo pos (starEach es X.env)).any (·.1)=false:=by rfl):PE X (.Call (.Name x p) (e :: es) [] pos) (tCB r t):=by
 intro pins s σ H Q I h
 refine wpAny_Call_Name_kw (xx0 I hg hm hv ?_ hn hdb)
 exact PyProof.Rows.callWith_builtin1 (thn (ha pos pins s σ H _ I h) λ us s1 ⟨vs,H1,I1,r1,q1⟩=>hc pins s1 σ H1 vs us Q I1 r1 q1) he hpl
theorem wh4 (hc:CallR X (.type T) r) (hg:Gl X x) (hm:X.mg x=none) (hv:bootBuiltins x=some (.type T)) (ha:PA X (e :: es) t) (hn:x ≠ "__name__" := by decide) (hdb:(x == ("__debug__" : Str))=false:=by decide)
    (he:starEach (e :: es) X.env=(false,eval e X.env) :: starEach es X.env:=by rfl) (hpl:(backTo pos (starEach es X.env)).any (·.1)=false:=by rfl):PE X (.Call (.Name x p) (e :: es) [] pos) (tCB r t):=by
 intro pins s σ H Q I h
 refine wpAny_Call_Name_kw (xx0 I hg hm hv ?_ hn hdb)
 exact PyProof.Rows.callWith_type1 (thn (ha pos pins s σ H _ I h) λ us s1 ⟨vs,H1,I1,r1,q1⟩=>hc pins s1 σ H1 vs us Q I1 r1 q1) he hpl
end
end L2
namespace HT
open PySem PyProof.Rows
section
open PySem.SeqAt
open PySem.AutoSeq1 (wpAny_loadPart')
open PySem.MeetsSeq PySem.MeetsSeq2 PySem.MeetsSeq3
end
section
variable {prog:Program} {w:World} {A:Around} {E:Value->Shared->Prop} {s:Shared}
theorem cat_tup {t b:Addr} {vs ws:List Value} {Q:Value->Shared->Prop} (ht:IsTup s.heap t vs.toArray) (hb:IsTup s.heap b ws.toArray) (hv:vs ≠ [])
    (h1:ws=[]->Q (.ref t) s) (h2:ws ≠ []->Q (.ref s.heap.objs.size) { s with heap:=s.heap.push { cls:=.type "tuple",data:=.seq (vs ++ ws).toArray } })
    (hsz:vs.length + ws.length<=sizeLine):wpAny (model prog w) A (binaryOp .Add (.ref t) (.ref b)) Q E s:=by
 obtain ⟨⟨cls,dd,data,sl⟩,ho,hc,n,hd⟩:=id ht
 obtain ⟨⟨cls2,dd2,data2,sl2⟩,ho2,hc2,n2,hd2⟩:=id hb
 simp only at hc hd hc2 hd2
 subst hc hd hc2 hd2
 have e:vs.toArray ++ ws.toArray=(vs ++ ws).toArray:=by simp
 by_cases hw:ws=[]
 ·exact concat_meets ⟨_,ho,rfl⟩ ⟨_,ho2,rfl⟩ noFill_tuple_add seq_tuple_add PySem.F.slot_tuple_add PySem.F.entry_tuple_add (PySem.F.args_tuple_add_2 _ _)
    (tuple_addW1 t b vs.toArray ws.toArray n n2 dd dd2 sl sl2 (by simpa using hv) (by simp [hw])) ⟨ho,ho2,h1 hw⟩
 ·refine concat_meets ⟨_,ho,rfl⟩ ⟨_,ho2,rfl⟩ noFill_tuple_add seq_tuple_add PySem.F.slot_tuple_add PySem.F.entry_tuple_add (PySem.F.args_tuple_add_2 _ _)
    (tuple_addW2 t b vs.toArray ws.toArray n n2 dd dd2 sl sl2 (by simpa using hv) (by simpa using hw) (by rw [List.size_toArray,List.size_toArray]; exact hsz)) ⟨ho,ho2,?_⟩
  rw [e]
  exact h2 hw
noncomputable def sIx (n d:Nat):Option Int->Nat
 | none=>d
 | some v=>if v < 0 then (v + (n:Int)).toNat else min v.toNat n
theorem xq7 (n d:Nat) (hd:d<=n) (o:Option Int):sIx n d o<=n:=by
 cases o with
 | none=>exact hd
 | some v =>
  show (if v < 0 then (v + (n:Int)).toNat else min v.toNat n)<=n
  by_cases hv:v < 0
  ·rw [if_pos hv]; omega
  ·rw [if_neg hv]; exact Nat.min_le_right _ _
theorem zs4 (v:Int) (n d:Nat):(if v < 0 then max (v + (n:Int)) 0 else min v (n:Int))=((sIx n d (some v):Nat):Int):=by
 show (if v < 0 then max (v + (n:Int)) 0 else min v (n:Int))=(((if v < 0 then (v + (n:Int)).toNat else min v.toNat n):Nat):Int)
 by_cases hv:v < 0
 ·simp only [if_pos hv]; omega
 ·simp only [if_neg hv]; omega
theorem yt3 (lo hi:Option Int) (n:Nat):Builtin.Slice.sliceAdjust lo hi 1 (n:Int)=(((sIx n 0 lo:Nat):Int),((sIx n n hi:Nat):Int)):=by
 have h1:¬ ((1:Int) < 0):=by omega
 unfold Builtin.Slice.sliceAdjust
 simp only [h1,if_false]
 refine Prod.ext ?_ ?_
 ·cases lo with
  | none=>rfl
  | some v=>exact zs4 v n 0
 ·cases hi with
  | none=>rfl
  | some v=>exact zs4 v n n
theorem xr3 (i j:Nat):Builtin.Slice.slicePlaces (i:Int) (j:Int) 1=j - i:=by
 unfold Builtin.Slice.slicePlaces
 have h1:(1:Int) > 0:=by omega
 simp only [h1,if_true,Int.ediv_one]
 split <;> omega
theorem wu1 {v:Value} {o:Option Int} {Q:Option Int->Shared->Prop} (p:IsPart v o) (h:Q o s):wpAny (model prog w) A (Builtin.Slice.slicePartIndex v) Q E s:=by
 cases p with
 | none=>exact slicePart_none h
 | int i t=>exact slicePart_int h
theorem sliceApplied_gen {sl:Addr} {vl vu:Value} {lo hi:Option Int} {n:Nat} {Q:Int × Int × Nat->Shared->Prop} (hs:s.heap.IsSliceOf sl vl vu .none) (pl:IsPart vl lo) (pu:IsPart vu hi)
    (h:Q (((sIx n 0 lo:Nat):Int),1,sIx n n hi - sIx n 0 lo) s):wpAny (model prog w) A (Builtin.Slice.sliceApplied (.ref sl) (pure (n:Int))) Q E s:=by
 obtain ⟨os,hos,hcs,hds⟩:=id hs
 unfold Builtin.Slice.sliceApplied Builtin.Slice.sliceFields
 refine wpAny_bind (wpAny_bind (wpAny_field hos hds (x:=vl) rfl (wpAny_bind (wpAny_field hos hds (x:=vu) rfl (wpAny_bind (wpAny_field hos hds (x:=.none) rfl (wpAny_pure ?_)))))))
 refine wpAny_bind (slicePart_none ?_)
 show wpAny _ _ (if ((1:Int) == 0)=true then _ else _) _ _ s
 rw [if_neg (by decide)]
 refine wpAny_bind (wu1 pl (wpAny_bind (wu1 pu (wpAny_bind (wpAny_pure ?_)))))
 show wpAny _ _ (match Builtin.Slice.sliceAdjust lo hi 1 (n:Int) with | (lo,hi)=>pure (lo,(1:Int),Builtin.Slice.slicePlaces lo hi 1)) _ _ s
 rw [yt3 lo hi n]
 show wpAny _ _ (pure (((sIx n 0 lo:Nat):Int),(1:Int),Builtin.Slice.slicePlaces ((sIx n 0 lo:Nat):Int) ((sIx n n hi:Nat):Int) 1)) _ _ s
 rw [xr3]
 exact wpAny_pure h
theorem yf5 (xs:Array Value) (i k:Nat):((List.range k).filterMap λ (m:Nat)=>xs[((i:Int) + (m:Int) * 1).toNat]?).toArray=((xs.toList.drop i).take k).toArray:=by
 have e:(λ (m:Nat)=>xs[((i:Int) + (m:Int) * 1).toNat]?)=λ m=>xs[i + m]?:=by
  funext m
  have:((i:Int) + (m:Int) * 1).toNat=i + m:=by omega
  rw [this]
 rw [e]
 have:=pick_run xs i k
 rw [List.filterMap_map] at this
 have e2:((λ x=>xs[x]?) ∘ λ x=>i + x)=λ m=>xs[i + m]?:=rfl
 rw [e2] at this
 rw [this]
theorem getItem_tuple_cut {t sl:Addr} {items:Array Value} {vl vu:Value} {lo hi:Option Int} {Q:Value->Shared->Prop} (ht:IsTup s.heap t items) (hs:s.heap.IsSliceOf sl vl vu .none) (pl:IsPart vl lo) (pu:IsPart vu hi)
    (hw:¬ (sIx items.size 0 lo=0 /\ sIx items.size items.size hi=items.size))
    (h:Q (.ref s.heap.objs.size) { s with heap:=s.heap.push { cls:=.type "tuple",data:=.seq ((items.toList.drop (sIx items.size 0 lo)).take (sIx items.size items.size hi - sIx items.size 0 lo)).toArray } })
    (hsz:items.size<=sizeLine):wpAny (model prog w) A (getItem (.ref t) (.ref sl)) Q E s:=by
 have htake:sizeOk (.seq ((items.toList.drop (sIx items.size 0 lo)).take (sIx items.size items.size hi - sIx items.size 0 lo)).toArray):=by
  show ((items.toList.drop (sIx items.size 0 lo)).take (sIx items.size items.size hi - sIx items.size 0 lo)).toArray.size<=sizeLine
  rw [List.size_toArray,List.length_take,List.length_drop,Array.length_toList]
  omega
 have hj:sIx items.size items.size hi<=items.size:=xq7 _ _ (Nat.le_refl _) hi
 obtain ⟨os,hos,hcs,hds⟩:=id hs
 have hTs:s.TypeIs (.ref sl) "slice" := ⟨os,hos,hcs⟩
 unfold getItem
 try with_reducible refine wpAny_holding ?_
 first | refine wpAny_bind (wpAny_pure ?_) | skip
 refine wpAny_bind (wpAny_sequenceKey ht.typeIs (by decide) ?_)
 refine wpAny_bind (wpAny_callSpecial?_slot (name:=Str.ofString "__getitem__") ht.typeIs PyProof.Rows.slot_tuple_getitem
  (wpAny_call_entry PyProof.Rows.slot_tuple_getitem ht.typeIs entry_tuple_getitem ?_ (args_tuple_getitem _ _)))
 show wpAny _ _ (Builtin.Tuple.tupleItemsOf (.ref t) >>= _) _ _ s
 refine wpAny_bind (tupleItemsOf_ ht ?_)
 refine wpAny_bind (wpAny_typeOf hTs ?_)
 rw [if_pos (by decide)]
 refine wpAny_bind (sliceApplied_gen hs pl pu ?_)
 have hno:¬ ((((sIx items.size 0 lo:Nat):Int) == 0 && (1:Int) == 1 && (sIx items.size items.size hi - sIx items.size 0 lo) == items.size)=true):=by
  intro q
  rw [Bool.and_eq_true,Bool.and_eq_true] at q
  have q1:((sIx items.size 0 lo:Nat):Int)=0:=eq_of_beq q.1.1
  have q2:sIx items.size items.size hi - sIx items.size 0 lo=items.size:=eq_of_beq q.2
  exact hw ⟨by omega,by omega⟩
 show wpAny _ _ (if (((sIx items.size 0 lo:Nat):Int) == 0 && (1:Int) == 1 && (sIx items.size items.size hi - sIx items.size 0 lo) == items.size)=true then _ else _) _ _ s
 rw [if_neg hno,yf5]
 first
  | exact wpAny_bind (m:=Builtin.Tuple.tupleExact _) (wpAny_newObj_type (wpAny_pure ⟨_,rfl,wpAny_pure h⟩) htake)
  | exact wpAny_bind (m:=Builtin.Tuple.tupleExact _) (wpAny_newObj_type (wpAny_bind (wpAny_pure (wpAny_pure ⟨_,rfl,wpAny_pure h⟩))) htake)
  | exact wpAny_bind (wpAny_bind (m:=Builtin.Tuple.tupleExact _) (wpAny_newObj_type (wpAny_pure (wpAny_pure ⟨_,rfl,wpAny_pure h⟩)) htake))
  | exact wpAny_bind (wpAny_bind (m:=Builtin.Tuple.tupleExact _) (wpAny_newObj_type (wpAny_pure ⟨_,rfl,wpAny_pure h⟩) htake))
end
end HT
namespace L2
open PySem PySem.Spec PyProof.Rows
noncomputable abbrev TO:=St->Hp->(Option Int->Hp->Prop)->Prop
noncomputable def PO (X:Cx) (e:Option Expr) (t:TO):Prop :=
 ∀ (pins:List (Addr × Obj)) (s:Shared) (σ:St) (H:Hp) (Q:Option Int->Hp->Prop),Inv X pins σ H s->t σ H Q ->
  wpAny (model X.prog X.w) X.A (evalPart e X.env) (λ u s'=>∃ o H',Inv X pins σ H' s' /\ IsPart u o /\ Q o H') X.xe s
noncomputable def xe6:TO:=λ _ H Q=>Q none H
noncomputable def wx8 (t:TE):TO:=λ σ H Q=>t σ H λ x H1=>∃ i,x=.int i /\ Q (some i) H1
theorem zs3 {ns:List Int}:∀ {us:List Value},Vals (ns.map V.int) us->IntsAre us ns:=by
 induction ns with
 | nil=>intro us r; rw [List.map_nil] at r; cases r; exact .nil
 | cons n ns ih =>
  intro us r
  rw [List.map_cons] at r
  cases r with
  | cons r1 r2 =>
   obtain ⟨t,e⟩:=r1
   subst e
   exact .cons n t (ih r2)
section
variable {X:Cx} {e:Expr} {te:TE} {lo hi:Option Expr} {tl th:TO} {pos p2:Pos}
theorem wo6:PO X none xe6:=by
 intro pins s σ H Q I h
 rw [evalPart_none]
 exact wpAny_pure ⟨none,H,I,.none,h⟩
theorem zo6 (h:PE X e te):PO X (some e) (wx8 te):=by
 intro pins s σ H Q I hw
 rw [evalPart_some]
 refine thn (h pins s σ H _ I hw) λ u s1 ⟨x,H1,I1,r1,q1⟩=>?_
 obtain ⟨i,rfl,q⟩:=q1
 obtain ⟨t,rfl⟩:=r1
 exact ⟨some i,H1,I1,.int i t,q⟩
noncomputable def SlR (X:Cx) (r:V->Option Int->Option Int->Hp->VK->Prop):Prop :=
 ∀ (pins:List (Addr × Obj)) (s:Shared) (σ:St) (H:Hp) (x:V) (v vl vu:Value) (lo hi:Option Int) (sl:Addr) (Q:VK),Inv X pins σ H s->RelV x v->s.heap.IsSliceOf sl vl vu .none->IsPart vl lo->IsPart vu hi->r x lo hi H Q ->
  ∃ T id,typeLookup (.type T) "__getitem__" = pure (some (.builtin id)) /\ s.TypeIs v T /\ wpAny (model X.prog X.w) X.A (getItem v (.ref sl)) (EP X pins σ Q) X.xe s
theorem SlR.or {r r':V->Option Int->Option Int->Hp->VK->Prop} (h:SlR X r) (h':SlR X r'):SlR X (λ x lo hi H Q=>r x lo hi H Q \/ r' x lo hi H Q):=by
 intro pins s σ H x v vl vu lo hi sl Q I rx hs pl pu q
 rcases q with q | q
 ·exact h pins s σ H x v vl vu lo hi sl Q I rx hs pl pu q
 ·exact h' pins s σ H x v vl vu lo hi sl Q I rx hs pl pu q
noncomputable def tSl (r:V->Option Int->Option Int->Hp->VK->Prop) (te:TE) (tl th:TO):TE:=λ σ H Q=>te σ H λ x H1=>tl σ H1 λ l H2=>th σ H2 λ u H3=>r x l u H3 Q
theorem xg5 {r:V->Option Int->Option Int->Hp->VK->Prop} (hr:SlR X r) (he:PE X e te) (hl:PO X lo tl) (hu:PO X hi th):PE X (.Subscript e (.Slice lo hi none p2) pos) (tSl r te tl th):=by
 intro pins s σ H Q I h
 refine Subscript_ (thn (he pins s σ H _ I h) λ v s1 ⟨x,H1,I1,r1,q1⟩=>?_)
 refine wpAny_Slice (thn (hl pins s1 σ H1 _ I1 q1) λ vl s2 ⟨l,H2,I2,pl,q2⟩=>thn (hu pins s2 σ H2 _ I2 q2) λ vu s3 ⟨u,H3,I3,pu,q3⟩=>?_)
 rw [evalPart_none]
 refine wpAny_pure ?_
 have I4:Inv X pins σ H3 { s3 with heap:=s3.heap.push { cls:=.type "slice",data:=.fields #[vl,vu,.none] } }:=I3.kept (t':=s3.toks) λ b ob q=>Heap.get?_push_of_some _ q
 obtain ⟨T,id,hT,ht,hg⟩:=hr pins { s3 with heap:=s3.heap.push { cls:=.type "slice",data:=.fields #[vl,vu,.none] } } σ H3 x v vl vu l u s3.heap.objs.size Q I4 r1 (Heap.IsSliceOf.new ..) pl pu q3
 show wpAny (model X.prog X.w) X.A (subscriptTail e (.Slice lo hi none p2) v (.ref s3.heap.objs.size)) (EP X pins σ Q) X.xe { s3 with heap:=s3.heap.push { cls:=.type "slice",data:=.fields #[vl,vu,.none] } }
 exact tail_any (ops:=[.ref s3.heap.objs.size,v]) ht hT hg (by with_unfolding_all rfl)
noncomputable def cutV (xs:List V) (lo hi:Option Int):List V:=(xs.drop (HT.sIx xs.length 0 lo)).take (HT.sIx xs.length xs.length hi - HT.sIx xs.length 0 lo)
theorem zq1 (xs:List V) (lo hi:Option Int):(cutV xs lo hi).length<=xs.length:=by
 unfold cutV
 rw [List.length_take,List.length_drop]
 omega
noncomputable def rSlT (K:PySem.W.Frag):V->Option Int->Option Int->Hp->VK->Prop:=λ x lo hi H Q=>∃ a xs,x=.ref a /\ SqT K H a xs ∧
 ¬ (HT.sIx xs.length 0 lo=0 /\ HT.sIx xs.length xs.length hi=xs.length) /\ ∀ p,H p=none->Q (.ref p) (upd H p (.tup (cutV xs lo hi)))
theorem wl7:SlR X (rSlT X.K):=by
 intro pins s σ H x v vl vu lo hi sl Q I rx hs pl pu h
 obtain ⟨a,xs,rfl,hx,hw,q⟩:=h
 cases rx
 obtain ⟨its,r,ht,hz⟩:=I.tuple hx
 have hlen:its.toArray.size=xs.length:=by rw [List.size_toArray]; exact r.length.symm
 refine ⟨"tuple",_,PyProof.Rows.slot_tuple_getitem.lookup,ht.typeIs,?_⟩
 refine HT.getItem_tuple_cut ht hs pl pu (by rw [hlen]; exact hw) ?_ (by rw [hlen]; exact hz)
 rw [hlen]
 refine ⟨.ref s.heap.objs.size,_,I.laid (t':=s.toks) (o:=.tup (cutV xs lo hi)) (λ b ob q=>Heap.get?_push_of_some _ q) (Nat.le_refl _) ?_,rfl,q _ (I.hok.fresh (Nat.le_refl _))⟩
 exact ⟨Nat.le_trans (zq1 xs lo hi) hz,_,(r.drop (HT.sIx xs.length 0 lo)).take (HT.sIx xs.length xs.length hi - HT.sIx xs.length 0 lo),IsTup.new _ _⟩
noncomputable def xi9 (K:PySem.W.Frag):R2:=λ x y H Q=>∃ a b xs ys,x=.ref a /\ y=.ref b /\ SqT K H a xs /\ SqT K H b ys /\ xs ≠ [] /\ xs.length + ys.length<=sizeLine ∧
 (ys=[]->Q (.ref a) H) /\ (ys ≠ []->∀ p,H p=none->Q (.ref p) (upd H p (.tup (xs ++ ys))))
theorem Vals.nil_iff {xs:List V} {us:List Value} (r:Vals xs us):us=[] ↔ xs=[]:=by
 cases r with
 | nil=>simp
 | cons _ _=>simp
theorem xt6:OpR X (binaryOp .Add) (xi9 X.K):=by
 intro pins s σ H x y v u Q I rx ry h
 obtain ⟨a,b,xs,ys,rfl,rfl,ha,hb,hx,hz,q1,q2⟩:=h
 cases rx
 cases ry
 obtain ⟨its,r1,p1,_⟩:=I.tuple ha
 obtain ⟨its2,r2,p2,_⟩:=I.tuple hb
 refine HT.cat_tup p1 p2 (λ z=>hx (r1.nil_iff.mp z)) (λ z=>⟨.ref a,H,I,rfl,q1 (r2.nil_iff.mp z)⟩) (λ z=>?_) (by rw [<- r1.length,<- r2.length]; exact hz)
 refine ⟨.ref s.heap.objs.size,_,I.laid (t':=s.toks) (o:=.tup (xs ++ ys)) (λ b ob q=>Heap.get?_push_of_some _ q) (Nat.le_refl _) ?_,rfl,q2 (λ w=>z (r2.nil_iff.mpr w)) _ (I.hok.fresh (Nat.le_refl _))⟩
 exact ⟨by rw [List.length_append]; exact hz,_,r1.append r2,IsTup.new _ _⟩
end
end L2
namespace L2
open PySem PySem.Spec PyProof.Rows
noncomputable def ixN (n:Nat) (i:Int):Option Nat:=if 0<=i then (if i < n then some i.toNat else none) else if -(n:Int)<=i then some (i + n).toNat else none
noncomputable def atI {α:Type} (xs:List α) (i:Int):Option α:=(ixN xs.length i).bind λ j=>xs[j]?
theorem zm4 {n:Nat} {i:Int} {j:Nat} (h:ixN n i=some j):seqIndex? i n=some j /\ j < n /\ -(n:Int)<=i /\ i < n:=by
 unfold ixN at h
 by_cases h0:0<=i
 ·rw [if_pos h0] at h
  by_cases h1:i < n
  ·rw [if_pos h1] at h
   have e:i.toNat=j:=Option.some.inj h
   exact ⟨by rw [seqIndex_of h0 h1,e],by omega,by omega,h1⟩
  ·rw [if_neg h1] at h; cases h
 ·rw [if_neg h0] at h
  by_cases h1 : -(n:Int)<=i
  ·rw [if_pos h1] at h
   have e:(i + n).toNat=j:=Option.some.inj h
   exact ⟨by rw [seqIndex_neg (by omega) h1,e],by omega,h1,by omega⟩
  ·rw [if_neg h1] at h; cases h
theorem wv4 {α:Type} {xs:List α} {i:Int} {v:α} (h:atI xs i=some v):∃ j,seqIndex? i xs.length=some j /\ xs[j]?=some v /\ j < xs.length /\ -(xs.length:Int)<=i /\ i < xs.length:=by
 unfold atI at h
 cases e:ixN xs.length i with
 | none=>rw [e] at h; cases h
 | some j =>
  rw [e] at h
  obtain ⟨h1,h2,h3,h4⟩:=zm4 e
  exact ⟨j,h1,h,h2,h3,h4⟩
noncomputable def yw4 (b:Expr):Prop:=∀ o i,subscripted b false o i=operate [o,i] (getItem o i)
noncomputable def IxR (X:Cx) (r:R2):Prop :=
 ∀ (value slice:Expr) (pins:List (Addr × Obj)) (s:Shared) (σ:St) (H:Hp) (x y:V) (v u:Value) (Q:VK),Inv X pins σ H s->RelV x v->RelV y u->r x y H Q ->
  subscripted slice false v u=operate [v,u] (getItem v u)->wpAny (model X.prog X.w) X.A (subscriptTail value slice v u) (EP X pins σ Q) X.xe s
noncomputable def MtR (X:Cx) (id:String) (r:V->List V->Hp->VK->Prop):Prop :=
 ∀ (pins:List (Addr × Obj)) (s:Shared) (σ:St) (H:Hp) (x:V) (xs:List V) (v:Value) (us:List Value) (Q:VK),Inv X pins σ H s->RelV x v->Vals xs us->r x xs H Q ->
  wpAny (model X.prog X.w) X.A (call (.builtin id) (v :: us)) (EP X pins σ Q) X.xe s
section
variable {X:Cx} {a b:Expr} {ta tb:TE} {pos:Pos}
theorem IxR.or {r r':R2} (h:IxR X r) (h':IxR X r'):IxR X (λ x y H Q=>r x y H Q \/ r' x y H Q):=by
 intro value slice pins s σ H x y v u Q I rx ry q hs
 rcases q with q | q
 ·exact h value slice pins s σ H x y v u Q I rx ry q hs
 ·exact h' value slice pins s σ H x y v u Q I rx ry q hs
theorem wk9 {r:R2} (hr:IxR X r) (ha:PE X a ta) (hb:PE X b tb) (hs:yw4 b):PE X (.Subscript a b pos) (tOp r ta tb):=by
 intro pins s σ H Q I h
 exact Subscript_ (binT ha hb I h λ v u s2 x y H2 I2 rx ry q=>hr a b pins s2 σ H2 x y v u Q I2 rx ry q (hs _ _))
noncomputable def rIxL (K:PySem.W.Frag):R2:=λ x y H Q=>∃ p xs i v,x=.ref p /\ y=.int i /\ SqL K H p xs /\ atI xs i=some v /\ Q v H
noncomputable def rIxT (K:PySem.W.Frag):R2:=λ x y H Q=>∃ p xs i v,x=.ref p /\ y=.int i /\ SqT K H p xs /\ atI xs i=some v /\ Q v H
theorem ix_list:IxR X (rIxL X.K):=by
 intro value slice pins s σ H x y v u Q I rx ry h hs
 obtain ⟨p,xs,i,z,rfl,rfl,hq,he,q⟩:=h
 cases rx
 obtain ⟨t,rfl⟩:=ry
 obtain ⟨its,r,pl,hz⟩:=I.list hq
 obtain ⟨j,h1,h2,h3,h4,h5⟩:=wv4 he
 obtain ⟨w,ew,rw'⟩:=r.get h2
 have hl:=r.length
 have hn:=ym2
 have fin:EP X pins σ Q w s:=⟨z,H,I,rw',q⟩
 by_cases h0:0<=i
 ·have hj:i.toNat=j:=by
    rw [seqIndex_of h0 h5] at h1
    exact Option.some.inj h1
  exact item_listR pl.isList h0 (by omega) (by rw [hj]; simpa using ew) fin hs
 ·have hj:(i + (its.toArray.size:Int)).toNat=j:=by
    rw [seqIndex_neg (by omega) h4] at h1
    rw [List.size_toArray,<- hl]
    exact Option.some.inj h1
  exact subscriptTail_builtinR (x:=w) pl.isList.typeIs slot_list_getitem.lookup
   (wpAny_getItem_list_neg (Q:=λ r s'=>r=w /\ EP X pins σ Q r s') pl.isList (by omega) (by rw [List.size_toArray] <;> omega) (by omega) (by rw [hj]; simpa using ew) ⟨rfl,fin⟩) hs
theorem zq8:IxR X (rIxT X.K):=by
 intro value slice pins s σ H x y v u Q I rx ry h hs
 obtain ⟨p,xs,i,z,rfl,rfl,hq,he,q⟩:=h
 cases rx
 obtain ⟨t,rfl⟩:=ry
 obtain ⟨its,r,pl,hz⟩:=I.tuple hq
 obtain ⟨j,h1,h2,h3,h4,h5⟩:=wv4 he
 obtain ⟨w,ew,rw'⟩:=r.get h2
 have hl:=r.length
 have hn:=ym2
 have fin:EP X pins σ Q w s:=⟨z,H,I,rw',q⟩
 exact subscriptTail_builtinR (x:=w) pl.typeIs slot_tuple_getitem.lookup
  (getItem_tuple (j:=j) (Q:=λ r s'=>r=w /\ EP X pins σ Q r s') pl (by omega) (by omega) (by rw [List.size_toArray,<- hl]; exact h1) (by simpa using ew) ⟨rfl,fin⟩) hs
theorem wr3 (its:List Value) (n j:Nat) (u:Value):Obj.mapSeq (·.setIfInBounds j u) { cls:=.type "list",data:=.seq its.toArray n }={ cls:=.type "list",data:=.seq (its.set j u).toArray n }:=by
 simp [Obj.mapSeq]
theorem Inv.lst {pins:List (Addr × Obj)} {σ:St} {H:Hp} {s:Shared} {p:Addr} {xs:List V} (I:Inv X pins σ H s) (h:H p=some (.lst xs)) :
    ∃ (its:List Value) (n:Nat),Vals xs its /\ s.heap.get? p=some { cls:=.type "list",data:=.seq its.toArray n } /\ xs.length<=sizeLine:=by
 obtain ⟨z,its,n,r,e⟩:=I.hok p _ h
 exact ⟨its,n,r,e,z⟩
theorem Inv.lstUpd {pins:List (Addr × Obj)} {σ:St} {H:Hp} {s:Shared} {p:Addr} {xs ys:List V} {its its':List Value} {n n':Nat} {f:Obj->Obj} (I:Inv X pins σ H s) (h:H p=some (.lst xs))
    (ho:s.heap.get? p=some { cls:=.type "list",data:=.seq its.toArray n }) (hf:f { cls:=.type "list",data:=.seq its.toArray n }={ cls:=.type "list",data:=.seq its'.toArray n' }) (r:Vals ys its') (hz:ys.length<=sizeLine) (t:Nat) :
    Inv X pins σ (upd H p (.lst ys)) { s with heap:=s.heap.update p f,toks:=t }:=by
 have e:(s.heap.update p f).get? p=some { cls:=.type "list",data:=.seq its'.toArray n' }:=by
  rw [Heap.get?_update_self f ho (by rw [hf] <;> rfl),hf]
 refine I.write (x:=p) (e:=p) (by rw [h]; trivial) (.inl rfl) (λ b u hb q=>(Heap.get?_update_other _ _ (Ne.symm hb)).trans q) ⟨_,e⟩ ?_
 exact ⟨hz,its',n',r,e⟩
noncomputable def zh9:V->V->V->Hp->(Hp->Prop)->Prop:=λ o i v H Q=>∃ p xs k j,o=.ref p /\ i=.int k /\ H p=some (.lst xs) /\ ixN xs.length k=some j /\ Q (upd H p (.lst (xs.set j v)))
theorem za2:PSet X zh9:=by
 intro pins s σ H o i v ov iv u Q I ro ri rv h
 obtain ⟨p,xs,k,j,rfl,rfl,hp,hj,q⟩:=h
 cases ro
 obtain ⟨t,rfl⟩:=ri
 obtain ⟨its,n,r,ho,hz⟩:=I.lst hp
 obtain ⟨h1,h2,h3,h4⟩:=zm4 hj
 have hl:=r.length
 have hn:=ym2
 have I':Inv X pins σ (upd H p (.lst (xs.set j v))) { s with heap:=s.heap.update p (Obj.mapSeq (·.setIfInBounds j u)) } :=
  I.lstUpd hp ho (wr3 its n j u) (r.set rv j) (by rw [List.length_set]; exact hz) s.toks
 by_cases h0:0<=k
 ·have hk:k.toNat=j:=by
    rw [seqIndex_of h0 h4] at h1
    exact Option.some.inj h1
  exact PySem.W.ki_setAt ho h0 (by omega) (by rw [List.size_toArray,<- hl]; exact h4) (by rw [hk]; exact ⟨_,I',q⟩)
 ·have hk:(k + (its.toArray.size:Int)).toNat=j:=by
    rw [seqIndex_neg (by omega) h3] at h1
    rw [List.size_toArray,<- hl]
    exact Option.some.inj h1
  exact PySem.W.ki_setBack ho (by omega) (by rw [List.size_toArray,<- hl]; exact h3) (by omega) (by rw [hk]; exact ⟨_,I',q⟩)
theorem yj2 (lo hi:Option Int) (n:Nat):(sliceBounds lo hi none n).1=((HT.sIx n 0 lo:Nat):Int) /\ (sliceBounds lo hi none n).2.1=((HT.sIx n n hi:Nat):Int) /\ (sliceBounds lo hi none n).2.2=1:=by
 refine ⟨?_,?_,rfl⟩
 ·cases lo with
  | none=>simp [sliceBounds,HT.sIx]
  | some i =>
   simp only [sliceBounds,HT.sIx,Option.getD_none,show (1:Int) > 0 by decide,if_true]
   by_cases h:i < 0
   ·simp only [h,if_true] <;> omega
   ·simp only [h,if_false] <;> omega
 ·cases hi with
  | none=>simp [sliceBounds,HT.sIx]
  | some i =>
   simp only [sliceBounds,HT.sIx,Option.getD_none,show (1:Int) > 0 by decide,if_true]
   by_cases h:i < 0
   ·simp only [h,if_true] <;> omega
   ·simp only [h,if_false] <;> omega
theorem ya2 (its:List Value) (lo hi:Option Int):slicePick its.toArray lo hi none=((its.drop (HT.sIx its.length 0 lo)).take (HT.sIx its.length its.length hi - HT.sIx its.length 0 lo)).toArray:=by
 obtain ⟨h1,h2,h3⟩:=yj2 lo hi its.toArray.size
 unfold slicePick
 rw [h1,h2,h3]
 simp only [sliceRange_one,pick_run,List.size_toArray] <;> rfl
noncomputable def rSlL (K:PySem.W.Frag):V->Option Int->Option Int->Hp->VK->Prop:=λ x lo hi H Q=>∃ a xs,x=.ref a /\ SqL K H a xs /\ ∀ p,H p=none->Q (.ref p) (upd H p (.lst (cutV xs lo hi)))
theorem xh6:SlR X (rSlL X.K):=by
 intro pins s σ H x v vl vu lo hi sl Q I rx hs pl pu h
 obtain ⟨a,xs,rfl,hx,q⟩:=h
 cases rx
 obtain ⟨its,r,ht,hz⟩:=I.list hx
 have hlen:=r.length
 refine ⟨"list",_,slot_list_getitem.lookup,ht.isList.typeIs,?_⟩
 refine wpAny_getItem_list_slice ht.isList hs pl pu .none (by simp) ?_ (by rw [List.size_toArray] <;> omega)
 rw [ya2,<- hlen]
 refine ⟨.ref s.heap.objs.size,_,I.laid (t':=s.toks) (o:=.lst (cutV xs lo hi)) (λ b ob q=>Heap.get?_push_of_some _ q) (Nat.le_refl _) ?_,rfl,q _ (I.hok.fresh (Nat.le_refl _))⟩
 exact ⟨Nat.le_trans (zq1 xs lo hi) hz,_,0,(r.drop (HT.sIx xs.length 0 lo)).take (HT.sIx xs.length xs.length hi - HT.sIx xs.length 0 lo),Heap.get?_push_size _ rfl⟩
noncomputable def wd2:V->Bool
 | .non=>true
 | .bl _=>true
 | .int _=>true
 | .str _=>true
 | _=>false
noncomputable def eqV:V->V->Bool
 | .non,.non=>true
 | .bl a,.bl b=>a == b
 | .bl a,.int b=>(if a then 1 else 0) == b
 | .int a,.bl b=>a == (if b then 1 else 0)
 | .int a,.int b=>a == b
 | .str a,.str b=>a == b
 | _,_=>false
theorem ws8 {A:Around} {s:Shared} {y x:V} {u v:Value} (ry:RelV y u) (rx:RelV x v) (fy:wd2 y=true) (fx:wd2 x=true):SeqAt.EqAt A s u v (eqV y x):=by
 cases y with
 | non =>
  cases ry
  cases x with
  | non=>cases rx; exact SeqAt.EqAt.same _
  | bl b=>cases rx; exact SeqAt.EqAt.none_bool b
  | int b=>obtain ⟨t,rfl⟩:=rx; exact SeqAt.EqAt.none_int b t
  | str b=>obtain ⟨t,rfl⟩:=rx; exact SeqAt.EqAt.none_str b t
  | _=>exact absurd (show false=true from fx) Bool.false_ne_true
 | bl a =>
  cases ry
  cases x with
  | non=>cases rx; exact SeqAt.EqAt.bool_none a
  | bl b=>cases rx; exact SeqAt.EqAt.bool_bool a b
  | int b=>obtain ⟨t,rfl⟩:=rx; exact SeqAt.EqAt.bool_int a b t
  | str b=>obtain ⟨t,rfl⟩:=rx; exact SeqAt.EqAt.bool_str a b t
  | _=>exact absurd (show false=true from fx) Bool.false_ne_true
 | int a =>
  obtain ⟨t',rfl⟩:=ry
  cases x with
  | non=>cases rx; exact SeqAt.EqAt.int_none a t'
  | bl b=>cases rx; exact SeqAt.EqAt.int_bool a t' b
  | int b=>obtain ⟨t,rfl⟩:=rx; exact SeqAt.EqAt.int_int a t' b t
  | str b=>obtain ⟨t,rfl⟩:=rx; exact SeqAt.EqAt.int_str a t' b t
  | _=>exact absurd (show false=true from fx) Bool.false_ne_true
 | str a =>
  obtain ⟨t',rfl⟩:=ry
  cases x with
  | non=>cases rx; exact SeqAt.EqAt.str_none a t'
  | bl b=>cases rx; exact SeqAt.EqAt.str_bool a t' b
  | int b=>obtain ⟨t,rfl⟩:=rx; exact SeqAt.EqAt.str_int a t' b t
  | str b=>obtain ⟨t,rfl⟩:=rx; exact SeqAt.EqAt.str_str a t' b t
  | _=>exact absurd (show false=true from fx) Bool.false_ne_true
 | _=>exact absurd (show false=true from fy) Bool.false_ne_true
noncomputable def eqU (x:V) (u:Value):Bool:=match u with
 | .none=>eqV .non x
 | .bool b=>eqV (.bl b) x
 | .int i _=>eqV (.int i) x
 | .str z _=>eqV (.str z) x
 | _=>false
theorem wx5 {x y:V} {u:Value} (r:RelV y u) (f:wd2 y=true):eqU x u=eqV y x:=by
 cases y with
 | non=>cases r; rfl
 | bl b=>cases r; rfl
 | int i=>obtain ⟨t,rfl⟩:=r; rfl
 | str z=>obtain ⟨t,rfl⟩:=r; rfl
 | _=>exact absurd (show false=true from f) Bool.false_ne_true
theorem wr1 {x:V}:∀ {xs:List V} {us:List Value},Vals xs us->xs.all wd2=true->us.any (eqU x)=xs.any λ y=>eqV y x
 | _,_,.nil,_=>rfl
 | y :: xs,u :: us,.cons r t,f=>by
  rw [List.all_cons,Bool.and_eq_true] at f
  rw [List.any_cons,List.any_cons,wx5 r f.1,wr1 t f.2]
theorem ye1 {A:Around} {s:Shared} {x:V} {v:Value} (rx:RelV x v) (fx:wd2 x=true):∀ {xs:List V} {us:List Value},Vals xs us->xs.all wd2=true->∀ u ∈ us,SeqAt.EqAt A s u v (eqU x u)
 | _,_,.nil,_=>λ u hu=>by cases hu
 | y :: xs,u :: us,.cons r t,f=>λ u' hu=>by
  rw [List.all_cons,Bool.and_eq_true] at f
  rcases List.mem_cons.mp hu with rfl | hu
  ·rw [wx5 r f.1]; exact ws8 r rx f.1 fx
  ·exact ye1 rx fx t f.2 u' hu
noncomputable def inV (x:V) (xs:List V):Bool:=xs.any λ y=>eqV y x
noncomputable def rIn (K:PySem.W.Frag) (neg:Bool):R2:=λ x y H Q=>∃ p xs,y=.ref p /\ (SqL K H p xs \/ SqT K H p xs) /\ wd2 x=true /\ xs.all wd2=true /\ Q (.bl (if neg then !inV x xs else inV x xs)) H
theorem op_in_seq:OpR X (compareOp .In) (rIn X.K false):=by
 intro pins s σ H x y v u Q I rx ry h
 obtain ⟨p,xs,rfl,hq,fx,fs,q⟩:=h
 cases ry
 rcases hq with hq | hq
 ·obtain ⟨its,r,pl,hz⟩:=I.list hq
  refine SeqAt.in_listAt (eqU x) pl.isList (λ w hw=>ye1 rx fx r fs w (by simpa using hw)) ⟨.bl _,H,I,rfl,?_⟩
  rw [show its.toArray.any (eqU x)=its.any (eqU x) by simp,wr1 r fs]
  exact q
 ·obtain ⟨its,r,pl,hz⟩:=I.tuple hq
  refine SeqAt.in_tupleAt (eqU x) pl (λ w hw=>ye1 rx fx r fs w (by simpa using hw)) ⟨.bl _,H,I,rfl,?_⟩
  rw [show its.toArray.any (eqU x)=its.any (eqU x) by simp,wr1 r fs]
  exact q
theorem op_notIn_seq:OpR X (compareOp .NotIn) (rIn X.K true):=by
 intro pins s σ H x y v u Q I rx ry h
 obtain ⟨p,xs,rfl,hq,fx,fs,q⟩:=h
 cases ry
 rcases hq with hq | hq
 ·obtain ⟨its,r,pl,hz⟩:=I.list hq
  refine SeqAt.notIn_listAt (eqU x) pl.isList (λ w hw=>ye1 rx fx r fs w (by simpa using hw)) ⟨.bl _,H,I,rfl,?_⟩
  rw [show its.toArray.any (eqU x)=its.any (eqU x) by simp,wr1 r fs]
  exact q
 ·obtain ⟨its,r,pl,hz⟩:=I.tuple hq
  refine SeqAt.notIn_tupleAt (eqU x) pl (λ w hw=>ye1 rx fx r fs w (by simpa using hw)) ⟨.bl _,H,I,rfl,?_⟩
  rw [show its.toArray.any (eqU x)=its.any (eqU x) by simp,wr1 r fs]
  exact q
theorem wl2:OpR X (compareOp .NotIn) (λ x y H Q=>∃ i j,x=.str i /\ y=.str j /\ Q (.bl (!(!(Builtin.Str.occurrences j i 0 j.length 1).isEmpty))) H):=by
 intro pins s σ H x y v u Q I rx ry h
 obtain ⟨i,j,rfl,rfl,q⟩:=h
 obtain ⟨t,rfl⟩:=rx
 obtain ⟨t',rfl⟩:=ry
 exact notIn_str ⟨.bl _,H,I,rfl,q⟩
theorem call_len_seq:CallR X (.builtin "len") (λ xs H Q=>∃ p ys,xs=[.ref p] /\ (SqL X.K H p ys \/ SqT X.K H p ys) /\ Q (.int ys.length) H):=by
 intro pins s σ H xs us Q I r h
 obtain ⟨p,ys,rfl,hq,q⟩:=h
 obtain ⟨u,rfl,rx⟩:=yh2 r
 cases rx
 have hn:=ym2
 rcases hq with hq | hq
 ·obtain ⟨its,r',pl,hz⟩:=I.list hq
  have hlen:=r'.length
  exact Calls.call_len_list pl.isList (by simp only [List.size_toArray] <;> omega) ⟨.int ys.length,H,I.tok _,⟨s.toks + 1,by rw [List.size_toArray,hlen]⟩,q⟩
 ·obtain ⟨its,r',pl,hz⟩:=I.tuple hq
  have hlen:=r'.length
  exact len_tuple pl (by simp only [List.size_toArray] <;> omega) ⟨.int ys.length,H,I.tok _,⟨s.toks + 1,by rw [List.size_toArray,hlen]⟩,q⟩
theorem zp2:CallR X (.builtin "len") (λ xs H Q=>∃ z,xs=[.str z] /\ z.length<=sizeLine /\ Q (.int z.length) H):=by
 intro pins s σ H xs us Q I r h
 obtain ⟨z,rfl,hz,q⟩:=h
 obtain ⟨u,rfl,t,rfl⟩:=yh2 r
 have hn:=ym2
 exact len_str (by omega) ⟨.int z.length,H,I.tok _,⟨_,rfl⟩,q⟩
theorem CallR.or {f:Value} {r r':List V->Hp->VK->Prop} (h:CallR X f r) (h':CallR X f r'):CallR X f (λ xs H Q=>r xs H Q \/ r' xs H Q):=by
 intro pins s σ H xs us Q I rs q
 rcases q with q | q
 ·exact h pins s σ H xs us Q I rs q
 ·exact h' pins s σ H xs us Q I rs q
theorem zf2:CallR X (.type "tuple") (λ xs H Q=>∃ p ys,xs=[.ref p] /\ ((SqL X.K H p ys /\ ∀ l,H l=none->Q (.ref l) (upd H l (.tup ys))) \/ (SqT X.K H p ys /\ Q (.ref p) H))):=by
 intro pins s σ H xs us Q I r h
 obtain ⟨p,ys,rfl,h⟩:=h
 obtain ⟨u,rfl,rx⟩:=yh2 r
 cases rx
 rcases h with ⟨hq,q⟩ | ⟨hq,q⟩
 ·obtain ⟨its,r',pl,hz⟩:=I.list hq
  have hlen:=r'.length
  refine call_tuple_list pl.isList (λ h' kp=>?_) (by simp only [List.size_toArray] <;> omega)
  have I1:Inv X pins σ H { s with heap:=h' }:=I.kept (t':=s.toks) kp
  have I2:Inv X pins σ (upd H h'.objs.size (.tup ys)) { s with heap:=h'.push { cls:=.type "tuple",data:=.seq its.toArray } } :=
   I1.laid (t':=s.toks) (λ b o e=>Heap.get?_push_of_some _ e) (Nat.le_refl _) (show ObjOk X.prog X.w _ _ _ (.tup ys) from ⟨hz,its,r',IsTup.new _ _⟩)
  exact ⟨.ref h'.objs.size,_,I2,rfl,q _ (I1.hok.fresh (Nat.le_refl _))⟩
 ·obtain ⟨its,r',pl,hz⟩:=I.tuple hq
  exact call_tuple_same pl ⟨.ref p,H,I,rfl,q⟩
noncomputable def tyV (K:PySem.W.Frag) (T:String) (x:V) (H:Hp):Prop:=match x with
 | .str _=>T = "str"
 | .int _=>T = "int"
 | .ref p=>(T = "list" /\ ∃ xs,SqL K H p xs) \/ (T = "tuple" /\ ∃ o,K.lookup p=some o /\ o.cls=.type "tuple" /\ o.dict=none) ∨
     (T = "dict" /\ ((∃ kvs,H p=some (.dK kvs)) \/ ∃ kvs,H p=some (.dT kvs))) \/ (T = "set" /\ ∃ S n,H p=some (.set S n))
 | _=>False
theorem yg7 {pins:List (Addr × Obj)} {σ:St} {H:Hp} {s:Shared} {T:String} {x:V} {v:Value} (I:Inv X pins σ H s) (r:RelV x v) (ty:tyV X.K T x H) :
    s.TypeIs v T /\ ∀ a,v=.ref a->∃ ob,s.heap.get? a=some ob /\ ob.dict=none:=by
 cases x with
 | str z =>
  obtain ⟨t,rfl⟩:=r
  cases (show T = "str" from ty)
  exact ⟨typeIs_str s z t,λ _ e=>nomatch e⟩
 | int i =>
  obtain ⟨t,rfl⟩:=r
  cases (show T = "int" from ty)
  exact ⟨typeIs_int s i t,λ _ e=>nomatch e⟩
 | ref p =>
  cases r
  rcases ty with ⟨rfl,xs,hq⟩ | ⟨rfl,o,hk,hc,hd⟩ | ⟨rfl,hk⟩ | ⟨rfl,S,n,hk⟩
  ·obtain ⟨its,_,pl,_⟩:=I.list hq
   refine ⟨pl.isList.typeIs,λ a e=>?_⟩
   cases e
   obtain ⟨o,n,e,c,hd,_⟩:=pl
   exact ⟨o,e,hd⟩
  ·refine ⟨⟨o,I.kIn p o hk,hc⟩,λ a e=>?_⟩
   cases e
   exact ⟨o,I.kIn _ o hk,hd⟩
  ·have z:∃ o,s.heap.get? p=some o /\ o.ExactDict:=by
     rcases hk with ⟨kvs,hk⟩ | ⟨kvs,hk⟩
     ·obtain ⟨_,_,_,_,o,_,_,e,ex,_⟩:=I.hok p _ hk
      exact ⟨o,e,ex⟩
     ·obtain ⟨_,_,_,_,o,_,_,e,ex,_⟩:=I.hok p _ hk
      exact ⟨o,e,ex⟩
   obtain ⟨o,e,ex⟩:=z
   refine ⟨⟨o,e,ex.1⟩,λ a e2=>?_⟩
   cases e2
   exact ⟨o,e,ex.2.1⟩
  ·obtain ⟨o,_,_,_,e,ex,_⟩:=I.hok p _ hk
   refine ⟨⟨o,e,ex.1⟩,λ a e2=>?_⟩
   cases e2
   exact ⟨o,e,ex.2.1⟩
 | _=>exact False.elim ty
noncomputable def tBM (K:PySem.W.Frag) (T:String) (r:V->List V->Hp->VK->Prop) (to:TE) (t:TA):TE:=λ σ H Q=>to σ H λ x H1=>tyV K T x H1 /\ t σ H1 λ xs H2=>r x xs H2 Q
variable {o e:Expr} {es:List Expr} {to:TE} {t:TA} {name:Str} {apos cpos:Pos} {T id:String} {r:V->List V->Hp->VK->Prop}
theorem xl9 (pa:PlainAttrs T) (slot:Slot T name id) (hty:typeOf (.builtin id)=pure (.type "method_descriptor")) (hm:MtR X id r) (ho:PE X o to) (ha:PA X (e :: es) t)
    (hbase:attributeBase o name X.env (eval o X.env)=eval o X.env:=by rfl)
    (hfew:((backTo cpos (starEach (e :: es) X.env)).all (λ x=>!x.1) && (backToKw cpos (keywordEach [] X.env)).all (λ x=>x.1.isSome)
     && decide ((e :: es).length + ([]:List Keyword).length + (if ([]:List Keyword).isEmpty then 0 else 1) < 30))=true:=by rfl)
    (hline:(apos.endLine == cpos.line)=true:=by rfl) (hs:starEach (e :: es) X.env=(false,eval e X.env) :: starEach es X.env:=by rfl) (hplain:(backTo cpos (starEach es X.env)).any (·.1)=false:=by rfl) :
    PE X (.Call (.Attribute o name apos) (e :: es) [] cpos) (tBM X.K T r to t):=by
 intro pins s σ H Q I h
 refine wpAny_Call_method_late hbase hfew hline rfl (thn (ho pins s σ H _ I h) λ v s1 ⟨x,H1,I1,r1,ty,q1⟩=>?_)
 obtain ⟨h1,h2⟩:=yg7 I1 r1 ty
 refine ⟨T,id,pa,slot,hty,h1,h2,?_⟩
 have hA:=ha cpos pins s1 σ H1 _ I1 q1
 rw [hs] at hA ⊢
 refine Calls.callWith_builtin (by show (false || (backTo cpos (starEach es X.env)).any (·.1))=false; rw [hplain] <;> rfl) (Calls.evalArgs_plain ?_)
 exact thn hA λ us s2 ⟨vs,H2,I2,r2,q2⟩=>hm pins s2 σ H2 x vs v us Q I2 r1 r2 q2
end
end L2
namespace L2
open PySem PySem.Spec PyProof.Rows
noncomputable def MtM (X:Cx) (id:String) (r:V->List V->Hp->VK->Prop):Prop :=
 ∀ (pins:List (Addr × Obj)) (s:Shared) (σ:St) (H:Hp) (x:V) (xs:List V) (v:Value) (us:List Value) (Q:VK),Inv X pins σ H s->RelV x v->Vals xs us->r x xs H Q ->
  wpAny (model X.prog X.w) X.A (call (.builtin id) (v :: us)) (EP X pins σ Q) X.xe s
theorem Vals.one:∀ {x:V} {us:List Value},Vals [x] us->∃ u,us=[u] /\ RelV x u
 | _,_,.cons r .nil=>⟨_,rfl,r⟩
theorem Vals.rep {xs:List V} {us:List Value} (h:Vals xs us):∀ k:Nat,Vals (List.replicate k xs).flatten (List.replicate k us).flatten
 | 0=>.nil
 | k + 1=>by
  rw [List.replicate_succ,List.replicate_succ,List.flatten_cons,List.flatten_cons]
  exact Vals.append h (Vals.rep h k)
theorem zp1 (its:List Value):∀ (k:Nat) (acc:List Value),
    List.foldl (λ x1 x2=>x1 ++ x2) acc.toArray (List.replicate k its.toArray)=(acc ++ (List.replicate k its).flatten).toArray
 | 0,acc=>by simp
 | k + 1,acc=>by
  have e:acc.toArray ++ its.toArray=(acc ++ its).toArray:=by simp
  have e2:(acc ++ its) ++ (List.replicate k its).flatten=acc ++ (List.replicate (k + 1) its).flatten:=by
   rw [List.replicate_succ,List.flatten_cons,List.append_assoc]
  rw [<- e2,<- zp1 its k (acc ++ its),<- e,List.replicate_succ,List.foldl_cons]
section
variable {X:Cx} {pins:List (Addr × Obj)} {σ:St} {H:Hp} {s:Shared} {l b:Addr} {xs ys zs:List V}
theorem Inv.lset {its its':List Value} {n:Nat} {f:Array Value->Array Value} {t':Nat} (I:Inv X pins σ H s) (hH:H l=some (.lst xs))
    (e:s.heap.get? l=some { cls:=.type "list",data:=.seq its.toArray n }) (hf:f its.toArray=its'.toArray) (hv:Vals ys its') (hz:ys.length<=sizeLine) :
    Inv X pins σ (upd H l (.lst ys)) { s with heap:=s.heap.update l (Obj.mapSeq f),toks:=t' }:=by
 have q:=PySem.IsL.update e f
 rw [hf] at q
 refine I.write (x:=l) (e:=l) (by rw [hH]; exact trivial) (.inl rfl) (λ b' u hb hu=>(Heap.get?_update_other s.heap (Obj.mapSeq f) (Ne.symm hb)).trans hu) ⟨_,q⟩ ?_
 exact ⟨hz,its',_,hv,q⟩
theorem Inv.lnew {its:List Value} {t':Nat} (I:Inv X pins σ H s) (hv:Vals ys its) (hz:ys.length<=sizeLine) :
    Inv X pins σ (upd H s.heap.objs.size (.lst ys)) { s with heap:=s.heap.push { cls:=.type "list",data:=.seq its.toArray },toks:=t' } :=
 I.laid (λ _ _ q=>Heap.get?_push_of_some _ q) (Nat.le_refl _) ⟨hz,its,0,hv,Heap.get?_push_size _ rfl⟩
theorem Inv.fresh (I:Inv X pins σ H s):H s.heap.objs.size=none:=I.hok.fresh (Nat.le_refl _)
theorem Inv.lstM (I:Inv X pins σ H s) (hH:H l=some (.lst xs)):xs.length<=sizeLine /\ ∃ (its:List Value) (n:Nat),Vals xs its /\ xs.length=its.length /\ s.heap.get? l=some { cls:=.type "list",data:=.seq its.toArray n }:=by
 obtain ⟨z,its,n,r,e⟩:=I.hok l _ hH
 exact ⟨z,its,n,r,r.length,e⟩
theorem ze3 {n:Nat} (h:n<=sizeLine):Builtin.List.listTooLong n=false:=by
 unfold Builtin.List.listTooLong
 exact decide_eq_false (by omega)
end
section
variable {X:Cx}
noncomputable def zl6:V->List V->Hp->VK->Prop:=λ x vs H Q=>∃ l xs y,x=.ref l /\ vs=[y] /\ H l=some (.lst xs) /\ xs.length < sizeLine /\ Q .non (upd H l (.lst (xs ++ [y])))
theorem yn1:MtM X "list.append" zl6:=by
 intro pins s σ H x vs v us Q I rx rv h
 obtain ⟨l,xs,y,rfl,rfl,hH,hz,q⟩:=h
 cases rx
 obtain ⟨u,rfl,ru⟩:=rv.one
 obtain ⟨z,its,n,r,hl,e⟩:=I.lstM hH
 refine call_meets F.slot_list_append ⟨_,e,rfl⟩ F.entry_list_append (F.args_list_append_2 _ _) (PySem.list_append l its.toArray n u (by rw [List.size_toArray]; omega)) ⟨e,?_⟩
 refine ⟨.non,_,I.lset (its':=its ++ [u]) hH e (by simp) (r.append (.cons ru .nil)) ?_,rfl,q⟩
 rw [List.length_append,List.length_singleton]
 omega
noncomputable def yl6:V->List V->Hp->VK->Prop:=λ x vs H Q=>∃ l b xs zs,x=.ref l /\ vs=[.ref b] /\ H l=some (.lst xs) /\ H b=some (.lst zs) /\ xs.length + zs.length<=sizeLine /\ Q .non (upd H l (.lst (xs ++ zs)))
theorem xk4:MtM X "list.extend" yl6:=by
 intro pins s σ H x vs v us Q I rx rv h
 obtain ⟨l,b,xs,zs,rfl,rfl,hH,hB,hz,q⟩:=h
 cases rx
 obtain ⟨u,rfl,ru⟩:=rv.one
 cases ru
 obtain ⟨z,its,n,r,hl,e⟩:=I.lstM hH
 obtain ⟨z2,its2,n2,r2,hl2,e2⟩:=I.lstM hB
 have hsz:its.toArray.size + its2.toArray.size<=sizeLine:=by rw [List.size_toArray,List.size_toArray]; omega
 have hlong:¬ (!its.toArray.isEmpty && Builtin.List.listTooLong (its.toArray.size + its2.toArray.size))=true:=by
  rw [ze3 hsz,Bool.and_false]
  exact Bool.false_ne_true
 refine call_meets F.slot_list_extend ⟨_,e,rfl⟩ F.entry_list_extend (F.args_list_extend_2 _ _)
  (AutoSeq1.list_extend_list_list_0 l its.toArray n b its2.toArray n2 hlong (by rw [List.size_toArray]; omega) (by omega)) ⟨e,e2,?_⟩
 refine ⟨.non,_,I.lset (its':=its ++ its2) hH e (by simp) (r.append r2) ?_,rfl,q⟩
 rw [List.length_append]
 omega
noncomputable def rCat:R2:=λ x y H Q=>∃ l b xs zs,x=.ref l /\ y=.ref b /\ H l=some (.lst xs) /\ H b=some (.lst zs) /\ xs.length + zs.length<=sizeLine /\ ∀ p,H p=none->Q (.ref p) (upd H p (.lst (xs ++ zs)))
theorem op_cat:OpR X (binaryOp .Add) rCat:=by
 intro pins s σ H x y v u Q I rx ry h
 obtain ⟨l,b,xs,zs,rfl,rfl,hH,hB,hz,q⟩:=h
 cases rx
 cases ry
 obtain ⟨z,its,n,r,hl,e⟩:=I.lstM hH
 obtain ⟨z2,its2,n2,r2,hl2,e2⟩:=I.lstM hB
 refine PySem.P.add_list e e2 ?_ (by rw [List.size_toArray,List.size_toArray]; omega)
 have ea:its.toArray ++ its2.toArray=(its ++ its2).toArray:=by simp
 rw [ea]
 exact ⟨.ref _,_,I.lnew (t':=s.toks) (r.append r2) (by rw [List.length_append]; omega),rfl,q _ I.fresh⟩
noncomputable def rRep:R2:=λ x y H Q=>∃ l k xs,x=.ref l /\ y=.int k /\ H l=some (.lst xs) /\ -(2 ^ 63)<=k /\ k < 2 ^ 63 /\ xs.length * k.toNat<=sizeLine ∧
 ∀ p,H p=none->Q (.ref p) (upd H p (.lst (List.replicate k.toNat xs).flatten))
theorem yu2 {α:Type} (xs:List α) (k:Nat):(List.replicate k xs).flatten.length=k * xs.length:=by
 induction k with
 | zero=>simp
 | succ k ih=>rw [List.replicate_succ,List.flatten_cons,List.length_append,ih,Nat.succ_mul,Nat.add_comm]
theorem wk8:OpR X (binaryOp .Mult) rRep:=by
 intro pins s σ H x y v u Q I rx ry h
 obtain ⟨l,k,xs,rfl,rfl,hH,h1,h2,hz,q⟩:=h
 cases rx
 obtain ⟨t,rfl⟩:=ry
 obtain ⟨z,its,n,r,hl,e⟩:=I.lstM hH
 have hlen:its.toArray.size * k.toNat<=sizeLine:=by rw [List.size_toArray,<- hl]; exact hz
 have hcap:¬ its.toArray.size * k.toNat > (2 ^ 63 - 1) / 8:=by
  have:(sizeLine:Nat)<=(2 ^ 63 - 1) / 8:=by decide
  omega
 have hfit:¬ (!Builtin.List.listFitsIndex k)=true:=by
  rw [fitsIndex_both h1 h2]
  exact Bool.false_ne_true
 have hlong:¬ Builtin.List.listTooLong (its.toArray.size * k.toNat)=true:=by
  rw [ze3 hlen]
  exact Bool.false_ne_true
 have hnew:List.foldl (λ x1 x2=>x1 ++ x2) #[] (List.replicate (if its.toArray.isEmpty=true then 0 else k.toNat) its.toArray)=(List.replicate k.toNat its).flatten.toArray:=by
  have f0:∀ m:Nat,List.foldl (λ x1 x2=>x1 ++ x2) #[] (List.replicate m its.toArray)=(List.replicate m its).flatten.toArray:=λ m=>by
   have:=zp1 its m []
   rw [List.nil_append] at this
   exact this
  rw [f0]
  cases its with
  | nil=>simp
  | cons a r'=>rw [if_neg (by simp)]
 refine wpAny_binaryOp_repeat_ref (T := "list") (U := "int") (by decide) ⟨_,e,rfl⟩ (λ s'=>typeIs_int s' k t) noFill_list_mul F.fills_int_mul F.slot_int_rmul repeat_list F.slot_int_index.lookup
  (call_meets F.slot_int_rmul (typeIs_int s k t) F.entry_int_rmul (F.args_int_rmul_2 _ _) (int___rmul___int_list k t l its.toArray n)
   ⟨e,rfl,⟨_,e,rfl⟩,call_meets F.slot_list_mul ⟨_,e,rfl⟩ F.entry_list_mul (F.args_list_mul_2 _ _) (AutoListH.list___mul___list_int_3 l its.toArray n k t hfit hcap hlong) ⟨e,?_⟩⟩)
 rw [hnew]
 exact ⟨.ref _,_,I.lnew (t':=s.toks) (r.rep k.toNat) (by rw [yu2,Nat.mul_comm]; exact hz),rfl,q _ I.fresh⟩
end
section
variable {prog:Program} {w:World} {A:Around} {E:Value->Shared->Prop} {s:Shared}
end
section
variable {X:Cx}
end
end L2
namespace Att
open PySem PySem.W PySem.Calls PyProof.Rows
theorem wo1 {P:Params} {h:Heap}:∀ (ns:List Int) (vs:List Value),WellAll P h vs (ns.map WData.int)->IntsAre vs ns:=by
 intro ns
 induction ns with
 | nil =>
  intro vs w
  rw [List.map_nil] at w
  cases w
  exact .nil
 | cons n ns ih =>
  intro vs w
  rw [List.map_cons] at w
  cases w with
  | cons a b =>
   cases a
   exact .cons _ _ (ih _ b)
theorem wa4 {l:OpenLaw} {n:Nat} (hn:l.most=some n) {P:Params} {h:Heap} {args:List WData} {vals:List Value}
    (hpre:l.row.toRowW.claim.pre args=true) (hwl:WellAll P h vals args) :
    ∃ a vs ns,vals=[Value.ref a] /\ args=[WData.list (ns.map WData.int)] /\ h.get? a=some { cls:=.type "list",data:=.seq vs.toArray } /\ IntsAre vs ns /\ ns.length<=n:=by
 have hsh:WShape.hasAll [] args [.list .int]=true:=(pre_splitW hpre).1
 have hc:l.pre.holds [] { args:=args }=true:=(pre_splitW hpre).2
 obtain ⟨d,r,rfl,h1,h2⟩:=hasAllW_cons hsh
 obtain rfl:=hasAllW_nil h2
 obtain ⟨xs,rfl,h3⟩:=hasW_list h1
 obtain ⟨ns,rfl⟩:=items_int h3
 have hlen:ns.length<=n:=by
  unfold OpenLaw.pre at hc
  have h4:(WTm.not (.lt (.lit (.int (n:Int))) (.len (.arg 0)))).holds [] { args:=[.list (ns.map .int)] }=true:=by
   have h4:=(holds_andW hc).1
   rw [hn] at h4
   exact h4
  have h5:=condW_of h4 (w_not (w_lt w_lit (w_len_list (w_arg rfl))))
  rw [List.length_map] at h5
  refine Nat.le_of_not_lt λ q=>?_
  have q':(n:Int) < ((ns.length:Nat):Int):=by omega
  first
   | (rw [decide_eq_true q'] at h5; exact absurd h5 (by decide))
   | (simp at h5; omega)
 cases hwl with
 | cons w1 w2 =>
  cases w2
  cases w1 with
  | list ho hall=>exact ⟨_,_,ns,rfl,rfl,ho,wo1 ns _ hall,hlen⟩
theorem zf4 (l:OpenLaw) (args:List WData):l.row.toRowW.claim.post args (.bool true) args=true :=
 postW_of (r:=l.row.toRowW) (X:=(true == true))
  (show WShape.has [] (.bool true) .bool=true by first | rfl | decide | simp [WShape.has,WShape.arms,WShape.armsAll])
  (show (WTm.eq .res (.lit (.bool true))).value [] { args:=args,res:=some (.bool true),after:=args }=some (.bool (true == true)) from w_eq_bool (w_res rfl) w_lit) rfl
theorem attach_call {l:OpenLaw} {n:Nat} {q:Program} {loose:List Str} {XP:(Str->Option Value)->Heap->Prop} {YP:World->Heap->Prop} {d:DefRec}
    (hn:l.most=some n) (hdf:d.params.defaults=[])
    (call:∀ (w:World) (s₀ s₁:Shared) (mg mb:Str->Option Value) (fa:Addr) (o:Obj) (pm cd doc:Value) (a:Addr) (vs:List Value) (ns:List Int),
     Ground q loose [] XP w s₀ mg mb s₁.heap->YP w s₁.heap ->
     s₁.heap.get? fa=some o->o.data=.func (docDef d.name d.params d.body d.scope pm cd doc)->s₁.heap.CodeRec cd d.name->mg d.name=some (.ref fa) ->
     s₁.heap.get? a=some { cls:=.type "list",data:=.seq vs.toArray }->IntsAre vs ns->ns.length<=n->s₁.gens = #[] ->
     codeAny (model l.prog w) callerA (.call (.ref fa) ⟨[.ref a],[]⟩) (λ r s'=>r=.ok (.ret (.bool true)) /\ OldK s₁.heap s'.heap /\ s'.os=s₁.os /\ AllBare s'.gens) s₁) :
    WalkO q loose XP YP l.row.toRowW d [] (λ f vs=>PySem.call f vs):=by
 intro w s₀ s₁ mg mb G Y fa o pm cd doc dV kV ho hd hcd hD hmg hg args vals as hpre hlay hrd hwl hlo
 obtain rfl:dV=.none:=Dflts.none hD hdf
 obtain rfl:kV=.none:=Dflts.noKw hD
 obtain ⟨a,vs,ns,rfl,rfl,hobj,hints,hlen⟩:=wa4 hn hpre hwl
 refine enter_call (codeAny_mono (call w s₀ s₁ mg mb fa o pm cd doc a vs ns G Y ho (fd_plain hd) hcd hmg hobj hints hlen hg) λ r s' hq=>?_)
 obtain ⟨rfl,h2,h3,h4⟩:=hq
 exact ⟨.inl ⟨.bool true,.bool true,[],rfl,λ _=>rfl,.bool true,zf4 l _,λ _=>⟨List.Pairwise.nil,λ _ hm=>(nomatch hm)⟩⟩,h2,h3,h4⟩
section
variable {prog:Program} {w:World} {A:Around} {E:Value->Shared->Prop} {s:Shared} {K:Frag}
noncomputable def ledger (h:Heap) (L d:Addr):List (Addr × Obj):=(List.range h.objs.size).filterMap λ a=>if a=L \/ a=d then none else (h.get? a).map λ o=>(a,o)
end
end Att
namespace L2
open PySem PySem.Spec PyProof.Rows
theorem wg2:∀ {vs:List Value} {ns:List Int},IntsAre vs ns->Vals (ns.map V.int) vs
 | _,_,.nil=>.nil
 | _,_,.cons n t h=>.cons ⟨t,rfl⟩ (wg2 h)
noncomputable def Only (H:Hp):Prop:=∀ b,H b=none \/ ∃ o xs,H b=some (.frz o (.lst xs))
theorem wj5 {P:Program} {w:World} {K:PySem.W.Frag} {mg mb:Str->Option Value} {CX:CXT} {k:Nat} {fa a:Addr} {fd:FuncData} {x:Str} {sp:Sp} {s₁:Shared} {vs:List Value} {ns:List Int}
    (KX:K.In s₁.heap) (hns:s₁.heap.Ns mainGlobals mg) (hb:s₁.heap.Ns builtinsNs mb) (hbb:∀ x:Str,x ≠ "__name__" -> mb x=bootBuiltins x) (hlim:s₁.heap.NoLimit) (hg:s₁.gens = #[])
    (ha:s₁.heap.get? a=some { cls:=.type "list",data:=.seq vs.toArray }) (hi:IntsAre vs ns) (hl:ns.length<=sizeLine) (hr:Room k callerA)
    (F:∀ base:Heap,K.In base->base.Ns mainGlobals mg->FnOk P w K mg base CX k fa fd [x] sp) (hbind:∀ (s:Shared) (u:Value),BindsTo s fd ⟨[u],[]⟩ [(x,u)])
    (hsp:∀ H:Hp,Only H->SqL K H a (ns.map V.int)->sp [.ref a] H (λ v _=>v=.bl true) λ _ _ _=>False)
    (hCX:∀ H e s',CX [] H s₁ (λ _ _ _=>False) e s'->False) :
    codeAny (model P w) callerA (.call (.ref fa) ⟨[.ref a],[]⟩) (λ r s'=>r=.ok (.ret (.bool true)) /\ OldK s₁.heap s'.heap /\ s'.os=s₁.os /\ AllBare s'.gens) s₁:=by
 have rv:=wg2 hi
 have lenV:=hi.length
 have core:∀ H:Hp,Only H->SqL K H a (ns.map V.int)->HOk P w H s₁.heap->(∀ b,H b ≠ none->b=a)->(H a ≠ none->K.lookup a=none) ->
     codeAny (model P w) callerA (.call (.ref fa) ⟨[.ref a],[]⟩) (λ r s'=>r=.ok (.ret (.bool true)) /\ OldK s₁.heap s'.heap /\ s'.os=s₁.os /\ AllBare s'.gens) s₁:=by
  intro H hO hS hok hA hK
  have base_of:∀ {b:Addr} {o:Obj},s₁.heap.get? b=some o->H b=none->(hidT s₁.heap H).get? b=some o:=λ e n=>xm5 e n
  have noA:∀ {b:Addr} {o:Obj} {es:Array DictEntry} {ep:Nat},s₁.heap.get? b=some o->o.data=.dict es ep->H b=none:=λ {b o es ep} e d=>by
   cases q:H b with
   | none=>rfl
   | some u =>
    have e':b=a:=hA b (by rw [q]; simp)
    subst e'
    rw [ha] at e; cases e
    have d':Data.seq vs.toArray _=Data.dict es ep:=d
    cases d'
  have nsK:∀ {b:Addr} {m:Str->Option Value},s₁.heap.Ns b m->(hidT s₁.heap H).Ns b m:=λ {b m} ⟨o,es,ep,e,d,r⟩=>⟨o,es,ep,base_of e (noA e d),d,r⟩
  have hKb:K.In (hidT s₁.heap H):=λ b o e=>base_of (KX b o e) (by
   cases q:H b with
   | none=>rfl
   | some u =>
    have e':b=a:=hA b (by rw [q]; simp)
    subst e'
    rw [hK (by rw [q]; simp)] at e; cases e)
  have hM:Mod K mg (hidT s₁.heap H):=⟨hKb,nsK hns,⟨mb,nsK hb,hbb⟩,let ⟨mc,h1,h2⟩:=hlim; ⟨mc,nsK h1,h2⟩⟩
  have e0:Env0 P w K mg (hidT s₁.heap H) callerA [] s₁ H:=⟨rfl,hM,λ b o e=>wt6 e,Nat.le_of_eq (wn4 _ _),trivial,λ b hb=>absurd (show b ∈ ([]:List Addr) from hb) (by simp),hok,.of_eq hg⟩
  refine codeAny_mono ((F _ hKb (nsK hns)).run callerA [] s₁ H ⟨[.ref a],[]⟩ [.ref a] [.ref a] _ _ hr e0 (hbind s₁ (.ref a)) (.cons rfl .nil) (hsp H hO hS)) λ r s' h=>?_
  cases r with
  | error e=>exact (hCX H e s' h).elim
  | ok fl =>
   cases fl with
   | next=>exact False.elim h
   | brk=>exact False.elim h
   | cont=>exact False.elim h
   | ret u =>
    obtain ⟨v,H',os,bare,un,hok',r',q⟩:=h
    have q':v=.bl true:=q
    subst q'
    obtain rfl:u=Value.bool true:=r'
    refine ⟨rfl,OldK.of_keep λ b o e=>?_,os,bare⟩
    cases q:H b with
    | none=>exact un.keep b o e q (by intro z; exact absurd (show b ∈ ([]:List Addr) from z) (by simp)) (by simp)
    | some u =>
     rcases hO b with z | ⟨ob,xs,z⟩
     ·rw [q] at z; cases z
     ·have z2:=un.frzs b ob _ z
      obtain ⟨e1,_⟩:=hok b _ z
      obtain ⟨e2,_⟩:=hok' b _ z2
      rw [e] at e1; cases e1
      exact e2
 cases hk:K.lookup a with
 | some o =>
  have e:=KX a o hk
  rw [ha] at e
  cases e
  refine core (λ _=>none) (λ _=>.inl rfl) (.inr ⟨_,vs.toArray,_,hk,rfl,rfl,rfl,by rw [List.size_toArray,lenV]; exact hl,by simpa using rv⟩) (λ b u z=>by have z':(none:Option HO)=some u:=z; cases z') (λ b z=>absurd rfl z) λ z=>absurd rfl z
 | none =>
  refine core (λ b=>if b=a then some (.frz { cls:=.type "list",data:=.seq vs.toArray } (.lst (ns.map V.int))) else none) (λ b=>?_) (.inl (.inr ⟨{ cls:=.type "list",data:=.seq vs.toArray },if_pos rfl⟩)) (λ b u z=>?_) (λ b z=>?_) λ _=>hk
  ·by_cases hb:b=a
   ·exact .inr ⟨_,_,if_pos hb⟩
   ·exact .inl (if_neg hb)
  ·by_cases hb:b=a
   ·have z':=(if_pos hb).symm.trans z
    cases z'
    subst hb
    exact ⟨ha,by rw [List.length_map]; exact hl,vs,_,rv,ha⟩
   ·have z':=(if_neg hb).symm.trans z
    cases z'
  ·by_cases hb:b=a
   ·exact hb
   ·exact absurd (if_neg hb) z
end L2
namespace L2
open PySem PySem.Spec PyProof.Rows
noncomputable abbrev KOf {K:PySem.W.Frag} {h:Heap} (_:K.In h):PySem.W.Frag:=K
theorem walk_of {l:PySem.W.OpenLaw} {n k:Nat} {q:Program} {loose:List Str} {XP:(Str->Option Value)->Heap->Prop} {YP:World->Heap->Prop} {d:DefRec} {K:Params->PySem.W.Frag} {CX:World->CXT} {sp:World->Sp} {x:Str}
    (hn:l.most=some n) (hn2:n<=sizeLine) (hdf:d.params.defaults=[]) (hr:Room k callerA)
    (hY:∀ (w:World) (h:Heap),YP w h->(K w.params).In h)
    (F:∀ (w:World) (mg:Str->Option Value) (fa:Addr) (h:Heap),(K w.params).In h->h.Ns mainGlobals mg->mg d.name=some (.ref fa) ->
     ∃ fd:FuncData,(∀ (s:Shared) (u:Value),BindsTo s fd ⟨[u],[]⟩ [(x,u)]) ∧
      ∀ base:Heap,(K w.params).In base->base.Ns mainGlobals mg->FnOk l.prog w (K w.params) mg base (CX w) k fa fd [x] (sp w))
    (hsp:∀ (w:World) (H:Hp) (a:Addr) (ns:List Int),ns.length<=n->Only H->SqL (K w.params) H a (ns.map V.int)->sp w [.ref a] H (λ v _=>v=.bl true) λ _ _ _=>False)
    (hCX:∀ (w:World) (H:Hp) (s:Shared) (e:Value) (s':Shared),CX w [] H s (λ _ _ _=>False) e s'->False) :
    PySem.W.WalkO q loose XP YP l.row.toRowW d [] (λ f vs=>PySem.call f vs):=by
 refine Att.attach_call hn hdf λ w s₀ s₁ mg mb fa o pm cd doc a vs ns G Y ho hd hcd hmg hobj hints hlen hg=>?_
 have KX:=hY w _ Y
 obtain ⟨fd,hb,hF⟩:=F w mg fa _ KX G.T.g hmg
 exact wj5 KX G.T.g G.T.b G.T.builtins G.T.nolimit hg hobj hints (Nat.le_trans hlen hn2) hr hF hb (λ H hO hS=>hsp w H a ns hlen hO hS) λ H e s'=>hCX w H s₁ e s'
end L2
namespace L2
open PySem PySem.Spec PyProof.Rows
noncomputable def zr0 (s:Stmt):Arguments:=match s with
 | .FunctionDef _ a _ _ _ _ _ _ _ _=>a
 | _=>{ posonlyargs:=[],args:=[],vararg:=none,kwonlyargs:=[],kw_defaults:=[],kwarg:=none,defaults:=[] }
noncomputable def xd0 (s:Stmt):List Stmt:=match s with
 | .FunctionDef _ _ b _ _ _ _ _ _ _=>b
 | _=>[]
noncomputable def xb0 (s:Stmt):Scope:=match s with
 | .FunctionDef _ _ _ _ _ _ sc _ _ _=>sc
 | _=>{ kind:=.function,names:=[],isGenerator:=false,isCoroutine:=false }
noncomputable abbrev CX0:CXT:=λ _ _ _ _ _ _=>False
noncomputable abbrev E0:XK:=λ _ _ _=>False
theorem xh5 {X:Cx}:xs1 CX0 X E0:=λ _ _ _ _ _ _ _ h=>h.elim
structure Fun (K:PySem.W.Frag) (x qual:Str) (st:Stmt) (f:Addr) (fd:FuncData):Prop where
 ex:∃ (oc:Value) (od:Option Addr) (kV doc pm:Value) (an:Option Addr) (cdv ct:Value) (osl:Array (Option Value)),
  fd=PySem.W.fnOf x qual (zr0 st) (xd0 st) (xb0 st) .none kV doc pm an cdv ct /\ K.lookup f=some ⟨oc,od,.func fd,osl⟩ /\ PySem.W.codeIn K cdv qual=true
 kp:PySem.W.keepIn K (.ref f)=true
section
variable {P:Program} {w:World} {K:PySem.W.Frag} {mg:Str->Option Value} {base:Heap}
theorem Fun.ok {x qual:Str} {st:Stmt} {f:Addr} {fd:FuncData} {N ps:List Str} {k:Nat} {sp:Sp} (F:Fun K x qual st f fd) (S:FnScope N ps (xb0 st)) (len:∀ vs H Q E,sp vs H Q E->vs.length=ps.length)
    (hbody:∀ (cdv:Value) (A:Around) (outer:List Env) (s:Shared) (H:Hp) (vs:List V) (Q:VK) (E:XK),Room k (A.deeper (envOfC qual (xb0 st) s.heap.objs.size f cdv))->sp vs H Q E ->
     ∃ t,PSs (cxOf CX0 P w K mg base N qual (xb0 st) f cdv A outer s H E).nox (xd0 st) t /\ t { nx:=λ _ H'=>Q .non H',rt:=Q } (start N vs) H):FnOk P w K mg base CX0 (k + 1) f fd ps sp:=by
 obtain ⟨oc,od,kV,doc,pm,an,cdv,ct,osl,rfl,lk,hcd⟩:=F.ex
 refine wo9 lk hcd S len λ A outer s H vs Q E hr hsp=>?_
 obtain ⟨t,h,q⟩:=hbody cdv A outer s H vs Q E hr hsp
 exact ⟨t,h.nox,q⟩
theorem Fun.binds {x qual:Str} {st:Stmt} {f:Addr} {fd:FuncData} {ps:List Str} (F:Fun K x qual st f fd)
    (h:∀ (kV doc pm:Value) (an:Option Addr) (cdv ct:Value) (us:List Value),us.length=ps.length->bindArgs (PySem.W.fnOf x qual (zr0 st) (xd0 st) (xb0 st) .none kV doc pm an cdv ct) ⟨us,[]⟩=pure (ps.zip us)):Binds K fd ps []:=by
 obtain ⟨oc,od,kV,doc,pm,an,cdv,ct,osl,rfl,lk,hcd⟩:=F.ex
 exact .all (h kV doc pm an cdv ct)
theorem zn2 {x qual:Str} {st:Stmt} {f:Addr} {oc:Value} {od an:Option Addr} {osl:Array (Option Value)} {kV doc pm cdv ct:Value} (l:K.lookup f=some ⟨oc,od,.func (PySem.W.fnOf x qual (zr0 st) (xd0 st) (xb0 st) .none kV doc pm an cdv ct),osl⟩)
    (c:PySem.W.codeIn K cdv qual=true) (k:PySem.W.keepIn K (.ref f)=true):Fun K x qual st f (PySem.W.fnOf x qual (zr0 st) (xd0 st) (xb0 st) .none kV doc pm an cdv ct):=⟨⟨oc,od,kV,doc,pm,an,cdv,ct,osl,rfl,l,c⟩,k⟩
end
section
variable {X:Cx}
end
noncomputable def Same (H H':Hp):Prop:=∀ b o,H b=some o->H' b=some o
end L2
namespace L2
open PySem PySem.Spec PyProof.Rows
section
variable {κ:Type} [DecidableEq κ]
end
section
variable {P:Program} {w:World} {H:Hp} {h:Heap} {a:Addr}
end
section
variable {X:Cx} {pins:List (Addr × Obj)} {σ:St} {H:Hp} {s:Shared} {a:Addr} {y v:V} {u r:Value} {o:Option V} {A:Around} {E:Value->Shared->Prop}
end
section
variable {X:Cx} {pins:List (Addr × Obj)} {σ:St} {H:Hp} {s:Shared} {a:Addr} {kvs:List (Key × V)} {k:Key} {u:Value} {A:Around} {E:Value->Shared->Prop}
end
section
variable {X:Cx} {o i e value:Expr} {pos pos' tpos:Pos} {td ty tv:TE}
end
section
variable {X:Cx} {pos:Pos}
end
structure M1 (X:Cx) (o:Expr) (m:Str) (apos:Pos) (e:Expr) (cpos:Pos):Prop where
 base:attributeBase o m X.env (eval o X.env)=eval o X.env
 few:((backTo cpos (starEach [e] X.env)).all (λ x=>!x.1) && (backToKw cpos (keywordEach [] X.env)).all (λ x=>x.1.isSome)
  && decide (([e]:List Expr).length + ([]:List Keyword).length + (if ([]:List Keyword).isEmpty then 0 else 1) < 30))=true
 line:(apos.endLine == cpos.line)=true
 trees:backTo cpos (starEach [e] X.env)=[(false,eval e X.env)]
structure M2 (X:Cx) (o:Expr) (m:Str) (apos:Pos) (e f:Expr) (cpos:Pos):Prop where
 base:attributeBase o m X.env (eval o X.env)=eval o X.env
 few:((backTo cpos (starEach [e,f] X.env)).all (λ x=>!x.1) && (backToKw cpos (keywordEach [] X.env)).all (λ x=>x.1.isSome)
  && decide (([e,f]:List Expr).length + ([]:List Keyword).length + (if ([]:List Keyword).isEmpty then 0 else 1) < 30))=true
 line:(apos.endLine == cpos.line)=true
 trees:backTo cpos (starEach [e,f] X.env)=[(false,eval e X.env),(false,eval f X.env)]
section
variable {X:Cx} {pins:List (Addr × Obj)} {σ:St} {H:Hp} {s:Shared} {a:Addr} {y d:V} {u r:Value} {o:Option V} {A:Around} {E:Value->Shared->Prop}
end
section
variable {X:Cx} {o e f:Expr} {apos cpos:Pos} {td ty tx:TE}
end
section
variable {X:Cx} {pins:List (Addr × Obj)} {σ:St} {H:Hp} {s:Shared} {a:Addr} {kvs:List (Key × V)} {A:Around} {E:Value->Shared->Prop}
end
section
variable {X:Cx} {pins:List (Addr × Obj)} {σ:St} {H:Hp} {s:Shared} {a:Addr} {y:V} {u:Value} {A:Around} {E:Value->Shared->Prop}
end
end L2
namespace Pv
open PySem
inductive D where
 | non | bl (b:Bool) | int (i:Int) | str (x:Str) | tup (l:List D) | fls (l:List D) | ref (a:Addr) | ty (n:String) | exc (c:Str)
inductive MO where
 | lst (xs:List D)
 | ins (c:Str) (fs:List (Str × D))
 | dct (kvs:List ((Int × Int × Int) × D))
noncomputable abbrev Mu:=Addr->Option MO
noncomputable def updM (μ:Mu) (a:Addr) (o:MO):Mu:=λ b=>if b=a then some o else μ b
theorem xc0 {μ:Mu} {a:Addr} {o:MO}:updM μ a o a=some o:=by unfold updM; rw [if_pos rfl]
theorem wd0 {μ:Mu} {a b:Addr} {o:MO} (h:b ≠ a):updM μ a o b=μ b:=by unfold updM; rw [if_neg h]
theorem xq0 {μ:Mu} {a:Addr} {o u:MO}:updM (updM μ a o) a u=updM μ a u:=by
 funext b; unfold updM; by_cases h:b=a <;> simp [h]
noncomputable def Ext (μ μ':Mu):Prop:=∀ a o,μ a=some o->μ' a=some o
theorem Ext.refl (μ:Mu):Ext μ μ:=λ _ _ h=>h
theorem Ext.trans {a b c:Mu} (h:Ext a b) (k:Ext b c):Ext a c:=λ x o q=>k x o (h x o q)
theorem Ext.new {μ:Mu} {p:Addr} {o:MO} (h:μ p=none):Ext μ (updM μ p o):=λ a u q=>by
 rw [wd0]; exact q
 intro e; subst e; rw [h] at q; cases q
noncomputable def ExtB (p:Addr) (μ μ':Mu):Prop:=∀ a o,a ≠ p->μ a=some o->μ' a=some o
theorem ExtB.refl (p:Addr) (μ:Mu):ExtB p μ μ:=λ _ _ _ h=>h
theorem ExtB.trans {p:Addr} {a b c:Mu} (h:ExtB p a b) (k:ExtB p b c):ExtB p a c:=λ x o n q=>k x o n (h x o n q)
theorem Ext.b {μ μ':Mu} (p:Addr) (e:Ext μ μ'):ExtB p μ μ':=λ a o _ q=>e a o q
theorem ExtB.upd {μ:Mu} {p:Addr} {o:MO}:ExtB p μ (updM μ p o):=λ a u n q=>by rw [wd0 n]; exact q
theorem yj0 {μ:Mu} {p q:Addr} {o:MO} (h:μ p=some o) (k:μ q=none):p ≠ q:=by
 intro e; subst e; rw [h] at k; cases k
noncomputable abbrev St3:=List (Option D)
noncomputable def getI:St3->Nat->Option D
 | [],_=>none
 | o :: _,0=>o
 | _ :: r,i + 1=>getI r i
theorem xw2:∀ (ρ:St3) (i:Nat),getI ρ i=(ρ[i]?).getD none
 | [],i=>by simp [getI]
 | o :: _,0=>by simp [getI]
 | _ :: r,i + 1=>by simp [getI,xw2 r i]
noncomputable abbrev VK3:=D->Mu->Prop
noncomputable abbrev TE3:=St3->Mu->VK3->Prop
noncomputable abbrev TT3:=St3->Mu->(Bool->Mu->Prop)->Prop
noncomputable abbrev TA3:=St3->Mu->(List D->Mu->Prop)->Prop
structure Ends3 where
 nx:St3->Mu->Prop
 rt:VK3
 bk:St3->Mu->Prop:=λ _ _=>False
 ct:St3->Mu->Prop:=λ _ _=>False
noncomputable abbrev TS3:=Ends3->St3->Mu->Prop
noncomputable abbrev R3:=D->D->Mu->VK3->Prop
noncomputable abbrev Sp3:=List D->Mu->VK3->Prop
noncomputable abbrev C3:=List D->Mu->VK3->Prop
noncomputable abbrev TG3:=D->St3->Mu->(St3->Mu->Prop)->Prop
noncomputable abbrev TGs3:=List D->St3->Mu->(St3->Mu->Prop)->Prop
noncomputable abbrev TI3:=St3->Mu->(List D->(Mu->Prop)->Mu->Prop)->Prop
noncomputable def v3 (i:Nat):TE3:=λ ρ μ Q=>match getI ρ i with
 | some d=>Q d μ
 | none=>False
noncomputable def c3 (d:D):TE3:=λ _ μ Q=>Q d μ
noncomputable def o3 (r:R3) (ta tb:TE3):TE3:=λ ρ μ Q=>ta ρ μ λ x μ1=>tb ρ μ1 λ y μ2=>r x y μ2 Q
noncomputable def un3 (r:D->Mu->VK3->Prop) (ta:TE3):TE3:=λ ρ μ Q=>ta ρ μ λ x μ1=>r x μ1 Q
noncomputable def b3 (t:TE3):TT3:=λ ρ μ Q=>t ρ μ λ d μ1=>match d with
 | .bl c=>Q c μ1
 | _=>False
noncomputable def and3 (t u:TT3):TT3:=λ ρ μ Q=>t ρ μ λ c μ1=>if c=true then u ρ μ1 Q else Q false μ1
noncomputable def or3 (t u:TT3):TT3:=λ ρ μ Q=>t ρ μ λ c μ1=>if c=true then Q true μ1 else u ρ μ1 Q
noncomputable def not3 (t:TT3):TT3:=λ ρ μ Q=>t ρ μ λ c μ1=>Q (!c) μ1
noncomputable def zx2 (t u:TE3):TE3:=λ ρ μ Q=>t ρ μ λ d μ1=>match d with
 | .bl c=>if c=true then u ρ μ1 Q else Q (.bl false) μ1
 | _=>False
noncomputable def orV3 (t u:TE3):TE3:=λ ρ μ Q=>t ρ μ λ d μ1=>match d with
 | .bl c=>if c=true then Q (.bl true) μ1 else u ρ μ1 Q
 | _=>False
noncomputable def xu6 (t:TE3):TE3:=λ ρ μ Q=>t ρ μ λ d μ1=>match d with
 | .bl c=>Q (.bl (!c)) μ1
 | _=>False
noncomputable def if3 (c:TT3) (t u:TE3):TE3:=λ ρ μ Q=>c ρ μ λ b μ1=>if b=true then t ρ μ1 Q else u ρ μ1 Q
noncomputable def nil3:TA3:=λ _ μ Q=>Q [] μ
noncomputable def wa0 (t:TE3) (u:TA3):TA3:=λ ρ μ Q=>t ρ μ λ d μ1=>u ρ μ1 λ ds μ2=>Q (d :: ds) μ2
noncomputable def tup3 (t:TA3):TE3:=λ ρ μ Q=>t ρ μ λ ds μ1=>ds.length<=sizeLine /\ Q (.tup ds) μ1
noncomputable def lst3 (t:TA3):TE3:=λ ρ μ Q=>t ρ μ λ ds μ1=>ds.length<=sizeLine /\ ∀ p,μ1 p=none->Q (.ref p) (updM μ1 p (.lst ds))
noncomputable def zc0 (sp:Sp3) (t:TA3):TE3:=λ ρ μ Q=>t ρ μ λ ds μ1=>sp ds μ1 Q
noncomputable def mt3 (r:D->List D->Mu->VK3->Prop) (to:TE3) (t:TA3):TE3:=λ ρ μ Q=>to ρ μ λ x μ1=>match x with
 | .ref p=>match μ1 p with
  | some (.lst _)=>t ρ μ1 λ ds μ2=>r (.ref p) ds μ2 Q
  | _=>False
 | _=>False
noncomputable abbrev TO3:=St3->Mu->(Option Int->Mu->Prop)->Prop
noncomputable def np3:TO3:=λ _ μ Q=>Q none μ
noncomputable def pt3 (t:TE3):TO3:=λ ρ μ Q=>t ρ μ λ d μ1=>match d with
 | .int i=>Q (some i) μ1
 | _=>False
noncomputable def sl3 (r:D->Option Int->Option Int->Mu->VK3->Prop) (te:TE3) (tl th:TO3):TE3:=λ ρ μ Q=>te ρ μ λ x μ1=>tl ρ μ1 λ l μ2=>th ρ μ2 λ u μ3=>r x l u μ3 Q
noncomputable def sIx3 (n d:Nat):Option Int->Nat
 | none=>d
 | some v=>if v < 0 then (v + (n:Int)).toNat else min v.toNat n
noncomputable def cut3 {α:Type} (xs:List α) (lo hi:Option Int):List α:=(xs.drop (sIx3 xs.length 0 lo)).take (sIx3 xs.length xs.length hi - sIx3 xs.length 0 lo)
noncomputable def slR:D->Option Int->Option Int->Mu->VK3->Prop:=λ x lo hi μ Q=>match x with
 | .tup l=>Q (.tup (cut3 l lo hi)) μ
 | .str z=>z.length<=sizeLine /\ Q (.str ⟨(cut3 z.cps.toList lo hi).toArray⟩) μ
 | .ref p=>match μ p with
  | some (.lst l)=>∀ r,μ r=none->Q (.ref r) (updM μ r (.lst (cut3 l lo hi)))
  | _=>False
 | .fls l=>∀ r,μ r=none->Q (.ref r) (updM μ r (.lst (cut3 l lo hi)))
 | _=>False
noncomputable def yg0:TS3:=λ D ρ μ=>D.nx ρ μ
noncomputable def zo0:TS3:=λ _ _ _=>False
noncomputable def seq3 (t u:TS3):TS3:=λ D ρ μ=>t { D with nx:=u D } ρ μ
noncomputable def xw0 (t:TE3):TS3:=λ D ρ μ=>t ρ μ λ _ μ1=>D.nx ρ μ1
noncomputable def ret3 (t:TE3):TS3:=λ D ρ μ=>t ρ μ D.rt
noncomputable def ifs3 (c:TT3) (t u:TS3):TS3:=λ D ρ μ=>c ρ μ λ b μ1=>if b=true then t D ρ μ1 else u D ρ μ1
noncomputable def gn3 (i:Nat):TG3:=λ d ρ μ Q=>Q (ρ.set i (some d)) μ
noncomputable def wv2:TGs3:=λ ds ρ μ Q=>match ds with
 | []=>Q ρ μ
 | _=>False
noncomputable def yx0 (t:TG3) (u:TGs3):TGs3:=λ ds ρ μ Q=>match ds with
 | d :: r=>t d ρ μ λ ρ1 μ1=>u r ρ1 μ1 Q
 | []=>False
noncomputable def yv2 (n:Nat) (t:TGs3):TG3:=λ d ρ μ Q=>match d with
 | .tup l=>l.length=n /\ t l ρ μ Q
 | _=>False
noncomputable def set3 (i:Nat) (t:TE3):TS3:=λ D ρ μ=>t ρ μ λ d μ1=>D.nx (ρ.set i (some d)) μ1
noncomputable def asg3 (t:TE3) (g:TG3):TS3:=λ D ρ μ=>t ρ μ λ d μ1=>g d ρ μ1 D.nx
noncomputable def ixN (n:Nat) (i:Int):Option Nat:=if 0<=i then (if i < n then some i.toNat else none) else if -(n:Int)<=i then some (i + n).toNat else none
noncomputable def atI {α:Type} (xs:List α) (i:Int):Option α:=(ixN xs.length i).bind λ j=>xs[j]?
noncomputable def sub3 (to ti:TE3):TG3:=λ d ρ μ Q=>to ρ μ λ o μ1=>ti ρ μ1 λ i μ2=>match o,i with
 | .ref p,.int k=>match μ2 p with
  | some (.lst xs)=>match ixN xs.length k with
   | some j=>Q ρ (updM μ2 p (.lst (xs.set j d)))
   | none=>False
  | _=>False
 | _,_=>False
noncomputable def wm5 (S:Mu->Prop) (g:TG3) (tb:TS3) (D':Ends3):List D->St3->Mu->Prop
 | [],ρ,μ=>S μ /\ D'.nx ρ μ
 | x :: r,ρ,μ=>S μ /\ ∃ N:St3->Mu->Prop,(∀ ρ' μ',N ρ' μ'->wm5 S g tb D' r ρ' μ') /\ g x ρ μ λ ρ1 μ1=>tb { D' with nx:=N,ct:=N,bk:=D'.nx } ρ1 μ1
noncomputable def for3 (ti:TI3) (g:TG3) (tb:TS3):TS3:=λ D' ρ μ=>ti ρ μ λ l S μ1=>wm5 S g tb D' l ρ μ1
theorem xr0 {S:Mu->Prop} {g:TG3} {tb:TS3} {D':Ends3} (W:List D->St3->Mu->Prop) {l:List D} {ρ:St3} {μ:Mu} (h0:W l ρ μ) (hS:∀ l ρ μ,W l ρ μ->S μ) (hn:∀ ρ μ,W [] ρ μ->D'.nx ρ μ)
    (hs:∀ x r ρ μ,W (x :: r) ρ μ->g x ρ μ λ ρ1 μ1=>tb { D' with nx:=W r,ct:=W r,bk:=D'.nx } ρ1 μ1):wm5 S g tb D' l ρ μ:=by
 induction l generalizing ρ μ with
 | nil=>exact ⟨hS _ _ _ h0,hn _ _ h0⟩
 | cons x r ih=>exact ⟨hS _ _ _ h0,W r,λ ρ' μ' q=>ih q,hs x r ρ μ h0⟩
noncomputable def is3 (t:TE3):TI3:=λ ρ μ R=>t ρ μ λ d μ1=>match d with
 | .tup l=>R l (λ _=>True) μ1
 | .fls l=>R l (λ _=>True) μ1
 | .str z=>R (z.cps.toList.map λ c=>D.str ⟨#[c]⟩) (λ _=>True) μ1
 | .ref p=>match μ1 p with
  | some (.lst l)=>R l (λ μ=>μ p=some (.lst l)) μ1
  | _=>False
 | _=>False
noncomputable def rngD (lo:Int) (n:Nat):List D:=(List.range n).map λ i=>.int (lo + (i:Nat))
noncomputable def ir3 (t:TA3):TI3:=λ ρ μ R=>t ρ μ λ ds μ1=>match ds with
 | [.int j]=>(-(2 ^ 62)<=j /\ j < 2 ^ 62) /\ R (rngD 0 j.toNat) (λ _=>True) μ1
 | _=>False
noncomputable def xu8 (S:Mu->Prop) (p:Addr) (g:TG3) (tc:TT3) (te:TE3) (Q:VK3) (l:List D) (ρ0:St3) (μ0:Mu):Prop :=
 ∃ W:List D->List D->St3->Mu->Prop,W l [] ρ0 μ0 /\ (∀ l ys ρ μ,W l ys ρ μ->S μ /\ μ p=some (.lst ys)) /\ (∀ ys ρ μ,W [] ys ρ μ->Q (.ref p) μ) ∧
  ∀ x r ys ρ μ,W (x :: r) ys ρ μ->ys.length < sizeLine /\ g x ρ μ λ ρ1 μ1=>tc ρ1 μ1 λ b μ2 =>
   if b=true then te ρ1 μ2 λ d μ3=>μ3 p=some (.lst ys) /\ W r (ys ++ [d]) ρ1 (updM μ3 p (.lst (ys ++ [d]))) else W r ys ρ1 μ2
noncomputable def wq1 (js:List (Option Nat)) (ti:TI3) (g:TG3) (tc:TT3) (te:TE3):TE3:=λ ρ μ Q=>ti ρ μ λ l S μ1=>∀ p,μ1 p=none->xu8 S p g tc te Q l (js.map λ j=>j.bind (getI ρ)) (updM μ1 p (.lst []))
noncomputable def tt3:TT3:=λ _ μ Q=>Q true μ
theorem we2 {S:Mu->Prop} {p:Addr} {te:TE3} {Q:VK3} {l:List D} {o:Option D} {rest:St3} {μ:Mu} (f:D->D) (hp:μ p=none) (hl:l.length<=sizeLine) (hS:∀ μ',Ext μ μ'->S μ')
    (hx:∀ x ∈ l,∀ μ' R,Ext μ μ'->(∀ μ2,Ext μ' μ2->R (f x) μ2)->te (some x :: rest) μ' R) (hQ:∀ μ',Ext μ μ'->μ' p=some (.lst (l.map f))->Q (.ref p) μ') :
    xu8 S p (gn3 0) tt3 te Q l (o :: rest) (updM μ p (.lst [])):=by
 refine ⟨λ r ys ρ μ'=>Ext μ μ' /\ μ' p=some (.lst ys) /\ (∃ o',ρ=o' :: rest) /\ ∃ a,a ++ r=l /\ ys=a.map f,?_,?_,?_,?_⟩
 ·exact ⟨Ext.new hp,xc0,⟨o,rfl⟩,[],rfl,rfl⟩
 ·rintro r ys ρ μ' ⟨h1,h2,_⟩
  exact ⟨hS _ h1,h2⟩
 ·rintro ys ρ μ' ⟨h1,h2,_,a,e,rfl⟩
  rw [List.append_nil] at e
  subst e
  exact hQ _ h1 h2
 ·rintro x r ys ρ μ' ⟨h1,h2,⟨o',rfl⟩,a,e,rfl⟩
  refine ⟨by rw [List.length_map]; rw [<- e,List.length_append,List.length_cons] at hl; omega,?_⟩
  show te (some x :: rest) μ' _
  refine hx x (by rw [<- e]; simp) μ' _ h1 λ μ2 h3=>⟨h3 _ _ h2,λ b u hb=>?_,xc0,⟨_,rfl⟩,a ++ [x],by simp [<- e],by simp⟩
  rw [wd0 (yj0 hb hp)]
  exact h3 _ _ (h1 _ _ hb)
noncomputable def CPow (i j:Int):Prop:=0<=j /\ j<=1000000 /\ i.natAbs < 2 ^ 64
noncomputable def Big:Nat:=2 ^ 1000
noncomputable def CMul (i j:Int):Prop:=((-(2 ^ 64) < i /\ i < 2 ^ 64) \/ (-(2 ^ 64) < j /\ j < 2 ^ 64)) \/ (i.natAbs < Big /\ j.natAbs < Big)
noncomputable def int2 (C:Int->Int->Prop) (g:Int->Int->D):R3:=λ x y μ Q=>match x,y with
 | .int i,.int j=>C i j /\ Q (g i j) μ
 | _,_=>False
noncomputable def xv0 (g:Int->Int->D):R3:=λ x y μ Q=>match x,y with
 | .int i,.int j=>Q (g i j) μ
 | _,_=>False
noncomputable def subR:R3:=xv0 λ i j=>.int (i - j)
noncomputable def mulR:R3:=λ x y μ Q=>match x,y with
 | .int i,.int j=>CMul i j /\ Q (.int (i * j)) μ
 | .tup l,.int k=>((-(2 ^ 62)<=k /\ k < 2 ^ 62) /\ l.length * k.toNat<=1000000) /\ Q (.tup (List.replicate k.toNat l).flatten) μ
 | .ref p,.int k=>match μ p with
  | some (.lst l)=>((-(2 ^ 62)<=k /\ k < 2 ^ 62) /\ l.length * k.toNat<=1000000) /\ ∀ r,μ r=none->Q (.ref r) (updM μ r (.lst (List.replicate k.toNat l).flatten))
  | _=>False
 | _,_=>False
noncomputable def modR:R3:=int2 (λ _ j=>0 < j) λ i j=>.int (i % j)
noncomputable def wp1:R3:=int2 (λ _ j=>0 < j /\ j < 2 ^ 120) λ i j=>.int (i / j)
noncomputable def powR:R3:=int2 CPow λ i j=>.int (i ^ j.toNat)
noncomputable def ltR:R3:=xv0 λ i j=>.bl (decide (i < j))
noncomputable def leR:R3:=xv0 λ i j=>.bl (decide (i<=j))
noncomputable def gtR:R3:=xv0 λ i j=>.bl (decide (j < i))
noncomputable def geR:R3:=xv0 λ i j=>.bl (decide (j<=i))
noncomputable def negR:D->Mu->VK3->Prop:=λ x μ Q=>match x with
 | .int i=>Q (.int (-i)) μ
 | _=>False
noncomputable def addR:R3:=λ x y μ Q=>match x,y with
 | .int i,.int j=>Q (.int (i + j)) μ
 | .str i,.str j=>i.length + j.length<=sizeLine /\ Q (.str (i ++ j)) μ
 | .ref p,.ref q=>match μ p,μ q with
  | some (.lst xs),some (.lst ys)=>xs.length + ys.length<=sizeLine /\ ∀ r,μ r=none->Q (.ref r) (updM μ r (.lst (xs ++ ys)))
  | _,_=>False
 | .tup l,.tup m=>l.length + m.length<=sizeLine /\ Q (.tup (l ++ m)) μ
 | _,_=>False
noncomputable def eqS:D->D->Option Bool
 | .int i,.int j=>some (decide (i=j))
 | .bl i,.bl j=>some (decide (i=j))
 | .str i,.str j=>some (decide (i=j))
 | .non,.non=>some true
 | .non,.int _=>some false
 | .int _,.non=>some false
 | .non,.str _=>some false
 | .str _,.non=>some false
 | .int _,.str _=>some false
 | .str _,.int _=>some false
 | _,_=>none
mutual
noncomputable def dat:D->Option PyData
 | .non=>some .none
 | .bl b=>some (.bool b)
 | .int i=>some (.int i)
 | .str x=>if PyData.strOk x=true then some (.str x) else none
 | .tup l=>match dats l with
  | some ps=>some (.tuple ps)
  | none=>none
 | _=>none
noncomputable def dats:List D->Option (List PyData)
 | []=>some []
 | d :: r=>match dat d with
  | some p=>match dats r with
   | some ps=>some (p :: ps)
   | none=>none
  | none=>none
end
noncomputable def datM (μ:Mu):D->Option PyData
 | .ref p=>match μ p with
  | some (.lst l)=>match dats l with
   | some ps=>some (.list ps)
   | none=>none
  | _=>none
 | d=>dat d
noncomputable def eqR:R3:=λ x y μ Q=>match eqS x y with
 | some c=>Q (.bl c) μ
 | none=>match datM μ x,datM μ y with
  | some p,some q=>(p.depth<=64 /\ q.depth<=64) /\ Q (.bl (PyData.eqv p q)) μ
  | _,_=>False
noncomputable def neR:R3:=λ x y μ Q=>match eqS x y with
 | some c=>Q (.bl (!c)) μ
 | none=>match datM μ x,datM μ y with
  | some p,some q=>(p.depth<=64 /\ q.depth<=64) /\ Q (.bl (!PyData.eqv p q)) μ
  | _,_=>False
theorem xq1 (i j:Int) (μ:Mu) (Q:VK3):eqR (.int i) (.int j) μ Q=Q (.bl (decide (i=j))) μ:=rfl
theorem zo2 (i j:Str) (μ:Mu) (Q:VK3):eqR (.str i) (.str j) μ Q=Q (.bl (decide (i=j))) μ:=rfl
theorem xf3 (i j:Int) (μ:Mu) (Q:VK3):neR (.int i) (.int j) μ Q=Q (.bl (!decide (i=j))) μ:=rfl
theorem wy6 {x y:D} {μ:Mu} {Q:VK3} {p q:PyData} (e:eqS x y=none) (h1:datM μ x=some p) (h2:datM μ y=some q) (d1:p.depth<=64) (d2:q.depth<=64):eqR x y μ Q=Q (.bl (PyData.eqv p q)) μ:=by
 unfold eqR; rw [e]; simp only [h1,h2,d1,d2,true_and,and_self]
theorem zj4 {x y:D} {μ:Mu} {Q:VK3} {p q:PyData} (e:eqS x y=none) (h1:datM μ x=some p) (h2:datM μ y=some q) (d1:p.depth<=64) (d2:q.depth<=64):neR x y μ Q=Q (.bl (!PyData.eqv p q)) μ:=by
 unfold neR; rw [e]; simp only [h1,h2,d1,d2,true_and,and_self]
noncomputable def strs?:List D->Option (List Str)
 | []=>some []
 | .str x :: r=>match strs? r with
  | some l=>some (x :: l)
  | none=>none
 | _ :: _=>none
noncomputable def inD (neg:Bool):R3:=λ x y μ Q=>match datM μ x,datM μ y with
 | some d,some (.list xs)=>(d.depth<=64 /\ (PyData.list xs).depth<=64) /\ Q (.bl (if neg then !(xs.any λ e=>PyData.eqv e d) else xs.any λ e=>PyData.eqv e d)) μ
 | some d,some (.tuple xs)=>(d.depth<=64 /\ (PyData.tuple xs).depth<=64) /\ Q (.bl (if neg then !(xs.any λ e=>PyData.eqv e d) else xs.any λ e=>PyData.eqv e d)) μ
 | _,_=>False
noncomputable def inR (neg:Bool):R3:=λ x y μ Q=>match x,y with
 | .str z,.tup l=>match strs? l with
  | some zs=>Q (.bl (if neg then !zs.contains z else zs.contains z)) μ
  | none=>inD neg (.str z) (.tup l) μ Q
 | .str z,.str y=>Q (.bl (if neg then !(!(Builtin.Str.occurrences y z 0 y.length 1).isEmpty) else !(Builtin.Str.occurrences y z 0 y.length 1).isEmpty)) μ
 | x,y=>inD neg x y μ Q
noncomputable def ixR:R3:=λ x y μ Q=>match x,y with
 | .tup l,.int i=>match atI l i with
  | some d=>Q d μ
  | none=>False
 | .fls l,.int i=>match atI l i with
  | some d=>Q d μ
  | none=>False
 | .ref p,.int i=>match μ p with
  | some (.lst l)=>match atI l i with
   | some d=>Q d μ
   | none=>False
  | _=>False
 | _,_=>False
noncomputable def lenR:C3:=λ ds μ Q=>match ds with
 | [.tup l]=>Q (.int l.length) μ
 | [.fls l]=>Q (.int l.length) μ
 | [.str z]=>z.length<=sizeLine /\ Q (.int z.length) μ
 | [.ref p]=>match μ p with
  | some (.lst l)=>Q (.int l.length) μ
  | _=>False
 | _=>False
noncomputable def absR:C3:=λ ds μ Q=>match ds with
 | [.int i]=>Q (.int (if i < 0 then -i else i)) μ
 | _=>False
noncomputable def intR:C3:=λ ds μ Q=>match ds with
 | [.int i]=>Q (.int i) μ
 | [.bl b]=>Q (.int (if b then 1 else 0)) μ
 | [.str z]=>match PySem.intText? z with
  | some n=>z.length<=640 /\ Q (.int n) μ
  | none=>False
 | _=>False
noncomputable def tupR:C3:=λ ds μ Q=>match ds with
 | [.tup l]=>Q (.tup l) μ
 | [.ref p]=>match μ p with
  | some (.lst l)=>Q (.tup l) μ
  | _=>False
 | _=>False
noncomputable def ints?:List D->Option (List Int)
 | []=>some []
 | .int x :: r=>match ints? r with
  | some l=>some (x :: l)
  | none=>none
 | _ :: _=>none
noncomputable def sumR:C3:=λ ds μ Q=>match ds with
 | [.ref p]=>match μ p with
  | some (.lst l)=>match ints? l with
   | some ns=>Q (.int ns.sum) μ
   | none=>False
  | _=>False
 | _=>False
noncomputable def tyN (μ:Mu):D->Option String
 | .int _=>some "int"
 | .bl _=>some "bool"
 | .str _=>some "str"
 | .tup _=>some "tuple"
 | .non=>some "NoneType"
 | .ref p=>match μ p with
  | some (.lst _)=>some "list"
  | _=>none
 | _=>none
noncomputable def isIn (t T:String):Option Bool :=
 if t=T then some true
 else if t = "bool" /\ T = "int" then some true
 else if (t = "int" \/ t = "str" \/ t = "tuple" \/ t = "bool" \/ t = "NoneType" \/ t = "list") /\ (T = "int" \/ T = "str" \/ T = "tuple" \/ T = "bool" \/ T = "list") then some false
 else none
noncomputable def isiR:C3:=λ ds μ Q=>match ds with
 | [d,.ty T]=>match tyN μ d with
  | some t=>match isIn t T with
   | some b=>Q (.bl b) μ
   | none=>False
  | none=>False
 | _=>False
noncomputable def appR:D->List D->Mu->VK3->Prop:=λ x ds μ Q=>match x,ds with
 | .ref p,[d]=>match μ p with
  | some (.lst l)=>l.length < sizeLine /\ Q .non (updM μ p (.lst (l ++ [d])))
  | _=>False
 | _,_=>False
noncomputable def extR:D->List D->Mu->VK3->Prop:=λ x ds μ Q=>match x,ds with
 | .ref p,[.ref q]=>match μ p,μ q with
  | some (.lst l),some (.lst m)=>l.length + m.length<=sizeLine /\ Q .non (updM μ p (.lst (l ++ m)))
  | _,_=>False
 | _,_=>False
theorem atI0 {α:Type} {a:α} {r:List α}:atI (a :: r) 0=some a:=by
 unfold atI ixN; rw [if_pos (by decide),if_pos (by simp only [List.length_cons]; omega)]; rfl
theorem atI1 {α:Type} {a b:α} {r:List α}:atI (a :: b :: r) 1=some b:=by
 unfold atI ixN; rw [if_pos (by decide),if_pos (by simp only [List.length_cons]; omega)]; rfl
theorem atI2 {α:Type} {a b c:α} {r:List α}:atI (a :: b :: c :: r) 2=some c:=by
 unfold atI ixN; rw [if_pos (by decide),if_pos (by simp only [List.length_cons]; omega)]; rfl
theorem ixN0 {n:Nat}:ixN (n + 1) 0=some 0:=by
 unfold ixN; rw [if_pos (by decide),if_pos (by omega)]; rfl
theorem ixN1 {n:Nat}:ixN (n + 1 + 1) 1=some 1:=by
 unfold ixN; rw [if_pos (by decide),if_pos (by omega)]; rfl
theorem yz5 {α:Type} {l:List α} {i:Int} (h0:0<=i) (h1:i < l.length):∃ d,d ∈ l /\ atI l i=some d:=by
 have hn:i.toNat < l.length:=by omega
 refine ⟨l[i.toNat],List.getElem_mem hn,?_⟩
 unfold atI ixN
 rw [if_pos h0,if_pos h1]
 exact List.getElem?_eq_getElem hn
noncomputable def yd0 (N:List Str) (ds:List D):St3:=ds.map some ++ List.replicate (N.length - ds.length) none
end Pv
namespace Pv
open PySem L2
noncomputable abbrev Fg:=PySem.W.Frag
structure Kp (H H':Hp):Prop where
 tup:∀ b xs,H b=some (.tup xs)->H' b=some (.tup xs)
 frz:∀ b o u,H b=some (.frz o u)->H' b=some (.frz o u)
theorem Kp.refl (H:Hp):Kp H H:=⟨λ _ _ h=>h,λ _ _ _ h=>h⟩
theorem Kp.trans {a b c:Hp} (h:Kp a b) (k:Kp b c):Kp a c:=⟨λ x xs q=>k.tup x xs (h.tup x xs q),λ x o u q=>k.frz x o u (h.frz x o u q)⟩
theorem Kp.new {H:Hp} {p:Addr} {o:HO} (h:H p=none):Kp H (upd H p o) :=
 ⟨λ b xs q=>by rw [xg0 (yn0 q h)]; exact q,λ b o u q=>by rw [xg0 (yn0 q h)]; exact q⟩
theorem Kp.wr {H:Hp} {p:Addr} {o:HO} {xs:List V} (h:H p=some (.lst xs)):Kp H (upd H p o) :=
 ⟨λ b ys q=>by rw [xg0 (wh5 q h (by intro z; cases z))]; exact q,λ b o u q=>by rw [xg0 (wh5 q h (by intro z; cases z))]; exact q⟩
noncomputable def SqF (K:Fg) (H:Hp) (a:Addr) (xs:List V):Prop :=
 (∃ o,H a=some (.frz o (.lst xs))) \/ ∃ (o:Obj) (its:Array Value) (n:Nat),K.lookup a=some o /\ o.cls=.type "list" /\ o.dict=none /\ o.data=.seq its n /\ its.size<=sizeLine /\ Vals xs its.toList
theorem SqF.l {K:Fg} {H:Hp} {a:Addr} {xs:List V} (h:SqF K H a xs):SqL K H a xs:=by
 rcases h with ⟨o,h⟩ | h
 ·exact .inl (.inr ⟨o,h⟩)
 ·exact .inr h
theorem SqF.mono {K:Fg} {H H':Hp} {a:Addr} {xs:List V} (k:Kp H H') (h:SqF K H a xs):SqF K H' a xs:=by
 rcases h with ⟨o,h⟩ | h
 ·exact .inl ⟨o,k.frz _ _ _ h⟩
 ·exact .inr h
theorem SqT.mono {K:Fg} {H H':Hp} {a:Addr} {xs:List V} (k:Kp H H') (h:SqT K H a xs):SqT K H' a xs:=by
 rcases h with h | h
 ·rcases h with h | ⟨o,h⟩
  ·exact .inl (.inl (k.tup _ _ h))
  ·exact .inl (.inr ⟨o,k.frz _ _ _ h⟩)
 ·exact .inr h
mutual
inductive RelD (K:Fg) (H:Hp):D->V->Prop where
 | non:RelD K H .non .non
 | bl (b:Bool):RelD K H (.bl b) (.bl b)
 | int (i:Int):RelD K H (.int i) (.int i)
 | str (x:Str):RelD K H (.str x) (.str x)
 | ref (a:Addr):RelD K H (.ref a) (.ref a)
 | ty (n:String):RelD K H (.ty n) (.ty n)
 | tup {a:Addr} {l:List D} {vs:List V}:SqT K H a vs->RelDs K H l vs->RelD K H (.tup l) (.ref a)
 | fls {a:Addr} {l:List D} {vs:List V}:SqF K H a vs->RelDs K H l vs->RelD K H (.fls l) (.ref a)
 | exc {a C:Addr} {c:Str} {ob:Obj} {u:HO}:H a=some (.frz ob u)->ob.cls=.ref C->PySem.W.nsIn K mainGlobals c=some (some (.ref C))->RelD K H (.exc c) (.ref a)
inductive RelDs (K:Fg) (H:Hp):List D->List V->Prop where
 | nil:RelDs K H [] []
 | cons {d:D} {v:V} {l:List D} {vs:List V}:RelD K H d v->RelDs K H l vs->RelDs K H (d :: l) (v :: vs)
end
mutual
theorem RelD.mono {K:Fg} {H H':Hp} (k:Kp H H'):∀ {d:D} {v:V},RelD K H d v->RelD K H' d v
 | _,_,.non=>.non
 | _,_,.bl b=>.bl b
 | _,_,.int b=>.int b
 | _,_,.str b=>.str b
 | _,_,.ref b=>.ref b
 | _,_,.ty b=>.ty b
 | _,_,.tup h r=>.tup (SqT.mono k h) (RelDs.mono k r)
 | _,_,.fls h r=>.fls (SqF.mono k h) (RelDs.mono k r)
 | _,_,.exc h r1 r2=>.exc (k.frz _ _ _ h) r1 r2
theorem RelDs.mono {K:Fg} {H H':Hp} (k:Kp H H'):∀ {d:List D} {v:List V},RelDs K H d v->RelDs K H' d v
 | _,_,.nil=>.nil
 | _,_,.cons h r=>.cons (RelD.mono k h) (RelDs.mono k r)
end
theorem RelDs.length {K:Fg} {H:Hp}:∀ {l:List D} {vs:List V},RelDs K H l vs->l.length=vs.length
 | _,_,.nil=>rfl
 | _,_,.cons _ r=>congrArg (· + 1) r.length
theorem RelDs.get {K:Fg} {H:Hp}:∀ {l:List D} {vs:List V} {i:Nat} {d:D},RelDs K H l vs->l[i]?=some d->∃ v,vs[i]?=some v /\ RelD K H d v
 | _,_,_,_,.nil,e=>by simp at e
 | _,_,0,_,.cons h _,e=>by simp at e; subst e; exact ⟨_,rfl,h⟩
 | _,_,i + 1,d,.cons _ r,e=>by
  obtain ⟨v,h1,h2⟩:=RelDs.get (i:=i) (d:=d) r (by simpa using e)
  exact ⟨v,by simpa using h1,h2⟩
theorem RelDs.append {K:Fg} {H:Hp}:∀ {l m:List D} {vs us:List V},RelDs K H l vs->RelDs K H m us->RelDs K H (l ++ m) (vs ++ us)
 | _,_,_,_,.nil,q=>q
 | _,_,_,_,.cons h r,q=>.cons h (RelDs.append r q)
theorem RelDs.set {K:Fg} {H:Hp} {d:D} {v:V} (hd:RelD K H d v):∀ {l:List D} {vs:List V} (i:Nat),RelDs K H l vs->RelDs K H (l.set i d) (vs.set i v)
 | _,_,_,.nil=>.nil
 | _,_,0,.cons _ r=>.cons hd r
 | _,_,i + 1,.cons h r=>.cons h (RelDs.set hd i r)
theorem RelDs.take {K:Fg} {H:Hp}:∀ {l:List D} {vs:List V} (n:Nat),RelDs K H l vs->RelDs K H (l.take n) (vs.take n)
 | _,_,0,r=>by simp only [List.take_zero]; exact .nil
 | _,_,n + 1,.nil=>by simp only [List.take_nil]; exact .nil
 | _,_,n + 1,.cons h r=>by simp only [List.take_succ_cons]; exact .cons h (RelDs.take n r)
theorem RelDs.drop {K:Fg} {H:Hp}:∀ {l:List D} {vs:List V} (n:Nat),RelDs K H l vs->RelDs K H (l.drop n) (vs.drop n)
 | _,_,0,r=>by simp only [List.drop_zero]; exact r
 | _,_,n + 1,.nil=>by simp only [List.drop_nil]; exact .nil
 | _,_,n + 1,.cons h r=>by simp only [List.drop_succ_cons]; exact RelDs.drop n r
theorem RelDs.rep {K:Fg} {H:Hp} {l:List D} {vs:List V} (r:RelDs K H l vs):∀ k:Nat,RelDs K H (List.replicate k l).flatten (List.replicate k vs).flatten
 | 0=>.nil
 | k + 1=>by rw [List.replicate_succ,List.replicate_succ,List.flatten_cons,List.flatten_cons]; exact r.append (RelDs.rep r k)
inductive RelFs (K:Fg) (H:Hp):List (Str × D)->List (Str × V)->Prop where
 | nil:RelFs K H [] []
 | cons {f:Str} {d:D} {v:V} {l:List (Str × D)} {vs:List (Str × V)}:RelD K H d v->RelFs K H l vs->RelFs K H ((f,d) :: l) ((f,v) :: vs)
theorem RelFs.mono {K:Fg} {H H':Hp} (k:Kp H H') {l:List (Str × D)} {vs:List (Str × V)} (r:RelFs K H l vs):RelFs K H' l vs:=by
 induction r with
 | nil=>exact .nil
 | cons h _ ih=>exact .cons (h.mono k) ih
noncomputable def kT (t:Int × Int × Int):List Key:=[.inl t.1,.inl t.2.1,.inl t.2.2]
inductive RelKs (K:Fg) (H:Hp):List ((Int × Int × Int) × D)->List (List Key × V)->Prop where
 | nil:RelKs K H [] []
 | cons {t:Int × Int × Int} {d:D} {v:V} {l:List ((Int × Int × Int) × D)} {vs:List (List Key × V)}:RelD K H d v->RelKs K H l vs->RelKs K H ((t,d) :: l) ((kT t,v) :: vs)
theorem RelKs.mono {K:Fg} {H H':Hp} (k:Kp H H') {l:List ((Int × Int × Int) × D)} {vs:List (List Key × V)} (r:RelKs K H l vs):RelKs K H' l vs:=by
 induction r with
 | nil=>exact .nil
 | cons h _ ih=>exact .cons (h.mono k) ih
structure RelM (K:Fg) (μ:Mu) (H:Hp):Prop where
 lst:∀ p xs,μ p=some (.lst xs)->∃ vs,H p=some (.lst vs) /\ RelDs K H xs vs
 ins:∀ p c fs,μ p=some (.ins c fs)->∃ C dx vs,PySem.W.nsIn K mainGlobals c=some (some (.ref C)) /\ H p=some (.ins C dx vs) /\ H dx=some (.own p) /\ RelFs K H fs vs
 dct:∀ p kvs,μ p=some (.dct kvs)->∃ vs,H p=some (.dT vs) /\ RelKs K H kvs vs
instance {K:Fg} {μ:Mu} {H:Hp}:CoeFun (RelM K μ H) (λ _=>∀ p xs,μ p=some (.lst xs)->∃ vs,H p=some (.lst vs) /\ RelDs K H xs vs):=⟨RelM.lst⟩
theorem RelM.free {K:Fg} {μ:Mu} {H:Hp} (m:RelM K μ H) {p:Addr} (h:H p=none):μ p=none:=by
 cases e:μ p with
 | none=>rfl
 | some o =>
  cases o with
  | lst xs =>
   obtain ⟨vs,q,_⟩:=m.lst p xs e
   rw [h] at q; cases q
  | ins c fs =>
   obtain ⟨C,dx,vs,_,q,_⟩:=m.ins p c fs e
   rw [h] at q; cases q
  | dct kvs =>
   obtain ⟨vs,q,_⟩:=m.dct p kvs e
   rw [h] at q; cases q
theorem RelM.newT {K:Fg} {μ:Mu} {H:Hp} {p:Addr} {o:HO} (h:H p=none) (m:RelM K μ H):RelM K μ (upd H p o):=by
 have ne:∀ {q:Addr} {u:HO},H q=some u->q ≠ p:=λ {q u} e z=>by subst z; rw [h] at e; cases e
 refine ⟨λ q xs e=>?_,λ q c fs e=>?_,λ q kvs e=>?_⟩
 ·obtain ⟨vs,q1,r⟩:=m.lst q xs e
  exact ⟨vs,by rw [xg0 (ne q1)]; exact q1,r.mono (Kp.new h)⟩
 ·obtain ⟨C,dx,vs,n,q1,q2,r⟩:=m.ins q c fs e
  exact ⟨C,dx,vs,n,by rw [xg0 (ne q1)]; exact q1,by rw [xg0 (ne q2)]; exact q2,r.mono (Kp.new h)⟩
 ·obtain ⟨vs,q1,r⟩:=m.dct q kvs e
  exact ⟨vs,by rw [xg0 (ne q1)]; exact q1,r.mono (Kp.new h)⟩
theorem RelM.newL {K:Fg} {μ:Mu} {H:Hp} {p:Addr} {xs:List D} {vs:List V} (h:H p=none) (r:RelDs K H xs vs) (m:RelM K μ H):RelM K (updM μ p (.lst xs)) (upd H p (.lst vs)):=by
 have m':=m.newT (o:=.lst vs) h
 refine ⟨λ q ys e=>?_,λ q c fs e=>?_,λ q kvs e=>?_⟩
 ·by_cases z:q=p
  ·subst z
   rw [xc0] at e; cases e
   exact ⟨vs,wj0,r.mono (Kp.new h)⟩
  ·rw [wd0 z] at e
   exact m'.lst q ys e
 ·by_cases z:q=p
  ·subst z
   rw [xc0] at e; cases e
  ·rw [wd0 z] at e
   exact m'.ins q c fs e
 ·by_cases z:q=p
  ·subst z
   rw [xc0] at e; cases e
  ·rw [wd0 z] at e
   exact m'.dct q kvs e
theorem RelM.wr {K:Fg} {μ:Mu} {H:Hp} {p:Addr} {xs:List D} {vs ws:List V} (h:H p=some (.lst ws)) (r:RelDs K H xs vs) (m:RelM K μ H):RelM K (updM μ p (.lst xs)) (upd H p (.lst vs)):=by
 refine ⟨λ q ys e=>?_,λ q c fs e=>?_,λ q kvs e=>?_⟩
 ·by_cases z:q=p
  ·subst z
   rw [xc0] at e; cases e
   exact ⟨vs,wj0,r.mono (Kp.wr h)⟩
  ·rw [wd0 z] at e
   rw [xg0 z]
   obtain ⟨us,q1,r1⟩:=m.lst q ys e
   exact ⟨us,q1,r1.mono (Kp.wr h)⟩
 ·by_cases z:q=p
  ·subst z
   rw [xc0] at e; cases e
  ·rw [wd0 z] at e
   obtain ⟨C,dx,us,n,q1,q2,r1⟩:=m.ins q c fs e
   refine ⟨C,dx,us,n,by rw [xg0 z]; exact q1,?_,r1.mono (Kp.wr h)⟩
   rw [xg0]
   ·exact q2
   ·intro y; subst y; rw [h] at q2; cases q2
 ·by_cases z:q=p
  ·subst z
   rw [xc0] at e; cases e
  ·rw [wd0 z] at e
   rw [xg0 z]
   obtain ⟨us,q1,r1⟩:=m.dct q kvs e
   exact ⟨us,q1,r1.mono (Kp.wr h)⟩
structure RSt (K:Fg) (H:Hp) (ρ:St3) (σ:St):Prop where
 len:ρ.length=σ.length
 at':∀ i d,getI ρ i=some d->∃ v,σ[i]?=some (some v) /\ RelD K H d v
theorem RSt.mono {K:Fg} {H H':Hp} {ρ:St3} {σ:St} (k:Kp H H') (s:RSt K H ρ σ):RSt K H' ρ σ:=⟨s.len,λ i d e=>let ⟨v,h,r⟩:=s.at' i d e; ⟨v,h,r.mono k⟩⟩
theorem yh3:∀ (ρ:St3) (i j:Nat) (d:Option D),getI (ρ.set i d) j=if i=j /\ i < ρ.length then d else getI ρ j
 | [],i,j,d=>by simp [getI]
 | o :: r,0,0,d=>by simp [getI]
 | o :: r,0,j + 1,d=>by simp [getI]
 | o :: r,i + 1,0,d=>by simp [getI]
 | o :: r,i + 1,j + 1,d=>by simp only [List.set_cons_succ,getI,yh3 r i j d,List.length_cons]; simp
theorem RSt.set {K:Fg} {H:Hp} {ρ:St3} {σ:St} {d:D} {v:V} (i:Nat) (r:RelD K H d v) (s:RSt K H ρ σ):RSt K H (ρ.set i (some d)) (σ.set i (some v)):=by
 refine ⟨by simp [s.len],λ j e h=>?_⟩
 rw [yh3] at h
 split at h
 ·next c =>
  obtain ⟨rfl,c2⟩:=c
  cases h
  exact ⟨v,by rw [List.getElem?_set_self (by rw [<- s.len]; exact c2)],r⟩
 ·next c =>
  obtain ⟨u,q,r'⟩:=s.at' j e h
  have hj:j < σ.length:=(List.getElem?_eq_some_iff.mp q).1
  by_cases z:i=j
  ·subst z; exact absurd ⟨rfl,by rw [s.len]; exact hj⟩ c
  ·exact ⟨u,by rw [List.getElem?_set_ne z]; exact q,r'⟩
theorem RSt.start {K:Fg} {H:Hp} {ds:List D} {vs:List V} (N:List Str) (r:RelDs K H ds vs):RSt K H (yd0 N ds) (L2.start N vs):=by
 have hl:=r.length
 refine ⟨by simp [yd0,L2.start,hl],λ i d e=>?_⟩
 rw [xw2] at e
 unfold yd0 at e
 unfold L2.start
 by_cases c:i < ds.length
 ·rw [List.getElem?_append_left (by simpa using c),List.getElem?_map] at e
  cases q:ds[i]? with
  | none=>rw [q] at e; cases e
  | some d' =>
   rw [q] at e
   have e':d'=d:=by simpa using e
   subst e'
   obtain ⟨v,h1,h2⟩:=r.get q
   exact ⟨v,by rw [List.getElem?_append_left (by rw [List.length_map]; omega),List.getElem?_map,h1]; rfl,h2⟩
 ·rw [List.getElem?_append_right (by simpa using c),List.getElem?_replicate] at e
  split at e <;> simp at e
noncomputable abbrev Ks (K:Fg) (H:Hp) (Q3:VK3) (Q:VK):Prop:=∀ d μ' v H',Q3 d μ'->Kp H H'->RelD K H' d v->RelM K μ' H'->Q v H'
theorem Ks.after {K:Fg} {H H1:Hp} {Q3:VK3} {Q:VK} (k:Ks K H Q3 Q) (e:Kp H H1):Ks K H1 Q3 Q:=λ d μ v H' q e'=>k d μ v H' q (e.trans e')
noncomputable def RdE (K:Fg) (tv:TE) (t:TE3):Prop:=∀ σ H Q ρ μ Q3,RSt K H ρ σ->RelM K μ H->t ρ μ Q3->Ks K H Q3 Q->tv σ H Q
noncomputable def RE (X:Cx) (e:Expr) (t:TE3):Prop:=∃ tv,PE X e tv /\ RdE X.K tv t
noncomputable def RdT (K:Fg) (tv:TT) (t:TT3):Prop:=∀ σ H Q ρ μ Q3,RSt K H ρ σ->RelM K μ H->t ρ μ Q3->(∀ b μ' H',Q3 b μ'->Kp H H'->RelM K μ' H'->Q b H')->tv σ H Q
noncomputable def RT (X:Cx) (e:Expr) (t:TT3):Prop:=∃ tv,PT X e tv /\ RdT X.K tv t
noncomputable def RW (X:Cx) (e:Expr) (t:TT3):Prop:=∃ tv,PW X e tv /\ RdT X.K tv t
noncomputable def RdA (K:Fg) (tv:TA) (t:TA3):Prop:=∀ σ H Q ρ μ Q3,RSt K H ρ σ->RelM K μ H->t ρ μ Q3->(∀ ds μ' vs H',Q3 ds μ'->Kp H H'->RelDs K H' ds vs->RelM K μ' H'->Q vs H')->tv σ H Q
noncomputable def RA (X:Cx) (es:List Expr) (t:TA3):Prop:=∃ tv,PA X es tv /\ RdA X.K tv t
structure KsD (K:Fg) (H:Hp) (D3:Ends3) (D:Ends):Prop where
 nx:∀ ρ μ σ H',D3.nx ρ μ->Kp H H'->RSt K H' ρ σ->RelM K μ H'->D.nx σ H'
 bk:∀ ρ μ σ H',D3.bk ρ μ->Kp H H'->RSt K H' ρ σ->RelM K μ H'->D.bk σ H'
 ct:∀ ρ μ σ H',D3.ct ρ μ->Kp H H'->RSt K H' ρ σ->RelM K μ H'->D.ct σ H'
 rt:Ks K H D3.rt D.rt
theorem KsD.after {K:Fg} {H H1:Hp} {D3:Ends3} {D:Ends} (k:KsD K H D3 D) (e:Kp H H1):KsD K H1 D3 D :=
 ⟨λ ρ μ σ H' q e'=>k.nx ρ μ σ H' q (e.trans e'),λ ρ μ σ H' q e'=>k.bk ρ μ σ H' q (e.trans e'),λ ρ μ σ H' q e'=>k.ct ρ μ σ H' q (e.trans e'),k.rt.after e⟩
noncomputable def RdS (K:Fg) (tv:TS) (t:TS3):Prop:=∀ σ H D ρ μ D3,RSt K H ρ σ->RelM K μ H->t D3 ρ μ->KsD K H D3 D->tv D σ H
noncomputable def RS (X:Cx) (st:Stmt) (t:TS3):Prop:=∃ tv,PS X st tv /\ RdS X.K tv t
noncomputable def RSs (X:Cx) (st:List Stmt) (t:TS3):Prop:=∃ tv,PSs X st tv /\ RdS X.K tv t
noncomputable def RdG (K:Fg) (tv:TG) (t:TG3):Prop:=∀ v d σ H Q ρ μ Q3,RSt K H ρ σ->RelM K μ H->RelD K H d v->t d ρ μ Q3->(∀ ρ' μ' σ' H',Q3 ρ' μ'->Kp H H'->RSt K H' ρ' σ'->RelM K μ' H'->Q σ' H')->tv v σ H Q
noncomputable def RG (X:Cx) (e:Expr) (t:TG3):Prop:=∃ tv,PG X e tv /\ RdG X.K tv t
noncomputable def RdGs (K:Fg) (tv:TGs) (t:TGs3):Prop:=∀ vs ds σ H Q ρ μ Q3,RSt K H ρ σ->RelM K μ H->RelDs K H ds vs->t ds ρ μ Q3->(∀ ρ' μ' σ' H',Q3 ρ' μ'->Kp H H'->RSt K H' ρ' σ'->RelM K μ' H'->Q σ' H')->tv vs σ H Q
noncomputable def RGs (X:Cx) (es:List Expr) (t:TGs3):Prop:=∃ tv,PGs X es tv /\ RdGs X.K tv t
noncomputable def RdO (K:Fg) (r:R2) (r3:R3):Prop:=∀ x y v u H Q μ Q3,RelM K μ H->RelD K H x v->RelD K H y u->r3 x y μ Q3->Ks K H Q3 Q->r v u H Q
noncomputable def RO (X:Cx) (f:Value->Value->Sem Value) (r3:R3):Prop:=∃ r,OpR X f r /\ RdO X.K r r3
noncomputable def RdU (K:Fg) (r:V->Hp->VK->Prop) (r3:D->Mu->VK3->Prop):Prop:=∀ x v H Q μ Q3,RelM K μ H->RelD K H x v->r3 x μ Q3->Ks K H Q3 Q->r v H Q
noncomputable def RU (X:Cx) (f:Value->Sem Value) (r3:D->Mu->VK3->Prop):Prop:=∃ r,UnR X f r /\ RdU X.K r r3
noncomputable def RdC (K:Fg) (r:List V->Hp->VK->Prop) (r3:C3):Prop:=∀ xs vs H Q μ Q3,RelM K μ H->RelDs K H xs vs->r3 xs μ Q3->Ks K H Q3 Q->r vs H Q
noncomputable def RC (X:Cx) (f:Value) (r3:C3):Prop:=∃ r,CallR X f r /\ RdC X.K r r3
noncomputable def RX (X:Cx) (r3:R3):Prop:=∃ r,IxR X r /\ RdO X.K r r3
end Pv
namespace Pv
open PySem L2
section
variable {X:Cx} {a b c e:Expr} {ta tb tc te:TE3} {pos:Pos}
theorem ya0 (i:Nat) {x:Str} (hN:X.N[i]?=some x:=by rfl) (hv:Vis X.env.scope x:=by first | exact Or.inl rfl | exact Or.inr (Or.inl rfl) | exact Or.inr (Or.inr rfl)) (hd:(x == ("__debug__" : Str))=false:=by decide)
    (hcd:(x == ("__classdict__" : Str))=false:=by decide):RE X (.Name x pos) (v3 i):=by
 refine ⟨_,wh8 hN hv hd hcd,λ σ H Q ρ μ Q3 s m h k=>?_⟩
 unfold v3 at h
 cases q:getI ρ i with
 | none=>rw [q] at h; exact h.elim
 | some d =>
  rw [q] at h
  obtain ⟨v,e,r⟩:=s.at' i d q
  exact ⟨v,e,k d μ v H h (Kp.refl H) r m⟩
theorem RdE.cst {K:Fg} {d:D} {v:V} (r:∀ H,RelD K H d v):RdE K (tC v) (c3 d):=λ σ H Q ρ μ Q3 s m h k=>k d μ v H h (Kp.refl H) (r H) m
theorem za0 {i:Int} {j}:RE X (.Constant (.int i) j pos) (c3 (.int i)):=⟨_,zj8,RdE.cst λ _=>.int i⟩
theorem xl6 {i:Bool} {j}:RE X (.Constant (.bool i) j pos) (c3 (.bl i)):=⟨_,yl9,RdE.cst λ _=>.bl i⟩
theorem zw0 {j}:RE X (.Constant .none j pos) (c3 .non):=⟨_,xj8,RdE.cst λ _=>.non⟩
theorem zq0 {x:Str} {j}:RE X (.Constant (.str x) j pos) (c3 (.str x)):=⟨_,yi8,RdE.cst λ _=>.str x⟩
noncomputable def Gd (K:Fg) (mg:Str->Option Value) (x:Str) (d:D):Prop:=∃ u v,mg x=some u /\ RelV v u /\ ∀ H,RelD K H d v
theorem re_g {x:Str} {d:D} (g:Gd X.K X.mg x d) (hg:Gl X x:=by rfl) (hd:(x == ("__debug__" : Str))=false:=by decide):RE X (.Name x pos) (c3 d):=by
 obtain ⟨u,v,hm,r,rd⟩:=g
 exact ⟨_,xr6 hg hm r hd,RdE.cst rd⟩
theorem xd4 {x:Str} {T:String} (hm:X.mg x=none) (hv:bootBuiltins x=some (.type T)) (hg:Gl X x:=by rfl) (hn:x ≠ "__name__" := by decide) (hd:(x == ("__debug__" : Str))=false:=by decide):RE X (.Name x pos) (c3 (.ty T)) :=
 ⟨_,xs6 hg hm hv (show RelV (.ty T) (.type T) from rfl) hn hd,RdE.cst λ _=>.ty T⟩
theorem we0 {op:Operator} {r3:R3} (ho:RO X (binaryOp op) r3) (ha:RE X a ta) (hb:RE X b tb):RE X (.BinOp a op b pos) (o3 r3 ta tb):=by
 obtain ⟨r,po,ro⟩:=ho
 obtain ⟨va,pa,ra⟩:=ha
 obtain ⟨vb,pb,rb⟩:=hb
 exact ⟨_,zk9 po pa pb,λ σ H Q ρ μ Q3 s m h k=>ra σ H _ ρ μ _ s m h λ x μ1 v H1 h1 k1 r1 m1=>rb σ H1 _ ρ μ1 _ (s.mono k1) m1 h1 λ y μ2 u H2 h2 k2 r2 m2 =>
  ro x y v u H2 Q μ2 Q3 m2 (r1.mono k2) r2 h2 (k.after (k1.trans k2))⟩
theorem zk2 {op:UnaryOp} {r3:D->Mu->VK3->Prop} (ho:RU X (unaryOp op) r3) (ha:RE X a ta):RE X (.UnaryOp op a pos) (un3 r3 ta):=by
 obtain ⟨r,po,ro⟩:=ho
 obtain ⟨va,pa,ra⟩:=ha
 exact ⟨_,xk9 po pa,λ σ H Q ρ μ Q3 s m h k=>ra σ H _ ρ μ _ s m h λ x μ1 v H1 h1 k1 r1 m1=>ro x v H1 Q μ1 Q3 m1 r1 h1 (k.after k1)⟩
theorem RdE.op {K:Fg} {r:R2} {r3:R3} {va vb:TE} (ra:RdE K va ta) (rb:RdE K vb tb) (ro:RdO K r r3):RdE K (tOp r va vb) (o3 r3 ta tb):=λ σ H Q ρ μ Q3 s m h k =>
 ra σ H _ ρ μ _ s m h λ x μ1 v H1 h1 k1 r1 m1=>rb σ H1 _ ρ μ1 _ (s.mono k1) m1 h1 λ y μ2 u H2 h2 k2 r2 m2=>ro x y v u H2 Q μ2 Q3 m2 (r1.mono k2) r2 h2 (k.after (k1.trans k2))
theorem RdT.test {K:Fg} {va:TE} (ra:RdE K va ta):RdT K (wj7 va) (b3 ta):=λ σ H Q ρ μ Q3 s m h k=>by
 refine ra σ H _ ρ μ _ s m h λ d μ1 v H1 h1 k1 r1 m1=>?_
 cases r1 with
 | bl c=>exact ⟨c,rfl,k c μ1 H1 h1 k1 m1⟩
 | _=>exact False.elim h1
theorem xm1 {op:CmpOp} {r3:R3} (ho:RO X (compareOp op) r3) (ha:RE X a ta) (hb:RE X b tb) (hm:behindInMarks op b=false:=by first | exact wu5 _ | with_unfolding_all rfl):RE X (.Compare a [op] [b] pos) (o3 r3 ta tb):=by
 obtain ⟨r,po,ro⟩:=ho
 obtain ⟨va,pa,ra⟩:=ha
 obtain ⟨vb,pb,rb⟩:=hb
 exact ⟨_,zr6 po pa pb hm,ra.op rb ro⟩
theorem yf0 {op:CmpOp} {r3:R3} (ho:RO X (compareOp op) r3) (ha:RE X a ta) (hb:RE X b tb) (hm:behindInMarks op b=false:=by first | exact wu5 _ | with_unfolding_all rfl):RT X (.Compare a [op] [b] pos) (b3 (o3 r3 ta tb)):=by
 obtain ⟨r,po,ro⟩:=ho
 obtain ⟨va,pa,ra⟩:=ha
 obtain ⟨vb,pb,rb⟩:=hb
 exact ⟨_,yn6 po pa pb hm,RdT.test (ra.op rb ro)⟩
theorem zv1 (ha:RE X a ta) (he:∀ whole,isTrue a X.env whole=(do let v <- whole; standAt a.pos; holding [v] (truthy v)):=by intro _; rfl):RT X a (b3 ta):=by
 obtain ⟨va,pa,ra⟩:=ha
 exact ⟨_,xf8 pa he,RdT.test ra⟩
variable {tA tB':TT3} {rest:List Expr}
theorem RW.pt (h:RW X a tA):RT X a tA:=let ⟨t,p,r⟩:=h; ⟨t,p.pt,r⟩
theorem xk2 (h:RW X a tA):RT X a tA:=h.pt
theorem wf1 (h:RT X a tA):RW X (.BoolOp .And [a] pos) tA:=let ⟨t,p,r⟩:=h; ⟨t,wm6 p,r⟩
theorem zt5 (h:RT X a tA):RW X (.BoolOp .Or [a] pos) tA:=let ⟨t,p,r⟩:=h; ⟨t,ze8 p,r⟩
theorem yv1 (ha:RT X a tA) (hb:RW X (.BoolOp .And (b :: rest) pos) tB'):RW X (.BoolOp .And (a :: b :: rest) pos) (and3 tA tB'):=by
 obtain ⟨va,pa,ra⟩:=ha
 obtain ⟨vb,pb,rb⟩:=hb
 refine ⟨_,we8 pa pb,λ σ H Q ρ μ Q3 s m h k=>ra σ H _ ρ μ _ s m h λ c μ1 H1 h1 k1 m1=>?_⟩
 cases c with
 | true=>exact rb σ H1 Q ρ μ1 Q3 (s.mono k1) m1 h1 λ b μ' H' q e=>k b μ' H' q (k1.trans e)
 | false=>exact k _ _ _ h1 k1 m1
theorem yq7 (ha:RT X a tA) (hb:RW X (.BoolOp .Or (b :: rest) pos) tB'):RW X (.BoolOp .Or (a :: b :: rest) pos) (or3 tA tB'):=by
 obtain ⟨va,pa,ra⟩:=ha
 obtain ⟨vb,pb,rb⟩:=hb
 refine ⟨_,xj9 pa pb,λ σ H Q ρ μ Q3 s m h k=>ra σ H _ ρ μ _ s m h λ c μ1 H1 h1 k1 m1=>?_⟩
 cases c with
 | true=>exact k _ _ _ h1 k1 m1
 | false=>exact rb σ H1 Q ρ μ1 Q3 (s.mono k1) m1 h1 λ b μ' H' q e=>k b μ' H' q (k1.trans e)
theorem yc3 (ha:RT X a tA):RT X (.UnaryOp .Not a pos) (not3 tA):=by
 obtain ⟨va,pa,ra⟩:=ha
 exact ⟨_,yf8 pa,λ σ H Q ρ μ Q3 s m h k=>ra σ H _ ρ μ _ s m h λ c μ1 H1 h1 k1 m1=>k _ _ _ h1 k1 m1⟩
theorem zd3 {op} (h:RE X a ta):RE X (.BoolOp op [a] pos) ta:=let ⟨t,p,r⟩:=h; ⟨t,zi8 p,r⟩
theorem xe3 (ha:RE X a ta) (hb:RE X (.BoolOp .And (b :: rest) pos) tb):RE X (.BoolOp .And (a :: b :: rest) pos) (zx2 ta tb):=by
 obtain ⟨va,pa,ra⟩:=ha
 obtain ⟨vb,pb,rb⟩:=hb
 refine ⟨_,xk8 pa pb,λ σ H Q ρ μ Q3 s m h k=>ra σ H _ ρ μ _ s m h λ d μ1 v H1 h1 k1 r1 m1=>?_⟩
 cases r1 with
 | bl c =>
  refine ⟨c,rfl,?_⟩
  cases c with
  | true=>exact rb σ H1 Q ρ μ1 Q3 (s.mono k1) m1 h1 (k.after k1)
  | false=>exact k _ _ _ _ h1 k1 (.bl _) m1
 | _=>exact False.elim h1
theorem we9 (ha:RE X a ta) (hb:RE X (.BoolOp .Or (b :: rest) pos) tb):RE X (.BoolOp .Or (a :: b :: rest) pos) (orV3 ta tb):=by
 obtain ⟨va,pa,ra⟩:=ha
 obtain ⟨vb,pb,rb⟩:=hb
 refine ⟨_,yk9 pa pb,λ σ H Q ρ μ Q3 s m h k=>ra σ H _ ρ μ _ s m h λ d μ1 v H1 h1 k1 r1 m1=>?_⟩
 cases r1 with
 | bl c =>
  refine ⟨c,rfl,?_⟩
  cases c with
  | true=>exact k _ _ _ _ h1 k1 (.bl _) m1
  | false=>exact rb σ H1 Q ρ μ1 Q3 (s.mono k1) m1 h1 (k.after k1)
 | _=>exact False.elim h1
theorem yx7 (ha:RE X a ta):RE X (.UnaryOp .Not a pos) (xu6 ta):=by
 obtain ⟨va,pa,ra⟩:=ha
 refine ⟨_,wi8 pa,λ σ H Q ρ μ Q3 s m h k=>ra σ H _ ρ μ _ s m h λ d μ1 v H1 h1 k1 r1 m1=>?_⟩
 cases r1 with
 | bl c=>exact ⟨c,rfl,k _ _ _ _ h1 k1 (.bl _) m1⟩
 | _=>exact False.elim h1
theorem zx7 (hc:RT X c tA) (ha:RE X a ta) (hb:RE X b tb):RE X (.IfExp c a b pos) (if3 tA ta tb):=by
 obtain ⟨vc,pc,rc⟩:=hc
 obtain ⟨va,pa,ra⟩:=ha
 obtain ⟨vb,pb,rb⟩:=hb
 refine ⟨_,zg5 pc pa pb,λ σ H Q ρ μ Q3 s m h k=>rc σ H _ ρ μ _ s m h λ c μ1 H1 h1 k1 m1=>?_⟩
 cases c with
 | true=>exact ra σ H1 Q ρ μ1 Q3 (s.mono k1) m1 h1 (k.after k1)
 | false=>exact rb σ H1 Q ρ μ1 Q3 (s.mono k1) m1 h1 (k.after k1)
variable {es:List Expr} {t:TA3}
theorem zb0:RA X [] nil3:=⟨_,yk8,λ σ H Q ρ μ Q3 s m h k=>k [] μ [] H h (Kp.refl H) .nil m⟩
theorem xa0 (ha:RE X e te) (hr:RA X es t) (hs:starEach (e :: es) X.env=(false,eval e X.env) :: starEach es X.env:=by rfl):RA X (e :: es) (wa0 te t):=by
 obtain ⟨va,pa,ra⟩:=ha
 obtain ⟨vb,pb,rb⟩:=hr
 exact ⟨_,ws6 pa pb hs,λ σ H Q ρ μ Q3 s m h k=>ra σ H _ ρ μ _ s m h λ d μ1 v H1 h1 k1 r1 m1=>rb σ H1 _ ρ μ1 _ (s.mono k1) m1 h1 λ ds μ2 vs H2 h2 k2 r2 m2 =>
  k _ _ _ _ h2 (k1.trans k2) (.cons (r1.mono k2) r2) m2⟩
theorem wg0 {x1} (h:RA X es t):RE X (.Tuple es x1 pos) (tup3 t):=by
 obtain ⟨va,pa,ra⟩:=h
 refine ⟨_,xi8 pa,λ σ H Q ρ μ Q3 s m h k=>ra σ H _ ρ μ _ s m h λ ds μ1 vs H1 h1 k1 r1 m1=>⟨by rw [<- r1.length]; exact h1.1,λ p hp=>?_⟩⟩
 exact k _ _ _ _ h1.2 (k1.trans (Kp.new hp)) (.tup (SqT.of wj0) (r1.mono (Kp.new hp))) (m1.newT hp)
theorem zh1 (h:RA X es t):RE X (.List es pos) (lst3 t):=by
 obtain ⟨va,pa,ra⟩:=h
 refine ⟨_,yj8 pa,λ σ H Q ρ μ Q3 s m h k=>ra σ H _ ρ μ _ s m h λ ds μ1 vs H1 h1 k1 r1 m1=>⟨by rw [<- r1.length]; exact h1.1,λ p hp=>?_⟩⟩
 exact k _ _ _ _ (h1.2 p (m1.free hp)) (k1.trans (Kp.new hp)) (.ref p) (m1.newL hp r1)
variable {st:Stmt} {sts:List Stmt} {t3 u3:TS3}
theorem ye0:RSs X [] yg0:=⟨_,wn6,λ σ H D ρ μ D3 s m h k=>k.nx ρ μ σ H h (Kp.refl H) s m⟩
theorem wb0 (h:RS X st t3):RSs X [st] t3:=let ⟨t,p,r⟩:=h; ⟨t,zn6 p,r⟩
theorem yb0 (h1:RS X st t3) (h2:RSs X sts u3):RSs X (st :: sts) (seq3 t3 u3):=by
 obtain ⟨va,pa,ra⟩:=h1
 obtain ⟨vb,pb,rb⟩:=h2
 refine ⟨_,we5 pa pb,λ σ H D ρ μ D3 s m h k=>ra σ H _ ρ μ _ s m h ⟨λ ρ1 μ1 σ1 H1 h1 k1 s1 m1=>rb σ1 H1 D ρ1 μ1 D3 s1 m1 h1 (k.after k1),k.bk,k.ct,k.rt⟩⟩
theorem wn0:RS X st zo0:=⟨_,xf5,λ σ H D ρ μ D3 s m h k=>h⟩
theorem ws0 (he:RE X e te) (hs:swapsWith e none pos.line X.env=pure false:=by rfl):RS X (.Expr e pos) (xw0 te):=by
 obtain ⟨va,pa,ra⟩:=he
 exact ⟨_,yo6 pa hs,λ σ H D ρ μ D3 s m h k=>ra σ H _ ρ μ _ s m h λ d μ1 v H1 h1 k1 r1 m1=>k.nx ρ μ1 σ H1 h1 k1 (s.mono k1) m1⟩
theorem zd0 (he:RE X e te):RS X (.Return (some e) pos) (ret3 te):=by
 obtain ⟨va,pa,ra⟩:=he
 exact ⟨_,zf8 pa,λ σ H D ρ μ D3 s m h k=>ra σ H _ ρ μ _ s m h k.rt⟩
theorem xi0 {as bs:List Stmt} (hc:RT X c tA) (ha:RSs X as t3) (hb:RSs X bs u3):RS X (.If c as bs pos) (ifs3 tA t3 u3):=by
 obtain ⟨vc,pc,rc⟩:=hc
 obtain ⟨va,pa,ra⟩:=ha
 obtain ⟨vb,pb,rb⟩:=hb
 refine ⟨_,yj9 pc pa pb,λ σ H D ρ μ D3 s m h k=>rc σ H _ ρ μ _ s m h λ c μ1 H1 h1 k1 m1=>?_⟩
 cases c with
 | true=>exact ra σ H1 D ρ μ1 D3 (s.mono k1) m1 h1 (k.after k1)
 | false=>exact rb σ H1 D ρ μ1 D3 (s.mono k1) m1 h1 (k.after k1)
theorem wi0 {i:Nat} {x:Str} (hN:X.N.Nodup) (hi:X.N[i]?=some x:=by rfl) (hx:Loc X.env.scope x:=by first | exact Or.inl rfl | exact Or.inr rfl) (hf:X.fn x=true \/ X.env.scope.names.lookup x=some .local:=by first | exact .inl rfl | exact .inr rfl) :
    RG X (.Name x pos) (gn3 i):=⟨_,zp6 hN hi hx hf,λ v d σ H Q ρ μ Q3 s m r h k=>k _ _ _ _ h (Kp.refl H) (s.set i r) m⟩
theorem xc4:RGs X [] wv2:=⟨_,yp6,λ vs ds σ H Q ρ μ Q3 s m r h k=>by
 cases r with
 | nil=>exact ⟨rfl,k _ _ _ _ h (Kp.refl H) s m⟩
 | cons _ _=>exact False.elim h⟩
theorem wd1 {g:TG3} {gs:TGs3} (h1:RG X e g) (h2:RGs X es gs) (hs:(assignEach (e :: es) X.env).map (·.2)=assign e X.env :: (assignEach es X.env).map (·.2):=by rfl):RGs X (e :: es) (yx0 g gs):=by
 obtain ⟨va,pa,ra⟩:=h1
 obtain ⟨vb,pb,rb⟩:=h2
 refine ⟨_,zf5 pa pb hs,λ vs ds σ H Q ρ μ Q3 s m r h k=>?_⟩
 cases r with
 | nil=>exact False.elim h
 | cons r1 r2=>exact ⟨_,_,rfl,ra _ _ σ H _ ρ μ _ s m r1 h λ ρ1 μ1 σ1 H1 h1 k1 s1 m1=>rb _ _ σ1 H1 Q ρ1 μ1 Q3 s1 m1 (r2.mono k1) h1 λ ρ' μ' σ' H' q e=>k ρ' μ' σ' H' q (k1.trans e)⟩
theorem wt5 {kk:Nat} {gs:TGs3} {n:Nat} (hc:X.calm=true) (h:RGs X es gs) (hn:(assignEach es X.env).length=n:=by rfl) (hst:(assignEach es X.env).findIdx? (·.1)=none:=by rfl):RG X (.Tuple es kk pos) (yv2 n gs):=by
 obtain ⟨va,pa,ra⟩:=h
 refine ⟨_,yh8 hc pa hn hst,λ v d σ H Q ρ μ Q3 s m r h k=>?_⟩
 cases r with
 | tup hq rs =>
  obtain ⟨hl,h⟩:=h
  exact ⟨_,_,rfl,hq,by rw [<- rs.length]; exact hl,ra _ _ σ H Q ρ μ Q3 s m rs h k⟩
 | _=>exact False.elim h
theorem xe0 {i:Nat} {x:Str} {pos':Pos} (hN:X.N.Nodup) (he:RE X e te) (hi:X.N[i]?=some x:=by rfl) (hx:Loc X.env.scope x:=by first | exact Or.inl rfl | exact Or.inr rfl) (hs:swapsWith e (some (.Name x pos')) pos.line X.env=pure false:=by rfl)
    (hf:X.fn x=true \/ X.env.scope.names.lookup x=some .local:=by first | exact .inl rfl | exact .inr rfl):RS X (.Assign [.Name x pos'] e pos) (set3 i te):=by
 obtain ⟨va,pa,ra⟩:=he
 exact ⟨_,yf4 hN hi hx pa hs hf,λ σ H D ρ μ D3 s m h k=>ra σ H _ ρ μ _ s m h λ d μ1 v H1 h1 k1 r1 m1=>k.nx _ _ _ _ h1 k1 ((s.mono k1).set i r1) m1⟩
theorem wc3 {tg:Expr} {g:TG3} (he:RE X e te) (hg:RG X tg g) (hs:swapsWithSole [tg] e pos.line X.env=pure false:=by rfl) (hw:swappedStores [tg] e X.env=pure none:=by rfl)
    (h1:(assignEach [tg] X.env).map (·.2)=[assign tg X.env]:=by rfl):RS X (.Assign [tg] e pos) (asg3 te g):=by
 obtain ⟨va,pa,ra⟩:=he
 obtain ⟨vg,pg,rg⟩:=hg
 exact ⟨_,yg8 pa pg hs hw h1,λ σ H D ρ μ D3 s m h k=>ra σ H _ ρ μ _ s m h λ d μ1 v H1 h1 k1 r1 m1=>rg v d σ H1 _ ρ μ1 _ (s.mono k1) m1 r1 h1 λ ρ' μ' σ' H' q e=>k.nx ρ' μ' σ' H' q (k1.trans e)⟩
theorem wq8 (n:Nat) (i:Int):L2.ixN n i=ixN n i:=rfl
theorem yc4 {o i:Expr} {to ti:TE3} (ho:RE X o to) (hi:RE X i ti)
    (ha:∀ v,assign (.Subscript o i pos) X.env v=(do
     let ov <- holding [v] (eval o X.env)
     let iv <- holding [v,ov] (eval i X.env)
     standAt pos
     holding [v,ov,iv] (setItem ov iv v)
     release [v,ov,iv] []):=by intro _; rfl):RG X (.Subscript o i pos) (sub3 to ti):=by
 obtain ⟨va,pa,ra⟩:=ho
 obtain ⟨vb,pb,rb⟩:=hi
 refine ⟨_,zh8 pa pb za2 ha,λ v d σ H Q ρ μ Q3 s m r h k=>ra σ H _ ρ μ _ s m h λ o' μ1 ov H1 h1 k1 r1 m1=>rb σ H1 _ ρ μ1 _ (s.mono k1) m1 h1 λ i' μ2 iv H2 h2 k2 r2 m2=>?_⟩
 cases r1 with
 | ref p =>
  cases r2 with
  | int kk =>
   dsimp only at h2
   cases e:μ2 p with
   | none=>rw [e] at h2; exact h2.elim
   | some oo =>
    cases oo with
    | ins _ _=>rw [e] at h2; exact h2.elim
    | dct _=>rw [e] at h2; exact h2.elim
    | lst xs =>
     rw [e] at h2
     dsimp only at h2
     cases e2:ixN xs.length kk with
     | none=>rw [e2] at h2; exact h2.elim
     | some j =>
      rw [e2] at h2
      obtain ⟨vs,hv,rv⟩:=m2 p xs e
      have kk':=k1.trans k2
      refine ⟨p,vs,kk,j,rfl,rfl,hv,by rw [<- rv.length]; exact e2,k _ _ _ _ h2 (kk'.trans (Kp.wr hv)) (s.mono (kk'.trans (Kp.wr hv))) (m2.wr hv (rv.set (r.mono kk') j))⟩
  | _=>exact False.elim h2
 | _=>cases r2 <;> exact False.elim h2
end
end Pv
namespace Pv
open PySem PySem.Spec PyProof.Rows L2
noncomputable def ItOk (K:Fg) (J:It) (l:List D) (S:Mu->Prop) (H0:Hp):Prop:=∀ i H μ,Kp H0 H->RelM K μ H->S μ ->
 (∀ d,l[i]?=some d->J.go i H /\ ∀ x H2,J.yld i H x H2->Kp H H2 /\ RelM K μ H2 /\ RelD K H2 d x) /\ (l.length<=i->J.stop i H)
noncomputable def RdI (K:Fg) (wi:TI) (ti:TI3):Prop:=∀ σ H R ρ μ R3,RSt K H ρ σ->RelM K μ H->ti ρ μ R3->(∀ l S μ' J H',R3 l S μ'->Kp H H'->RelM K μ' H'->ItOk K J l S H'->R J H')->wi σ H R
noncomputable def RI (X:Cx) (tg iter:Expr) (ti:TI3):Prop:=∃ wi,PI X tg iter wi /\ RdI X.K wi ti
section
variable {X:Cx} {tg iter a b c e:Expr} {ta tb te:TE3} {pos:Pos}
noncomputable def Its (z:Str):It:=⟨λ i _=>i < z.cps.size,λ i H x H'=>H'=H /\ ∃ c,z.cps[i]?=some c /\ x=.str ⟨#[c]⟩,λ i _=>z.cps.size<=i⟩
theorem yy2 {P:Program} {w:World} {K:Fg} {tg:Expr} (T:String) (x:Str) (t:Tok) (it:Addr)
    (hT:["enumerate", "zip", "dict_itemiterator", "dict_reverseitemiterator", "odict_iterator", "itertools.zip_longest", "itertools.pairwise"].contains T=false)
    (W:∀ A:Around,A.handled=none->Walks P w A it [it] [it] x.cps.size (SignAt x) (λ i h=>h.IsStrIter it T x t i))
    (sf:∀ (A:Around) (i:Nat) (s:Shared) (Q:Value->Shared->Prop) (E:Value->Shared->Prop),s.heap.IsStrIter it T x t i->Q (.ref it) s->wpAny (model P w) A (pyIter (.ref it)) Q E s) :
    Turn P w K tg (Its x) [it] it (λ i h=>h.IsStrIter it T x t i /\ i<=x.cps.size) where
 mem:=by simp
 obj:=λ i h st b hb=>by
  have e:b=it:=by simpa using hb
  subst e
  obtain ⟨⟨o,e,c,d⟩,_⟩:=st
  exact ⟨o,e,λ v z=>by rw [d] at z; cases z⟩
 keep:=λ i h h' st k=>by
  obtain ⟨⟨o,e,c,d⟩,l⟩:=st
  exact ⟨⟨o,k it (by simp) o e,c,d⟩,l⟩
 item:=by
  intro X hP hw hK hc i pins s σ H E I hf st hg
  subst hP hw hK
  obtain ⟨f0,f1,f2,f3,f4,f5⟩:=hf it (by simp)
  refine (W X.A (I.ok.hd hc)).item i s _ E hg st.1 λ v h' tk hP hst' hk=>?_
  obtain ⟨c,u,ec,rfl⟩:=hP
  have I1:Inv X pins σ H { s with heap:=h',toks:=tk }:=I.turned (t':=tk) (λ b o hb e=>hk b o (by simpa using hb) e) f0 f1 f3 f4 f5
  obtain ⟨o,e,c1,d⟩:=id hst'
  exact ⟨_,rfl,xp4 (s:={ s with heap:=h',toks:=tk }) e c1 d hT ⟨.str ⟨#[c]⟩,H,I1,⟨u,rfl⟩,⟨rfl,c,ec,rfl⟩,⟨hst',hg⟩,λ b hb=>(hf b hb).1⟩⟩
 done:=by
  intro X hP hw hK hc i pins s σ H E I hf st hg
  subst hP hw hK
  have hg':x.cps.size<=i:=hg
  obtain ⟨f0,f1,f2,f3,f4,f5⟩:=hf it (by simp)
  have e1:i=x.cps.size:=Nat.le_antisymm st.2 hg'
  subst e1
  exact (W X.A (I.ok.hd hc)).done s _ E st.1 λ h' tk hk=>⟨rfl,I.turned (t':=tk) (λ b o hb e=>hk b o (by simpa using hb) e) f0 f1 f3 f4 f5⟩
 self:=λ A i s Q E st h=>sf A i s Q E st.1 h
noncomputable def iSeq (K:Fg) (tl:TE):TI:=λ σ H R=>tl σ H λ x H1=>(∃ z,x=.str z /\ R (Its z) H1) \/ ∃ a,x=.ref a /\ (((∃ xs,SqL K H1 a xs) /\ R (Itl K a) H1) \/ ((∃ xs,SqT K H1 a xs) /\ R (Itt K a) H1))
theorem xh8 {l:Expr} {tl:TE} (hl:PE X l tl):PI X tg l (iSeq X.K tl):=by
 intro pins s σ H R I h
 refine thn (hl pins s σ H _ I h) λ v s1 ⟨x,H1,I1,r1,q1⟩=>?_
 have fp:∀ b ∈ [s1.heap.objs.size],FpOk X pins H1 b:=λ b hb=>by
  have e:b=s1.heap.objs.size:=by simpa using hb
  subst e
  exact I1.fpOk (Nat.le_refl _) (I1.hok.fresh (Nat.le_refl _))
 rcases q1 with ⟨z,e,q⟩ | ⟨a,e,q⟩
 ·subst e
  obtain ⟨t,rfl⟩:=r1
  cases ha:z.cps.all (· < 128)
  ·refine wpAny_pyIter_wide ha ?_
   exact ⟨s1.heap.objs.size,[s1.heap.objs.size],_,_,H1,rfl,I1.kept (t':=s1.toks) λ b o e=>Heap.get?_push_of_some _ e,yy2 "str_iterator" z t _ (by decide) (λ A hA=>Walks.strWide hA _ z t) (λ _ _ _ _ _ st h=>wpAny_pyIter_striter_wide st h),⟨⟨_,Heap.get?_push_size _ rfl,rfl,rfl⟩,Nat.zero_le _⟩,fp,q⟩
  ·refine wpAny_pyIter_ascii ha ?_
   exact ⟨s1.heap.objs.size,[s1.heap.objs.size],_,_,H1,rfl,I1.kept (t':=s1.toks) λ b o e=>Heap.get?_push_of_some _ e,yy2 "str_ascii_iterator" z t _ (by decide) (λ A hA=>Walks.strAscii hA _ z t) (λ _ _ _ _ _ st h=>wpAny_pyIter_striter_ascii st h),⟨⟨_,Heap.get?_push_size _ rfl,rfl,rfl⟩,Nat.zero_le _⟩,fp,q⟩
 subst e
 cases r1
 rcases q with ⟨⟨xs,hq⟩,q⟩ | ⟨⟨xs,hq⟩,q⟩
 ·obtain ⟨its,rv,p,hz⟩:=I1.list hq
  refine wpAny_pyIter_list p.isList ?_
  exact ⟨s1.heap.objs.size,[s1.heap.objs.size],_,_,H1,rfl,I1.kept (t':=s1.toks) λ b o e=>Heap.get?_push_of_some _ e,yu3 a _,⟨_,Heap.get?_push_size _ rfl,rfl,rfl⟩,fp,q⟩
 ·obtain ⟨its,rv,p,hz⟩:=I1.tuple hq
  refine wpAny_pyIter_tuple (show s1.heap.IsTuple a its.toArray from p) ?_
  exact ⟨s1.heap.objs.size,[s1.heap.objs.size],_,_,H1,rfl,I1.kept (t':=s1.toks) λ b o e=>Heap.get?_push_of_some _ e,wj3 a _,⟨_,Heap.get?_push_size _ rfl,rfl,rfl⟩,fp,q⟩
theorem yk5 {K:Fg} {H0:Hp} {a:Addr} {l:List D} {vs:List V} (h:SqT K H0 a vs) (r:RelDs K H0 l vs):ItOk K (Itt K a) l (λ _=>True) H0:=λ i H μ k m _=>by
 refine ⟨λ d e=>?_,λ hl=>⟨vs,SqT.mono k h,by rw [<- r.length]; exact hl⟩⟩
 obtain ⟨v,e1,r1⟩:=r.get e
 refine ⟨⟨vs,v,SqT.mono k h,e1⟩,λ x H2 y=>?_⟩
 obtain ⟨rfl,y⟩:=y
 have e2:=y vs (SqT.mono k h)
 rw [e1] at e2; cases e2
 exact ⟨Kp.refl _,m,r1.mono k⟩
theorem xl5 {K:Fg} {H0:Hp} {a:Addr} {l:List D} {vs:List V} (h:SqF K H0 a vs) (r:RelDs K H0 l vs):ItOk K (Itl K a) l (λ _=>True) H0:=λ i H μ k m _=>by
 refine ⟨λ d e=>?_,λ hl=>⟨vs,(SqF.mono k h).l,by rw [<- r.length]; exact hl⟩⟩
 obtain ⟨v,e1,r1⟩:=r.get e
 refine ⟨⟨vs,v,(SqF.mono k h).l,e1⟩,λ x H2 y=>?_⟩
 obtain ⟨rfl,y⟩:=y
 have e2:=y vs (SqF.mono k h).l
 rw [e1] at e2; cases e2
 exact ⟨Kp.refl _,m,r1.mono k⟩
theorem wk5 {K:Fg} {H0:Hp} {a:Addr} {l:List D}:ItOk K (Itl K a) l (λ μ=>μ a=some (.lst l)) H0:=λ i H μ k m s=>by
 obtain ⟨vs,h,r⟩:=m a l s
 refine ⟨λ d e=>?_,λ hl=>⟨vs,SqL.of h,by rw [<- r.length]; exact hl⟩⟩
 obtain ⟨v,e1,r1⟩:=r.get e
 refine ⟨⟨vs,v,SqL.of h,e1⟩,λ x H2 y=>?_⟩
 obtain ⟨rfl,y⟩:=y
 have e2:=y vs (SqL.of h)
 rw [e1] at e2; cases e2
 exact ⟨Kp.refl _,m,r1⟩
theorem zk5 {K:Fg} {H0:Hp} (z:Str):ItOk K (Its z) (z.cps.toList.map λ c=>D.str ⟨#[c]⟩) (λ _=>True) H0:=λ i H μ k m _=>by
 refine ⟨λ d e=>?_,λ hl=>by show z.cps.size<=i; simpa using hl⟩
 rw [List.getElem?_map,Array.getElem?_toList] at e
 cases ec:z.cps[i]? with
 | none=>rw [ec] at e; cases e
 | some c =>
  rw [ec] at e
  cases e
  refine ⟨?_,λ x H2 y=>?_⟩
  ·show i < z.cps.size
   rcases Nat.lt_or_ge i z.cps.size with h | h
   ·exact h
   ·rw [Array.getElem?_eq_none h] at ec; cases ec
  ·obtain ⟨rfl,c',ec',rfl⟩:=y
   rw [ec] at ec'; cases ec'
   exact ⟨Kp.refl _,m,.str _⟩
theorem yw0 (ha:RE X a ta):RI X tg a (is3 ta):=by
 obtain ⟨va,pa,ra⟩:=ha
 refine ⟨_,xh8 pa,λ σ H R ρ μ R3 s m h k=>ra σ H _ ρ μ _ s m h λ d μ1 v H1 h1 k1 r1 m1=>?_⟩
 cases r1 with
 | str z=>exact .inl ⟨z,rfl,k _ _ _ _ _ h1 k1 m1 (zk5 z)⟩
 | tup hq rs=>exact .inr ⟨_,rfl,.inr ⟨⟨_,hq⟩,k _ _ _ _ _ h1 k1 m1 (yk5 hq rs)⟩⟩
 | fls hq rs=>exact .inr ⟨_,rfl,.inl ⟨⟨_,hq.l⟩,k _ _ _ _ _ h1 k1 m1 (xl5 hq rs)⟩⟩
 | ref p =>
  dsimp only at h1
  cases e:μ1 p with
  | none=>rw [e] at h1; exact h1.elim
  | some oo =>
   cases oo with
   | ins _ _=>rw [e] at h1; exact h1.elim
   | dct _=>rw [e] at h1; exact h1.elim
   | lst xs =>
    rw [e] at h1
    obtain ⟨vs,hv,rv⟩:=m1 p xs e
    exact .inr ⟨_,rfl,.inl ⟨⟨_,SqL.of hv⟩,k _ _ _ _ _ h1 k1 m1 wk5⟩⟩
 | _=>exact False.elim h1
theorem wc5 (lo:Int) (n i:Nat):(rngD lo n)[i]?=if i < n then some (.int (lo + i)) else none:=by
 unfold rngD
 rw [List.getElem?_map]
 by_cases h:i < n
 ·rw [List.getElem?_range h,if_pos h]; rfl
 ·rw [List.getElem?_eq_none (by simpa using h),if_neg h]; rfl
theorem zc5 (lo:Int) (n:Nat):(rngD lo n).length=n:=by simp [rngD]
theorem xg3 {K:Fg} {H0:Hp} (lo:Int) (n:Nat):ItOk K (Itr lo n) (rngD lo n) (λ _=>True) H0:=λ i H μ k m _=>by
 refine ⟨λ d e=>?_,λ hl=>by rw [zc5] at hl; exact hl⟩
 rw [wc5] at e
 split at e
 ·next h =>
  cases e
  refine ⟨h,λ x H2 y=>?_⟩
  obtain ⟨rfl,rfl⟩:=y
  exact ⟨Kp.refl _,m,.int _⟩
 ·cases e
theorem zd1 {p:Pos} (hm:X.mg "range" = none) (ha:RE X a ta) (hg:Gl X "range" := by rfl) (hs:starEach [a] X.env=[(false,eval a X.env)]:=by rfl):RI X tg (.Call (.Name "range" p) [a] [] pos) (ir3 (wa0 ta nil3)):=by
 obtain ⟨va,pa,ra⟩:=xa0 ha zb0 hs
 refine ⟨_,yh4 hg hm pa hs,λ σ H R ρ μ R3 s m h k=>ra σ H _ ρ μ _ s m h λ ds μ1 vs H1 h1 k1 r1 m1=>?_⟩
 cases r1 with
 | nil=>exact False.elim h1
 | cons r1 r2 =>
  cases r2 with
  | cons _ _=>cases r1 <;> exact False.elim h1
  | nil =>
   cases r1 with
   | int j=>exact ⟨j,rfl,h1.1.1,h1.1.2,k _ _ _ _ _ h1.2 k1 m1 (xg3 _ _)⟩
   | _=>exact False.elim h1
theorem yu0 {body:List Stmt} {ti:TI3} {g:TG3} {tb:TS3} (hp:PassesOwn (model X.prog X.w) X.A X.env X.xe) (hc:X.calm=true) (hi:RI X tg iter ti) (hg:RG X tg g) (hb:RSs X body tb)
    (hs:∀ x,foldedSetIterable iter X.env x=pure x:=by intro _; rfl):RS X (.For tg iter body [] pos) (for3 ti g tb):=by
 obtain ⟨wi,pi,ri⟩:=hi
 obtain ⟨vg,pg,rg⟩:=hg
 obtain ⟨vb,pb,rb⟩:=hb
 refine ⟨_,wf8 hp hc pi pg pb hs,λ σ H D ρ μ D3 s m h k=>ri σ H _ ρ μ _ s m h λ l S μ1 J H1 h1 k1 m1 ok=>?_⟩
 refine ⟨λ i n σ2 H2=>n=l.length - i /\ i<=l.length /\ ∃ ρ2 μ2,RSt X.K H2 ρ2 σ2 /\ RelM X.K μ2 H2 /\ Kp H1 H2 /\ wm5 S g tb D3 (l.drop i) ρ2 μ2,⟨l.length,rfl,Nat.zero_le _,ρ,μ1,s.mono k1,m1,Kp.refl _,h1⟩,?_⟩
 rintro i n σ2 H2 ⟨rfl,hi,ρ2,μ2,s2,m2,k2,h2⟩
 by_cases hlt:i < l.length
 ·rw [List.drop_eq_getElem_cons hlt] at h2
  obtain ⟨hS,N,hN,h2⟩:=h2
  obtain ⟨ok1,_⟩:=ok i H2 μ2 k2 m2 hS
  obtain ⟨go,yl⟩:=ok1 l[i] (List.getElem?_eq_getElem hlt)
  refine .inr ⟨go,λ σ3 H3=>∃ ρ3 μ3,N ρ3 μ3 /\ RSt X.K H3 ρ3 σ3 /\ RelM X.K μ3 H3 /\ Kp H1 H3,λ σ3 H3 ⟨ρ3,μ3,hn,s3,m3,k3⟩=>⟨l.length - (i + 1),by omega,rfl,hlt,ρ3,μ3,s3,m3,k3,hN _ _ hn⟩,λ x H3 y=>?_⟩
  obtain ⟨k3,m3,r3⟩:=yl x H3 y
  refine rg x l[i] σ2 H3 _ ρ2 μ2 _ (s2.mono k3) m3 r3 h2 λ ρ4 μ4 σ4 H4 h4 k4 s4 m4=>?_
  have k14:Kp H1 H4:=k2.trans (k3.trans k4)
  exact rb σ4 H4 _ ρ4 μ4 _ s4 m4 h4 ⟨λ ρ5 μ5 σ5 H5 h5 k5 s5 m5=>⟨ρ5,μ5,h5,s5,m5,k14.trans k5⟩,λ ρ5 μ5 σ5 H5 h5 k5 s5 m5=>k.nx _ _ _ _ h5 (k1.trans (k14.trans k5)) s5 m5,
   λ ρ5 μ5 σ5 H5 h5 k5 s5 m5=>⟨ρ5,μ5,h5,s5,m5,k14.trans k5⟩,λ d μ5 v H5 h5 k5 r5 m5=>k.rt _ _ _ _ h5 (k1.trans (k14.trans k5)) r5 m5⟩
 ·have e:i=l.length:=by omega
  subst e
  rw [List.drop_length] at h2
  obtain ⟨hS,h2⟩:=h2
  exact .inl ⟨(ok _ H2 μ2 k2 m2 hS).2 (Nat.le_refl _),k.nx _ _ _ _ h2 (k1.trans k2) s2 m2⟩
noncomputable def lift (K:Fg) (sp:Sp3):Sp:=λ vs H Q _=>∃ ds μ Q3,RelDs K H ds vs /\ RelM K μ H /\ sp ds μ Q3 /\ Ks K H Q3 Q
noncomputable def Cal (P:Program) (w:World) (K:Fg) (mg:Str->Option Value) (base:Heap) (k:Nat) (x:Str) (ps:List Str) (sp:Sp3):Prop :=
 ∃ f fd,FnOk P w K mg base CX0 k f fd ps (lift K sp) /\ mg x=some (.ref f) /\ PySem.W.keepIn K (.ref f)=true /\ Binds K fd ps []
theorem Cal.mono {P:Program} {w:World} {K:Fg} {mg:Str->Option Value} {base:Heap} {j k:Nat} {x:Str} {ps:List Str} {sp:Sp3} (c:Cal P w K mg base j x ps sp) (h:j<=k):Cal P w K mg base k x ps sp:=by
 obtain ⟨f,fd,F,r⟩:=c
 exact ⟨f,fd,F.mono h,r⟩
variable {es:List Expr} {t:TA3} {x:Str} {p:Pos}
theorem yc0 {k:Nat} {ps:List Str} {sp:Sp3} (c:Cal X.prog X.w X.K X.mg X.base k x ps sp) (hr:Room k X.A) (ha:RA X (e :: es) t) (hg:Gl X x:=by rfl) (hdb:(x == ("__debug__" : Str))=false:=by decide)
    (he:starEach (e :: es) X.env=(false,eval e X.env) :: starEach es X.env:=by rfl) (hpl:(backTo pos (starEach es X.env)).any (·.1)=false:=by rfl):RE X (.Call (.Name x p) (e :: es) [] pos) (zc0 sp t):=by
 obtain ⟨f,fd,F,hm,hk,hb⟩:=c
 obtain ⟨va,pa,ra⟩:=ha
 refine ⟨_,wr6 F hr hg hm hk hb .nil xh5 pa hdb he hpl,λ σ H Q ρ μ Q3 s m h k=>ra σ H _ ρ μ _ s m h λ ds μ1 vs H1 h1 k1 r1 m1=>?_⟩
 rw [List.append_nil]
 exact ⟨ds,μ1,Q3,r1,m1,h1,k.after k1⟩
theorem xf0 {r:C3} {id:String} (hc:RC X (.builtin id) r) (hm:X.mg x=none) (hv:bootBuiltins x=some (.builtin id)) (ha:RA X (e :: es) t) (hg:Gl X x:=by rfl) (hn:x ≠ "__name__" := by decide) (hdb:(x == ("__debug__" : Str))=false:=by decide)
    (he:starEach (e :: es) X.env=(false,eval e X.env) :: starEach es X.env:=by rfl) (hpl:(backTo pos (starEach es X.env)).any (·.1)=false:=by rfl):RE X (.Call (.Name x p) (e :: es) [] pos) (zc0 r t):=by
 obtain ⟨r',pc,rc⟩:=hc
 obtain ⟨va,pa,ra⟩:=ha
 exact ⟨_,wg5 pc hg hm hv pa hn hdb he hpl,λ σ H Q ρ μ Q3 s m h k=>ra σ H _ ρ μ _ s m h λ ds μ1 vs H1 h1 k1 r1 m1=>rc ds vs H1 Q μ1 Q3 m1 r1 h1 (k.after k1)⟩
theorem wk2 {r:C3} {T:String} (hc:RC X (.type T) r) (hm:X.mg x=none) (hv:bootBuiltins x=some (.type T)) (ha:RA X (e :: es) t) (hg:Gl X x:=by rfl) (hn:x ≠ "__name__" := by decide) (hdb:(x == ("__debug__" : Str))=false:=by decide)
    (he:starEach (e :: es) X.env=(false,eval e X.env) :: starEach es X.env:=by rfl) (hpl:(backTo pos (starEach es X.env)).any (·.1)=false:=by rfl):RE X (.Call (.Name x p) (e :: es) [] pos) (zc0 r t):=by
 obtain ⟨r',pc,rc⟩:=hc
 obtain ⟨va,pa,ra⟩:=ha
 exact ⟨_,wh4 pc hg hm hv pa hn hdb he hpl,λ σ H Q ρ μ Q3 s m h k=>ra σ H _ ρ μ _ s m h λ ds μ1 vs H1 h1 k1 r1 m1=>rc ds vs H1 Q μ1 Q3 m1 r1 h1 (k.after k1)⟩
theorem wc0 {r3:R3} (hx:RX X r3) (ha:RE X a ta) (hb:RE X b tb) (hs:yw4 b:=by intro _ _; rfl):RE X (.Subscript a b pos) (o3 r3 ta tb):=by
 obtain ⟨r,po,ro⟩:=hx
 obtain ⟨va,pa,ra⟩:=ha
 obtain ⟨vb,pb,rb⟩:=hb
 exact ⟨_,wk9 po pa pb hs,ra.op rb ro⟩
end
section
variable {P:Program} {w:World} {K:Fg} {mg:Str->Option Value} {base:Heap}
theorem zp4 {x:Str} {st:Stmt} {f:Addr} {fd:FuncData} {N ps:List Str} {k:Nat} {sp:Sp3} {t:TS3} (F:Fun K x x st f fd) (S:FnScope N ps (xb0 st))
    (len:∀ ds μ Q,sp ds μ Q->ds.length=ps.length)
    (body:∀ (cdv:Value) (A:Around) (outer:List Env) (s:Shared) (H:Hp) (E:XK),Room k (A.deeper (envOfC x (xb0 st) s.heap.objs.size f cdv))->RSs (cxOf CX0 P w K mg base N x (xb0 st) f cdv A outer s H E).nox (xd0 st) t)
    (rd:∀ ds μ Q,sp ds μ Q->t { nx:=λ _ μ'=>Q .non μ',rt:=Q } (yd0 N ds) μ):FnOk P w K mg base CX0 (k + 1) f fd ps (lift K sp):=by
 refine F.ok S (λ vs H Q E h=>?_) (λ cdv A outer s H vs Q E hr h=>?_)
 ·obtain ⟨ds,μ,Q3,r,m,q,ks⟩:=h
  rw [<- r.length]; exact len _ _ _ q
 ·obtain ⟨ds,μ,Q3,r,m,q,ks⟩:=h
  obtain ⟨tv,p,rt⟩:=body cdv A outer s H E hr
  exact ⟨tv,p,rt _ H _ _ μ _ (RSt.start N r) m (rd ds μ Q3 q) ⟨λ ρ μ' σ H' h' k' s' m'=>ks _ _ _ _ h' k' .non m',λ ρ μ' σ H' h'=>False.elim h',λ ρ μ' σ H' h'=>False.elim h',ks⟩⟩
theorem yh0 {x:Str} {st:Stmt} {f:Addr} {fd:FuncData} {N ps:List Str} {k:Nat} {sp:Sp3} {t:TS3} (F:Fun K x x st f fd) (hm:mg x=some (.ref f)) (hb:Binds K fd ps []) (S:FnScope N ps (xb0 st))
    (len:∀ ds μ Q,sp ds μ Q->ds.length=ps.length)
    (body:∀ (cdv:Value) (A:Around) (outer:List Env) (s:Shared) (H:Hp) (E:XK),Room k (A.deeper (envOfC x (xb0 st) s.heap.objs.size f cdv))->RSs (cxOf CX0 P w K mg base N x (xb0 st) f cdv A outer s H E).nox (xd0 st) t)
    (rd:∀ ds μ Q,sp ds μ Q->t { nx:=λ _ μ'=>Q .non μ',rt:=Q } (yd0 N ds) μ):Cal P w K mg base (k + 1) x ps sp :=
 ⟨f,fd,zp4 F S len body rd,hm,F.kp,hb⟩
theorem zs0 {x:Str} {st:Stmt} {f:Addr} {fd:FuncData} {ps:List Str} {sp:Sp3} (F:Fun K x x st f fd) (hm:mg x=some (.ref f)) (hb:Binds K fd ps []) (no:∀ ds μ Q,¬ sp ds μ Q):Cal P w K mg base 0 x ps sp:=by
 have no':∀ vs H Q E,¬ lift K sp vs H Q E:=λ vs H Q E ⟨ds,μ,Q3,_,_,q,_⟩=>no _ _ _ q
 exact ⟨f,fd,⟨λ vs H Q E h=>absurd h (no' vs H Q E),λ A outer s H args us vs Q E _ _ _ _ h=>absurd h (no' vs H Q E)⟩,hm,F.kp,hb⟩
end
end Pv
namespace Pv
open PySem PySem.Spec PyProof.Rows L2
section
variable {X:Cx}
theorem RdO.i0 {K:Fg} {g3:Int->Int->D} {g:Int->Int->V} (hg:∀ i j H,RelD K H (g3 i j) (g i j)):RdO K (rI0 g) (xv0 g3):=λ x y v u H Q μ Q3 m rx ry h k=>by
 cases rx with
 | int i =>
  cases ry with
  | int j=>exact ⟨i,j,rfl,rfl,k _ _ _ _ h (Kp.refl _) (hg i j H) m⟩
  | _=>exact False.elim h
 | _=>cases ry <;> exact False.elim h
theorem RdO.i2 {K:Fg} {C:Int->Int->Prop} {g3:Int->Int->D} {g:Int->Int->V} (hg:∀ i j H,RelD K H (g3 i j) (g i j)):RdO K (rI C g) (int2 C g3):=λ x y v u H Q μ Q3 m rx ry h k=>by
 cases rx with
 | int i =>
  cases ry with
  | int j=>exact ⟨i,j,rfl,rfl,h.1,k _ _ _ _ h.2 (Kp.refl _) (hg i j H) m⟩
  | _=>exact False.elim h
 | _=>cases ry <;> exact False.elim h
theorem xa1:RO X (binaryOp .Sub) subR:=⟨_,zk8,RdO.i0 λ _ _ _=>.int _⟩
theorem ym1:RO X (binaryOp .Mod) modR:=⟨_,zl8,RdO.i2 λ _ _ _=>.int _⟩
theorem xe8:RO X (binaryOp .Pow) powR:=⟨_,xl8,RdO.i2 λ _ _ _=>.int _⟩
theorem log2_lt {n k:Nat} (hk:0 < k) (h:n < 2 ^ k):n.log2 < k:=by
 rcases Nat.eq_zero_or_pos n with h0 | hp
 ·rw [h0]; simpa using hk
 ·exact (Nat.log2_lt (Nat.ne_of_gt hp)).mpr h
theorem zh5:OpR X (binaryOp .FloorDiv) (rI (λ _ j=>0 < j /\ j < 2 ^ 120) λ i j=>.int (i / j)):=opI λ i j _ _ _ _ _ hc q=>by
 have h1:(0:Int) < j:=hc.1
 have h2:j < 2 ^ 120:=hc.2
 refine floordiv_int (by omega) (by rw [Int.fdiv_eq_ediv_of_nonneg i (by omega)]; exact q) (.inl (PyProof.noPylong_of_log2 ?_))
 have h3:j.natAbs < 2 ^ 120:=by omega
 exact Nat.lt_trans (log2_lt (by decide) h3) (by decide)
theorem zm1:RO X (binaryOp .FloorDiv) wp1:=⟨_,zh5,RdO.i2 λ _ _ _=>.int _⟩
theorem CMul.mulok {i j:Int} (h:CMul i j):IntMulOk i j:=by
 rcases h with h | ⟨h1,h2⟩
 ·exact L2.CMul.ok h
 ·unfold IntMulOk
  intro e
  rw [Bool.and_eq_true] at e
  have e2:=e.2
  unfold Builtin.Int.intTooBig at e2
  have hb:∀ x:Int,x.natAbs < Big->Builtin.Int.intBits x<=1000:=λ x hx=>by
   unfold Builtin.Int.intBits
   split
   ·exact Nat.zero_le _
   ·exact log2_lt (by decide) hx
  have b1:=hb i h1
  have b2:=hb j h2
  have e3:=of_decide_eq_true e2
  have e4:(2000:Nat) < bitsLine:=by decide
  omega
theorem op_mulB:OpR X (binaryOp .Mult) (rI CMul λ i j=>.int (i * j)):=opI λ _ _ _ _ _ _ _ hc q=>mul_int q hc.mulok
theorem yl2:RU X (unaryOp .USub) negR:=⟨_,xg7,λ x v H Q μ Q3 m r h k=>by
 cases r with
 | int i=>exact ⟨i,rfl,k _ _ _ _ h (Kp.refl _) (.int _) m⟩
 | _=>exact False.elim h⟩
theorem q_lt:RO X (compareOp .Lt) ltR:=⟨_,zl9,RdO.i0 λ _ _ _=>.bl _⟩
theorem q_le:RO X (compareOp .LtE) leR:=⟨_,wl9,RdO.i0 λ _ _ _=>.bl _⟩
theorem q_gt:RO X (compareOp .Gt) gtR:=⟨_,xm9,RdO.i0 λ _ _ _=>.bl _⟩
theorem q_ge:RO X (compareOp .GtE) geR:=⟨_,ym9,RdO.i0 λ _ _ _=>.bl _⟩
noncomputable def yi9 (K:Fg):R2:=λ x y H Q=>∃ a b xs ys,x=.ref a /\ y=.ref b /\ SqT K H a xs /\ SqT K H b ys /\ xs.length + ys.length<=sizeLine ∧
 (xs=[]->Q (.ref b) H) /\ (ys=[]->Q (.ref a) H) /\ (∀ p,H p=none->Q (.ref p) (upd H p (.tup (xs ++ ys))))
theorem yt6:OpR X (binaryOp .Add) (yi9 X.K):=by
 intro pins s σ H x y v u Q I rx ry h
 obtain ⟨a,b,xs,ys,rfl,rfl,ha,hb,hz,q1,q2,q3⟩:=h
 by_cases hx:xs=[]
 ·cases rx
  cases ry
  obtain ⟨its,r,ht,_⟩:=I.tuple ha
  obtain ⟨its2,r2,ht2,_⟩:=I.tuple hb
  have hi:its=[]:=by subst hx; cases r; rfl
  obtain ⟨⟨cls,dd,data,sl⟩,ho,hc,n,hd⟩:=id ht
  obtain ⟨⟨cls2,dd2,data2,sl2⟩,ho2,hc2,n2,hd2⟩:=id ht2
  simp only at hc hd hc2 hd2
  subst hc hd hc2 hd2
  exact concat_meets ⟨_,ho,rfl⟩ ⟨_,ho2,rfl⟩ noFill_tuple_add seq_tuple_add PySem.F.slot_tuple_add PySem.F.entry_tuple_add (PySem.F.args_tuple_add_2 _ _)
   (tuple_addW0 a b its.toArray its2.toArray n n2 dd dd2 sl sl2 (by simp [hi])) ⟨ho,ho2,⟨.ref b,H,I,rfl,q1 hx⟩⟩
 ·exact xt6 pins s σ H _ _ v u Q I rx ry ⟨a,b,xs,ys,rfl,rfl,ha,hb,hx,hz,q2,λ _=>q3⟩
theorem xn0:RO X (binaryOp .Add) addR:=by
 refine ⟨_,(op_add.or zr3).or (op_cat.or yt6),λ x y v u H Q μ Q3 m rx ry h k=>?_⟩
 cases rx with
 | int i =>
  cases ry with
  | int j=>exact .inl (.inl ⟨i,j,rfl,rfl,k _ _ _ _ h (Kp.refl _) (.int _) m⟩)
  | _=>exact False.elim h
 | str i =>
  cases ry with
  | str j=>exact .inl (.inr ⟨i,j,rfl,rfl,h.1,k _ _ _ _ h.2 (Kp.refl _) (.str _) m⟩)
  | _=>exact False.elim h
 | ref p =>
  cases ry with
  | ref q =>
   dsimp only [addR] at h
   cases e:μ p with
   | none=>rw [e] at h; exact h.elim
   | some oo =>
    cases oo with
    | ins _ _=>rw [e] at h; exact h.elim
    | dct _=>rw [e] at h; exact h.elim
    | lst xs =>
     cases e2:μ q with
     | none=>rw [e,e2] at h; exact h.elim
     | some o2 =>
      cases o2 with
      | ins _ _=>rw [e,e2] at h; exact h.elim
      | dct _=>rw [e,e2] at h; exact h.elim
      | lst ys =>
       rw [e,e2] at h
       obtain ⟨vs,hv,rv⟩:=m p xs e
       obtain ⟨us,hu,ru⟩:=m q ys e2
       refine .inr (.inl ⟨p,q,vs,us,rfl,rfl,hv,hu,by rw [<- rv.length,<- ru.length]; exact h.1,λ t ht=>?_⟩)
       exact k _ _ _ _ (h.2 t (m.free ht)) (Kp.new ht) (.ref t) (m.newL ht (rv.append ru))
  | _=>exact False.elim h
 | tup hq rs =>
  cases ry with
  | tup hq2 rs2 =>
   rename_i a l vs b l2 us
   refine .inr (.inr ⟨a,b,vs,us,rfl,rfl,hq,hq2,by rw [<- rs.length,<- rs2.length]; exact h.1,λ e=>?_,λ e=>?_,λ t ht=>?_⟩)
   ·subst e; cases rs
    exact k _ _ _ _ h.2 (Kp.refl _) (.tup hq2 rs2) m
   ·subst e; cases rs2
    have h2:=h.2
    rw [List.append_nil] at h2
    exact k _ _ _ _ h2 (Kp.refl _) (.tup hq rs) m
   ·exact k _ _ _ _ h.2 (Kp.new ht) (.tup (SqT.of wj0) ((rs.append rs2).mono (Kp.new ht))) (m.newT ht)
  | _=>exact False.elim h
 | _=>cases ry <;> exact False.elim h
theorem RelDs.atI {K:Fg} {H:Hp} {l:List D} {vs:List V} {i:Int} {d:D} (r:RelDs K H l vs) (e:Pv.atI l i=some d):∃ v,L2.atI vs i=some v /\ RelD K H d v:=by
 unfold Pv.atI at e
 unfold L2.atI
 rw [wq8,<- r.length]
 cases q:ixN l.length i with
 | none=>rw [q] at e; cases e
 | some j =>
  rw [q] at e
  exact r.get e
theorem q_ix:RX X ixR:=by
 refine ⟨_,ix_list.or zq8,λ x y v u H Q μ Q3 m rx ry h k=>?_⟩
 cases ry with
 | int i =>
  cases rx with
  | tup hq rs =>
   rename_i a l vs
   dsimp only [ixR] at h
   cases e:Pv.atI l i with
   | none=>rw [e] at h; exact h.elim
   | some d =>
    rw [e] at h
    obtain ⟨w,e1,r1⟩:=rs.atI e
    exact .inr ⟨a,vs,i,w,rfl,rfl,hq,e1,k _ _ _ _ h (Kp.refl _) r1 m⟩
  | fls hq rs =>
   rename_i a l vs
   dsimp only [ixR] at h
   cases e:Pv.atI l i with
   | none=>rw [e] at h; exact h.elim
   | some d =>
    rw [e] at h
    obtain ⟨w,e1,r1⟩:=rs.atI e
    exact .inl ⟨a,vs,i,w,rfl,rfl,hq.l,e1,k _ _ _ _ h (Kp.refl _) r1 m⟩
  | ref p =>
   dsimp only [ixR] at h
   cases e0:μ p with
   | none=>rw [e0] at h; exact h.elim
   | some oo =>
    cases oo with
    | ins _ _=>rw [e0] at h; exact h.elim
    | dct _=>rw [e0] at h; exact h.elim
    | lst l =>
     rw [e0] at h
     dsimp only at h
     obtain ⟨vs,hv,rs⟩:=m p l e0
     cases e:Pv.atI l i with
     | none=>rw [e] at h; exact h.elim
     | some d =>
      rw [e] at h
      obtain ⟨w,e1,r1⟩:=rs.atI e
      exact .inl ⟨p,vs,i,w,rfl,rfl,SqL.of hv,e1,k _ _ _ _ h (Kp.refl _) r1 m⟩
  | _=>exact False.elim h
 | _=>cases rx <;> exact False.elim h
theorem ya3 {K:Fg} {H:Hp}:∀ {l:List D} {vs:List V} {zs:List Str},RelDs K H l vs->strs? l=some zs->vs=zs.map V.str
 | _,_,zs,.nil,e=>by simp [strs?] at e; subst e; rfl
 | _,_,zs,.cons h r,e=>by
  cases h with
  | str x =>
   simp only [strs?] at e
   split at e
   ·next ys e1 =>
    simp only [Option.some.injEq] at e
    subst e
    rw [ya3 r e1]; rfl
   ·cases e
  | _=>simp [strs?] at e
theorem zl5 (z:Str) (zs:List Str):inV (.str z) (zs.map V.str)=zs.contains z:=by
 unfold inV
 rw [List.any_map]
 induction zs with
 | nil=>rfl
 | cons y r ih =>
  rw [List.any_cons,ih,List.contains_cons]
  congr 1
  show (y == z)=(z == y)
  rw [Bool.eq_iff_iff,beq_iff_eq,beq_iff_eq]
  exact eq_comm
theorem xq4 (zs:List Str):(zs.map V.str).all wd2=true:=by
 rw [List.all_map,List.all_eq_true]; intro _ _; rfl
theorem xe4:RC X (.builtin "len") lenR:=by
 refine ⟨_,call_len_seq.or zp2,λ xs vs H Q μ Q3 m r h k=>?_⟩
 cases r with
 | nil=>exact False.elim h
 | cons r1 r2 =>
  cases r2 with
  | cons _ _=>cases r1 <;> exact False.elim h
  | nil =>
   cases r1 with
   | tup hq rs =>
    rename_i a l vs
    refine .inl ⟨a,vs,rfl,.inr hq,?_⟩
    rw [<- rs.length]
    exact k _ _ _ _ h (Kp.refl _) (.int _) m
   | fls hq rs =>
    rename_i a l vs
    refine .inl ⟨a,vs,rfl,.inl hq.l,?_⟩
    rw [<- rs.length]
    exact k _ _ _ _ h (Kp.refl _) (.int _) m
   | str z=>exact .inr ⟨z,rfl,h.1,k _ _ _ _ h.2 (Kp.refl _) (.int _) m⟩
   | ref p =>
    dsimp only [lenR] at h
    cases e:μ p with
    | none=>rw [e] at h; exact h.elim
    | some oo =>
     cases oo with
     | ins _ _=>rw [e] at h; exact h.elim
     | dct _=>rw [e] at h; exact h.elim
     | lst l =>
      rw [e] at h
      obtain ⟨vs,hv,rs⟩:=m p l e
      refine .inl ⟨p,vs,rfl,.inl (SqL.of hv),?_⟩
      rw [<- rs.length]
      exact k _ _ _ _ h (Kp.refl _) (.int _) m
   | _=>exact False.elim h
theorem wi9:RC X (.builtin "abs") absR:=by
 refine ⟨_,zn5,λ xs vs H Q μ Q3 m r h k=>?_⟩
 cases r with
 | nil=>exact False.elim h
 | cons r1 r2 =>
  cases r2 with
  | cons _ _=>cases r1 <;> exact False.elim h
  | nil =>
   cases r1 with
   | int i=>exact ⟨i,rfl,k _ _ _ _ h (Kp.refl _) (.int _) m⟩
   | _=>exact False.elim h
theorem wl6:RC X (.type "tuple") tupR:=by
 refine ⟨_,zf2,λ xs vs H Q μ Q3 m r h k=>?_⟩
 cases r with
 | nil=>exact False.elim h
 | cons r1 r2 =>
  cases r2 with
  | cons _ _=>cases r1 <;> exact False.elim h
  | nil =>
   cases r1 with
   | tup hq rs=>exact ⟨_,_,rfl,.inr ⟨hq,k _ _ _ _ h (Kp.refl _) (.tup hq rs) m⟩⟩
   | ref p =>
    dsimp only [tupR] at h
    cases e:μ p with
    | none=>rw [e] at h; exact h.elim
    | some oo =>
     cases oo with
     | ins _ _=>rw [e] at h; exact h.elim
     | dct _=>rw [e] at h; exact h.elim
     | lst l =>
      rw [e] at h
      obtain ⟨vs,hv,rs⟩:=m p l e
      exact ⟨p,vs,rfl,.inl ⟨SqL.of hv,λ t ht=>k _ _ _ _ h (Kp.new ht) (.tup (SqT.of wj0) (rs.mono (Kp.new ht))) (m.newT ht)⟩⟩
   | _=>exact False.elim h
theorem yg3 {K:Fg} {H:Hp}:∀ {l:List D} {vs:List V} {zs:List Int},RelDs K H l vs->ints? l=some zs->vs=zs.map V.int
 | _,_,zs,.nil,e=>by simp [ints?] at e; subst e; rfl
 | _,_,zs,.cons h r,e=>by
  cases h with
  | int x =>
   simp only [ints?] at e
   split at e
   ·next ys e1 =>
    simp only [Option.some.injEq] at e
    subst e
    rw [yg3 r e1]; rfl
   ·cases e
  | _=>simp [ints?] at e
theorem xn5:X.calm=true->CallR X (.builtin "sum") (λ xs H Q=>∃ (p:Addr) (ns:List Int),xs=[.ref p] /\ SqL X.K H p (ns.map V.int) /\ Q (.int ns.sum) H):=by
 intro hc pins s σ H xs us Q I r h
 obtain ⟨p,ns,rfl,hq,q⟩:=h
 obtain ⟨u,rfl,rx⟩:=yh2 r
 cases rx
 obtain ⟨its,r',pl,hz⟩:=I.list hq
 have hi:=zs3 r'
 obtain ⟨ys,e⟩:=hi.allInts.items
 have hl:=pl.isList
 rw [e] at hl
 refine sum_intListG (I.ok.hd hc) hl λ h' tk t' hk=>?_
 refine ⟨.int ns.sum,H,I.kept (t':=tk) hk,⟨t',?_⟩,q⟩
 rw [preSum_eq,List.take_of_length_le (by simp),<- nums_intItems,<- e]
 show Value.int (numsOf its).sum t'=_
 rw [hi.numsOf]
theorem wd8 (hc:X.calm=true:=by rfl):RC X (.builtin "sum") sumR:=by
 refine ⟨_,xn5 hc,λ xs vs H Q μ Q3 m r h k=>?_⟩
 cases r with
 | nil=>exact False.elim h
 | cons r1 r2 =>
  cases r2 with
  | cons _ _=>cases r1 <;> exact False.elim h
  | nil =>
   cases r1 with
   | ref p =>
    dsimp only [sumR] at h
    cases e:μ p with
    | none=>rw [e] at h; exact h.elim
    | some oo =>
     cases oo with
     | ins _ _=>rw [e] at h; exact h.elim
     | dct _=>rw [e] at h; exact h.elim
     | lst l =>
      rw [e] at h
      dsimp only at h
      obtain ⟨vs,hv,rs⟩:=m p l e
      cases e1:ints? l with
      | none=>rw [e1] at h; exact h.elim
      | some ns =>
       rw [e1] at h
       have ev:=yg3 rs e1
       subst ev
       exact ⟨p,ns,rfl,SqL.of hv,k _ _ _ _ h (Kp.refl _) (.int _) m⟩
   | _=>exact False.elim h
end
end Pv
namespace Pv
open PySem PySem.Spec PyProof.Rows L2
section
variable {X:Cx} {pins:List (Addr × Obj)} {σ:L2.St} {H:Hp} {s:Shared}
mutual
theorem xs0 (I:Inv X pins σ H s):∀ {d:D} {v:V} {p:PyData} {u:Value},RelD X.K H d v->dat d=some p->RelV v u->∃ as,Reads s.heap u p as
 | _,_,p,u,.non,e,r=>by simp only [dat,Option.some.injEq] at e; subst e; cases r; exact ⟨_,Reads.none⟩
 | _,_,p,u,.bl b,e,r=>by simp only [dat,Option.some.injEq] at e; subst e; cases r; exact ⟨_,Reads.bool b⟩
 | _,_,p,u,.int i,e,r=>by simp only [dat,Option.some.injEq] at e; subst e; obtain ⟨t,rfl⟩:=r; exact ⟨_,Reads.int i t⟩
 | _,_,p,u,.str x,e,r=>by
  simp only [dat] at e
  split at e
  ·simp only [Option.some.injEq] at e; subst e; obtain ⟨t,rfl⟩:=r; exact ⟨_,Reads.str x t⟩
  ·cases e
 | _,_,p,u,.ref a,e,r=>by simp [dat] at e
 | _,_,p,u,.ty n,e,r=>by simp [dat] at e
 | _,_,p,u,.fls _ _,e,r=>by simp [dat] at e
 | _,_,p,u,.exc _ _ _,e,r=>by simp [dat] at e
 | _,_,p,u,.tup hq rs,e,r=>by
  simp only [dat] at e
  split at e
  ·next ps e1 =>
   simp only [Option.some.injEq] at e; subst e
   cases r
   obtain ⟨its,rv,⟨o,ho,hc,n,hd⟩,hz⟩:=I.tuple hq
   obtain ⟨as,q⟩:=zz0 I rs e1 rv
   exact ⟨_,Reads.tuple ho hc hd (by simpa using q)⟩
  ·cases e
theorem zz0 (I:Inv X pins σ H s):∀ {l:List D} {vs:List V} {ps:List PyData} {us:List Value},RelDs X.K H l vs->dats l=some ps->Vals vs us->∃ as,ReadsAll s.heap us ps as
 | _,_,ps,us,.nil,e,r=>by simp only [dats,Option.some.injEq] at e; subst e; cases r; exact ⟨_,ReadsAll.nil⟩
 | _,_,ps,us,.cons h rs,e,r=>by
  simp only [dats] at e
  split at e
  ·next p e1 =>
   split at e
   ·next qs e2 =>
    simp only [Option.some.injEq] at e; subst e
    cases r with
    | cons r1 r2 =>
     obtain ⟨as,q1⟩:=xs0 I h e1 r1
     obtain ⟨bs,q2⟩:=zz0 I rs e2 r2
     exact ⟨_,ReadsAll.cons q1 q2⟩
   ·cases e
  ·cases e
end
theorem yk0 (I:Inv X pins σ H s) {μ:Mu} (m:RelM X.K μ H) {d:D} {v:V} {p:PyData} {u:Value} (h:RelD X.K H d v) (e:datM μ d=some p) (r:RelV v u):∃ as,Reads s.heap u p as:=by
 cases h with
 | ref a =>
  simp only [datM] at e
  split at e
  ·next l e0 =>
   split at e
   ·next ps e1 =>
    simp only [Option.some.injEq] at e; subst e
    cases r
    obtain ⟨vs,hv,rs⟩:=m a l e0
    obtain ⟨its,rv,pl,hz⟩:=I.list (SqL.of hv)
    obtain ⟨o,ho,hc,n,hd⟩:=pl.isList
    obtain ⟨as,q⟩:=zz0 I rs e1 rv
    exact ⟨_,Reads.list ho hc hd (by simpa using q)⟩
   ·cases e
  ·cases e
 | non=>exact xs0 I .non e r
 | bl b=>exact xs0 I (.bl b) e r
 | int i=>exact xs0 I (.int i) e r
 | str x=>exact xs0 I (.str x) e r
 | ty n=>exact xs0 I (.ty n) e r
 | tup hq rs=>exact xs0 I (.tup hq rs) e r
 | fls hq rs=>exact xs0 I (.fls hq rs) e r
 | exc a1 a2 a3=>simp [datM,dat] at e
mutual
theorem zl0:∀ (d:D) (p:PyData),dat d=some p->p.canLay0=true
 | .non,p,e=>by simp only [dat,Option.some.injEq] at e; subst e; rfl
 | .bl b,p,e=>by simp only [dat,Option.some.injEq] at e; subst e; rfl
 | .int b,p,e=>by simp only [dat,Option.some.injEq] at e; subst e; rfl
 | .str x,p,e=>by
  simp only [dat] at e
  split at e
  ·next h=>simp only [Option.some.injEq] at e; subst e; exact h
  ·cases e
 | .tup l,p,e=>by
  simp only [dat] at e
  split at e
  ·next ps e1=>simp only [Option.some.injEq] at e; subst e; simp only [PyData.canLay0]; exact zb1 l ps e1
  ·cases e
 | .fls _,p,e=>by simp [dat] at e
 | .ref _,p,e=>by simp [dat] at e
 | .ty _,p,e=>by simp [dat] at e
theorem zb1:∀ (l:List D) (ps:List PyData),dats l=some ps->PyData.canLayAll0 ps=true
 | [],ps,e=>by simp only [dats,Option.some.injEq] at e; subst e; rfl
 | d :: r,ps,e=>by
  simp only [dats] at e
  split at e
  ·next p e1 =>
   split at e
   ·next qs e2 =>
    simp only [Option.some.injEq] at e; subst e
    simp only [PyData.canLayAll0,Bool.and_eq_true]
    exact ⟨zl0 d p e1,zb1 r qs e2⟩
   ·cases e
  ·cases e
end
theorem ww2 {μ:Mu} {d:D} {p:PyData} (e:datM μ d=some p):p.canLay0=true:=by
 cases d with
 | ref a =>
  simp only [datM] at e
  split at e
  ·next l e0 =>
   split at e
   ·next ps e1=>simp only [Option.some.injEq] at e; subst e; simp only [PyData.canLay0]; exact zb1 l ps e1
   ·cases e
  ·cases e
 | non=>exact zl0 _ p e
 | bl b=>exact zl0 _ p e
 | int i=>exact zl0 _ p e
 | str x=>exact zl0 _ p e
 | ty n=>exact zl0 _ p e
 | tup l=>exact zl0 _ p e
 | fls l=>exact zl0 _ p e
 | exc c=>simp [datM,dat] at e
theorem xh0 {μ:Mu} {d:D} {p:PyData} (e:datM μ d=some p) (h:p.depth<=64):PySem.SeqAt.shaped p=true:=by
 unfold PySem.SeqAt.shaped
 rw [ww2 e,decide_eq_true h]; rfl
noncomputable def rEqD (K:Fg) (neg:Bool):R2:=λ x y H Q=>∃ d e μ p q,RelM K μ H /\ RelD K H d x /\ RelD K H e y /\ datM μ d=some p /\ datM μ e=some q /\ p.depth<=64 /\ q.depth<=64 /\ Q (.bl (if neg then !PyData.eqv p q else PyData.eqv p q)) H
theorem ym8 (hu:X.A.units + 64 < cLine):OpR X (compareOp .Eq) (rEqD X.K false):=by
 intro pins s σ H x y v u Q I rx ry h
 obtain ⟨d,e,μ,p,q,m,rd,re,e1,e2,h1,h2,k⟩:=h
 obtain ⟨as,q1⟩:=yk0 I m rd e1 rx
 obtain ⟨bs,q2⟩:=yk0 I m re e2 ry
 exact eq_dataH q1 q2 (xh0 e1 h1) (xh0 e2 h2) hu ⟨.bl _,H,I,rfl,k⟩
theorem yl8 (hu:X.A.units + 64 < cLine):OpR X (compareOp .NotEq) (rEqD X.K true):=by
 intro pins s σ H x y v u Q I rx ry h
 obtain ⟨d,e,μ,p,q,m,rd,re,e1,e2,h1,h2,k⟩:=h
 obtain ⟨as,q1⟩:=yk0 I m rd e1 rx
 obtain ⟨bs,q2⟩:=yk0 I m re e2 ry
 exact ne_dataH q1 q2 (xh0 e1 h1) (xh0 e2 h2) hu ⟨.bl _,H,I,rfl,k⟩
theorem zs8 {K:Fg} {H:Hp} {x y:D} {v u:V} {c:Bool} (rx:RelD K H x v) (ry:RelD K H y u) (e:eqS x y=some c):scal v u=true /\ decide (v=u)=c:=by
 unfold eqS at e
 split at e <;> first | (cases e; done) | (cases rx; cases ry; cases e; exact ⟨rfl,rfl⟩) | (cases rx; cases ry; cases e; refine ⟨rfl,?_⟩; simp)
theorem hu64 {A:Around} {k:Nat} (hr:Room k A):A.units + 64 < cLine:=by have:=hr.un; omega
noncomputable def rInD (K:Fg) (neg:Bool):R2:=λ x y H Q=>∃ d e μ p xs,∃ b:Bool,RelM K μ H /\ RelD K H d x /\ RelD K H e y /\ datM μ d=some p /\ datM μ e=some (if b then .list xs else .tuple xs) /\ p.depth<=64 /\ (if b then PyData.list xs else PyData.tuple xs).depth<=64 ∧
 Q (.bl (if neg then !(xs.any λ e=>PyData.eqv e p) else xs.any λ e=>PyData.eqv e p)) H
theorem xm8 (hu:X.A.units + 65 < cLine):OpR X (compareOp .In) (rInD X.K false):=by
 intro pins s σ H x y v u Q I rx ry h
 obtain ⟨d,e,μ,p,xs,b,m,rd,re,e1,e2,h1,h2,k⟩:=h
 obtain ⟨as,q1⟩:=yk0 I m rd e1 rx
 obtain ⟨bs,q2⟩:=yk0 I m re e2 ry
 cases b
 ·exact PySem.SeqAt.in_tuple_reads q2 q1 (PySem.SeqAt.canLay_of_shaped (xh0 e2 h2)) (PySem.SeqAt.canLay_of_shaped (xh0 e1 h1)) (room_in_shaped (xh0 e1 h1) hu) ⟨.bl _,H,I,rfl,k⟩
 ·exact PySem.SeqAt.in_list_reads q2 q1 (PySem.SeqAt.canLay_of_shaped (xh0 e2 h2)) (PySem.SeqAt.canLay_of_shaped (xh0 e1 h1)) (room_in_shaped (xh0 e1 h1) hu) ⟨.bl _,H,I,rfl,k⟩
theorem wi4 (hu:X.A.units + 65 < cLine):OpR X (compareOp .NotIn) (rInD X.K true):=by
 intro pins s σ H x y v u Q I rx ry h
 obtain ⟨d,e,μ,p,xs,b,m,rd,re,e1,e2,h1,h2,k⟩:=h
 obtain ⟨as,q1⟩:=yk0 I m rd e1 rx
 obtain ⟨bs,q2⟩:=yk0 I m re e2 ry
 cases b
 ·exact PySem.SeqAt.notIn_tuple_reads q2 q1 (PySem.SeqAt.canLay_of_shaped (xh0 e2 h2)) (PySem.SeqAt.canLay_of_shaped (xh0 e1 h1)) (room_in_shaped (xh0 e1 h1) hu) ⟨.bl _,H,I,rfl,k⟩
 ·exact PySem.SeqAt.notIn_list_reads q2 q1 (PySem.SeqAt.canLay_of_shaped (xh0 e2 h2)) (PySem.SeqAt.canLay_of_shaped (xh0 e1 h1)) (room_in_shaped (xh0 e1 h1) hu) ⟨.bl _,H,I,rfl,k⟩
theorem hu65 {A:Around} {k:Nat} (hr:Room k A):A.units + 65 < cLine:=by have:=hr.un; omega
theorem zr8 {K:Fg} {neg:Bool} {x y:D} {v u:V} {H:Hp} {Q:VK} {μ:Mu} {Q3:VK3} (m:RelM K μ H) (rx:RelD K H x v) (ry:RelD K H y u) (h:inD neg x y μ Q3) (k:Ks K H Q3 Q):rInD K neg v u H Q:=by
 unfold inD at h
 split at h
 ·next d xs e1 e2=>exact ⟨x,y,μ,d,xs,true,m,rx,ry,e1,e2,h.1.1,h.1.2,k _ _ _ _ h.2 (Kp.refl _) (.bl _) m⟩
 ·next d xs e1 e2=>exact ⟨x,y,μ,d,xs,false,m,rx,ry,e1,e2,h.1.1,h.1.2,k _ _ _ _ h.2 (Kp.refl _) (.bl _) m⟩
 ·exact h.elim
theorem RdO.inn {K:Fg} {neg:Bool}:RdO K (λ x y H Q=>(rIn K neg x y H Q \/ ∃ i j,x=.str i /\ y=.str j /\ Q (.bl (if neg then !(!(Builtin.Str.occurrences j i 0 j.length 1).isEmpty) else !(Builtin.Str.occurrences j i 0 j.length 1).isEmpty)) H) \/ rInD K neg x y H Q) (inR neg):=λ x y v u H Q μ Q3 m rx ry h k=>by
 unfold inR at h
 split at h
 ·next z l =>
  cases e:strs? l with
  | none=>rw [e] at h; exact .inr (zr8 m rx ry h k)
  | some zs =>
   rw [e] at h
   cases rx
   cases ry with
   | tup hq rs =>
    rename_i a vs
    have ev:=ya3 rs e
    refine .inl <| .inl ⟨a,vs,rfl,.inr hq,rfl,by rw [ev]; exact xq4 zs,?_⟩
    rw [ev,zl5]
    exact k _ _ _ _ h (Kp.refl _) (.bl _) m
 ·next z y =>
  cases rx
  cases ry
  exact .inl <| .inr ⟨z,y,rfl,rfl,k _ _ _ _ h (Kp.refl _) (.bl _) m⟩
 ·exact .inr (zr8 m rx ry h k)
theorem q_in (hu:X.A.units + 65 < cLine):RO X (compareOp .In) (inR false):=⟨_,(op_in_seq.or xj4).or (xm8 hu),RdO.inn⟩
theorem xm6 (hu:X.A.units + 65 < cLine):RO X (compareOp .NotIn) (inR true):=⟨_,(op_notIn_seq.or wl2).or (wi4 hu),RdO.inn⟩
theorem q_eq (hu:X.A.units + 64 < cLine):RO X (compareOp .Eq) eqR:=by
 refine ⟨_,op_eq.or (ym8 hu),λ x y v u H Q μ Q3 m rx ry h k=>?_⟩
 unfold eqR at h
 cases e:eqS x y with
 | some c =>
  rw [e] at h
  obtain ⟨h1,h2⟩:=zs8 rx ry e
  refine .inl ⟨h1,?_⟩
  rw [h2]
  exact k _ _ _ _ h (Kp.refl _) (.bl _) m
 | none =>
  rw [e] at h
  dsimp only at h
  cases e1:datM μ x with
  | none=>rw [e1] at h; exact h.elim
  | some p =>
   cases e2:datM μ y with
   | none=>rw [e1,e2] at h; exact h.elim
   | some q =>
    rw [e1,e2] at h
    exact .inr ⟨x,y,μ,p,q,m,rx,ry,e1,e2,h.1.1,h.1.2,k _ _ _ _ h.2 (Kp.refl _) (.bl _) m⟩
theorem q_ne (hu:X.A.units + 64 < cLine):RO X (compareOp .NotEq) neR:=by
 refine ⟨_,op_ne.or (yl8 hu),λ x y v u H Q μ Q3 m rx ry h k=>?_⟩
 unfold neR at h
 cases e:eqS x y with
 | some c =>
  rw [e] at h
  obtain ⟨h1,h2⟩:=zs8 rx ry e
  refine .inl ⟨h1,?_⟩
  rw [h2]
  exact k _ _ _ _ h (Kp.refl _) (.bl _) m
 | none =>
  rw [e] at h
  dsimp only at h
  cases e1:datM μ x with
  | none=>rw [e1] at h; exact h.elim
  | some p =>
   cases e2:datM μ y with
   | none=>rw [e1,e2] at h; exact h.elim
   | some q =>
    rw [e1,e2] at h
    exact .inr ⟨x,y,μ,p,q,m,rx,ry,e1,e2,h.1.1,h.1.2,k _ _ _ _ h.2 (Kp.refl _) (.bl _) m⟩
theorem zw6 (K:Fg):∀ t ∈ ["int", "str", "tuple", "bool", "NoneType", "list"],∀ T ∈ ["int", "str", "tuple", "bool", "list"],PySem.W.kitOne K (.type t) (.type T)=some (t == T || (t == "bool" && T == "int")):=by
 intro t ht T hT
 simp only [List.mem_cons,List.not_mem_nil,or_false] at ht hT
 rcases ht with rfl | rfl | rfl | rfl | rfl | rfl <;> rcases hT with rfl | rfl | rfl | rfl | rfl <;> with_unfolding_all rfl
theorem xr8 {K:Fg} {t T:String} {b:Bool} (e:isIn t T=some b) (ht:t ∈ ["int", "str", "tuple", "bool", "NoneType", "list"]) (hT:T ∈ ["int", "str", "tuple", "bool", "list"]):PySem.W.kitOne K (.type t) (.type T)=some b:=by
 rw [zw6 K t ht T hT]
 simp only [List.mem_cons,List.not_mem_nil,or_false] at ht hT
 rcases ht with rfl | rfl | rfl | rfl | rfl | rfl <;> rcases hT with rfl | rfl | rfl | rfl | rfl <;> simp [isIn] at e <;> subst e <;> rfl
theorem yr8 {t T:String} {b:Bool} (e:isIn t T=some b) (ht:t ∈ ["int", "str", "tuple", "bool", "NoneType", "list"]):T ∈ ["int", "str", "tuple", "bool", "list"] \/ (t=T /\ b=true):=by
 unfold isIn at e
 simp only [List.mem_cons,List.not_mem_nil,or_false] at ht ⊢
 split at e
 ·next h=>simp only [Option.some.injEq] at e; exact .inr ⟨h,e.symm⟩
 ·split at e
  ·next h=>rw [h.2]; simp
  ·split at e
   ·next h=>rcases h.2 with rfl | rfl | rfl | rfl | rfl <;> simp
   ·cases e
theorem xk5 (K:Fg) (t:String):PySem.W.kitOne K (.type t) (.type t)=some true:=by
 unfold PySem.W.kitOne
 rw [if_pos (by simp)]
noncomputable def rIsi (K:Fg):List V->Hp->VK->Prop:=λ xs H Q=>∃ d v μ t T b,xs=[v,.ty T] /\ RelM K μ H /\ RelD K H d v /\ tyN μ d=some t /\ isIn t T=some b /\ Q (.bl b) H
theorem yn5:CallR X (.builtin "isinstance") (rIsi X.K):=by
 intro pins s σ H xs us Q I r h
 obtain ⟨d,v,μ,t,T,b,rfl,m,rd,e1,e2,q⟩:=h
 obtain ⟨u,w',rfl,rx,ry⟩:=xa6 r
 cases ry
 have fin:∀ tk,EP X pins σ Q (.bool b) { s with toks:=tk }:=λ tk=>⟨.bl b,H,I.tok tk,rfl,q⟩
 have hk:∀ t',t' ∈ ["int", "str", "tuple", "bool", "NoneType", "list"]->isIn t' T=some b->PySem.W.kitOne X.K (.type t') (.type T)=some b:=λ t' h1 h2=>by
  rcases yr8 h2 h1 with z | ⟨rfl,rfl⟩
  ·exact xr8 h2 h1 z
  ·exact xk5 _ _
 cases rd with
 | non=>simp only [tyN,Option.some.injEq] at e1; subst e1; cases rx; exact PySem.W.kia_one PySem.W.kitx_none I.kIn True.intro (hk _ (by simp) e2) (λ z=>nomatch z) fin
 | bl y=>simp only [tyN,Option.some.injEq] at e1; subst e1; cases rx; exact PySem.W.kia_one PySem.W.kitx_bool I.kIn True.intro (hk _ (by simp) e2) (λ z=>nomatch z) fin
 | int i=>simp only [tyN,Option.some.injEq] at e1; subst e1; obtain ⟨tk,rfl⟩:=rx; exact PySem.W.kia_one PySem.W.kitx_int I.kIn True.intro (hk _ (by simp) e2) (λ z=>nomatch z) fin
 | str y=>simp only [tyN,Option.some.injEq] at e1; subst e1; obtain ⟨tk,rfl⟩:=rx; exact PySem.W.kia_one PySem.W.kitx_str I.kIn True.intro (hk _ (by simp) e2) (λ z=>nomatch z) fin
 | tup hq rs =>
  simp only [tyN,Option.some.injEq] at e1; subst e1; cases rx
  obtain ⟨its,rv,⟨o,ho,hc,_⟩,hz⟩:=I.tuple hq
  exact PySem.W.kia_one PySem.W.kitx_tuple I.kIn ⟨o,ho,hc⟩ (hk _ (by simp) e2) (λ z=>nomatch z) fin
 | ref p =>
  simp only [tyN] at e1
  split at e1
  ·next l e0 =>
   simp only [Option.some.injEq] at e1; subst e1; cases rx
   obtain ⟨vs,hv,rs⟩:=m p l e0
   obtain ⟨its,rv,pl,hz⟩:=I.list (SqL.of hv)
   obtain ⟨o,ho,hc,_⟩:=pl.isList
   exact PySem.W.kia_one PySem.W.kitx_list I.kIn ⟨o,ho,hc⟩ (hk _ (by simp) e2) (λ z=>nomatch z) fin
  ·cases e1
 | ty n=>simp [tyN] at e1
 | fls _ _=>simp [tyN] at e1
 | exc _ _ _=>simp [tyN] at e1
theorem ye4:RC X (.builtin "isinstance") isiR:=by
 refine ⟨_,yn5,λ xs vs H Q μ Q3 m r h k=>?_⟩
 cases r with
 | nil=>exact False.elim h
 | cons r1 r2 =>
  cases r2 with
  | nil=>exact False.elim h
  | cons r2 r3 =>
   cases r3 with
   | cons _ _=>cases r2 <;> exact False.elim h
   | nil =>
    cases r2 with
    | ty T =>
     rename_i d v
     dsimp only [isiR] at h
     cases e:tyN μ d with
     | none=>rw [e] at h; exact h.elim
     | some t =>
      rw [e] at h
      dsimp only at h
      cases e2:isIn t T with
      | none=>rw [e2] at h; exact h.elim
      | some b =>
       rw [e2] at h
       exact ⟨d,v,μ,t,T,b,rfl,m,r1,e,e2,k _ _ _ _ h (Kp.refl _) (.bl _) m⟩
    | _=>exact False.elim h
variable {o e:Expr} {es:List Expr} {to:TE3} {t:TA3} {apos cpos:Pos}
theorem wk6 {name:Str} {id:String} {r:V->List V->Hp->VK->Prop} {r3:D->List D->Mu->VK3->Prop} (slot:Slot "list" name id) (hty:typeOf (.builtin id)=pure (.type "method_descriptor")) (hm:MtR X id r)
    (hrd:∀ p xs v vs H Q μ Q3,RelM X.K μ H->RelD X.K H (.ref p) v->RelDs X.K H xs vs->r3 (.ref p) xs μ Q3->Ks X.K H Q3 Q->r v vs H Q) (ho:RE X o to) (ha:RA X (e :: es) t)
    (hbase:attributeBase o name X.env (eval o X.env)=eval o X.env)
    (hfew:((backTo cpos (starEach (e :: es) X.env)).all (λ x=>!x.1) && (backToKw cpos (keywordEach [] X.env)).all (λ x=>x.1.isSome)
     && decide ((e :: es).length + ([]:List Keyword).length + (if ([]:List Keyword).isEmpty then 0 else 1) < 30))=true)
    (hline:(apos.endLine == cpos.line)=true) (hs:starEach (e :: es) X.env=(false,eval e X.env) :: starEach es X.env) (hplain:(backTo cpos (starEach es X.env)).any (·.1)=false) :
    RE X (.Call (.Attribute o name apos) (e :: es) [] cpos) (mt3 r3 to t):=by
 obtain ⟨va,pa,ra⟩:=ho
 obtain ⟨vb,pb,rb⟩:=ha
 refine ⟨_,xl9 PySem.F.plainAttrs_list slot hty hm pa pb hbase hfew hline hs hplain,λ σ H Q ρ μ Q3 s m h k=>ra σ H _ ρ μ _ s m h λ d μ1 v H1 h1 k1 r1 m1=>?_⟩
 cases r1 with
 | ref p =>
  dsimp only at h1
  cases e0:μ1 p with
  | none=>rw [e0] at h1; exact h1.elim
  | some oo =>
   cases oo with
   | ins _ _=>rw [e0] at h1; exact h1.elim
   | dct _=>rw [e0] at h1; exact h1.elim
   | lst l =>
    rw [e0] at h1
    obtain ⟨vs,hv,rs⟩:=m1 p l e0
    refine ⟨.inl ⟨rfl,vs,SqL.of hv⟩,rb σ H1 _ ρ μ1 _ (s.mono k1) m1 h1 λ xs μ2 ys H2 h2 k2 r2 m2=>?_⟩
    exact hrd p xs _ ys H2 Q μ2 Q3 m2 (.ref p) r2 h2 (k.after (k1.trans k2))
 | _=>exact False.elim h1
theorem xl2 (ho:RE X o to) (ha:RA X (e :: es) t) (hbase:attributeBase o "append" X.env (eval o X.env)=eval o X.env:=by rfl)
    (hfew:((backTo cpos (starEach (e :: es) X.env)).all (λ x=>!x.1) && (backToKw cpos (keywordEach [] X.env)).all (λ x=>x.1.isSome)
     && decide ((e :: es).length + ([]:List Keyword).length + (if ([]:List Keyword).isEmpty then 0 else 1) < 30))=true:=by rfl)
    (hline:(apos.endLine == cpos.line)=true:=by rfl) (hs:starEach (e :: es) X.env=(false,eval e X.env) :: starEach es X.env:=by rfl) (hplain:(backTo cpos (starEach es X.env)).any (·.1)=false:=by rfl) :
    RE X (.Call (.Attribute o "append" apos) (e :: es) [] cpos) (mt3 appR to t):=by
 refine wk6 PySem.F.slot_list_append PySem.F.type_list_append yn1 (λ p xs v vs H Q μ Q3 m rp rx h k=>?_) ho ha hbase hfew hline hs hplain
 cases rp
 cases rx with
 | nil=>exact False.elim h
 | cons r1 r2 =>
  cases r2 with
  | cons _ _=>exact False.elim h
  | nil =>
   dsimp only [appR] at h
   cases e0:μ p with
   | none=>rw [e0] at h; exact h.elim
   | some oo =>
    cases oo with
    | ins _ _=>rw [e0] at h; exact h.elim
    | dct _=>rw [e0] at h; exact h.elim
    | lst l =>
     rw [e0] at h
     obtain ⟨vs,hv,rs⟩:=m p l e0
     exact ⟨p,vs,_,rfl,rfl,hv,by rw [<- rs.length]; exact h.1,k _ _ _ _ h.2 (Kp.wr hv) .non (m.wr hv (rs.append (.cons r1 .nil)))⟩
theorem zd4 (ho:RE X o to) (ha:RA X (e :: es) t) (hbase:attributeBase o "extend" X.env (eval o X.env)=eval o X.env:=by rfl)
    (hfew:((backTo cpos (starEach (e :: es) X.env)).all (λ x=>!x.1) && (backToKw cpos (keywordEach [] X.env)).all (λ x=>x.1.isSome)
     && decide ((e :: es).length + ([]:List Keyword).length + (if ([]:List Keyword).isEmpty then 0 else 1) < 30))=true:=by rfl)
    (hline:(apos.endLine == cpos.line)=true:=by rfl) (hs:starEach (e :: es) X.env=(false,eval e X.env) :: starEach es X.env:=by rfl) (hplain:(backTo cpos (starEach es X.env)).any (·.1)=false:=by rfl) :
    RE X (.Call (.Attribute o "extend" apos) (e :: es) [] cpos) (mt3 extR to t):=by
 refine wk6 PySem.F.slot_list_extend PySem.F.type_list_extend xk4 (λ p xs v vs H Q μ Q3 m rp rx h k=>?_) ho ha hbase hfew hline hs hplain
 cases rp
 cases rx with
 | nil=>exact False.elim h
 | cons r1 r2 =>
  cases r2 with
  | cons _ _=>cases r1 <;> exact False.elim h
  | nil =>
   cases r1 with
   | ref q =>
    dsimp only [extR] at h
    cases e0:μ p with
    | none=>rw [e0] at h; exact h.elim
    | some oo =>
     cases oo with
     | ins _ _=>rw [e0] at h; exact h.elim
     | dct _=>rw [e0] at h; exact h.elim
     | lst l =>
      cases e2:μ q with
      | none=>rw [e0,e2] at h; exact h.elim
      | some o2 =>
       cases o2 with
       | ins _ _=>rw [e0,e2] at h; exact h.elim
       | dct _=>rw [e0,e2] at h; exact h.elim
       | lst l2 =>
        rw [e0,e2] at h
        obtain ⟨vs,hv,rs⟩:=m p l e0
        obtain ⟨us,hu,ru⟩:=m q l2 e2
        exact ⟨p,q,vs,us,rfl,rfl,hv,hu,by rw [<- rs.length,<- ru.length]; exact h.1,k _ _ _ _ h.2 (Kp.wr hv) .non (m.wr hv (rs.append ru))⟩
   | _=>exact False.elim h
end
end Pv
namespace Pv
open PySem PySem.Spec PyProof.Rows L2
noncomputable abbrev yi0 (X:Cx) (NN:List Str) (scope:Scope) (cl:List (Str × Addr)) (C:Addr) (fp:List Addr) (s₀:Shared) (H₀:Hp) (pn:List (Addr × Obj)):Cx :=
 { X with N:=NN,s₀:=s₀,H₀:=H₀,env:=compEnvC scope cl C X.env,outer:=X.stack,ex:=fp,fn:=λ _=>false,pn:=pn,xe:=λ _ _=>False }
structure CompSc (X:Cx) (NN:List Str) (scope:Scope) (cl:List (Str × Addr)) (js:List (Option Nat)):Prop where
 clos:closureFor scope X.env=pure cl
 cell:∀ y ∈ scope.names,y.2 ≠ .cell
 kind:scope.kind=.function
 names:∀ y ∈ scope.names,y.2=.local->scope.names.lookup y.1=some .local
 sub:∀ x c,cl.lookup x=some c->X.env.cells.lookup x=some c
 has:∀ x,((relabel scope X.env).names.lookup x=some .cell \/ (relabel scope X.env).names.lookup x=some .free)->∃ c,cl.lookup x=some c
 len:js.length=NN.length
 out:∀ (i j:Nat),js[i]?=some (some j)->∃ x,NN[i]?=some x /\ X.N[j]?=some x /\ Vis X.env.scope x /\ X.env.scope.names.lookup x ≠ some .local /\ ((relabel scope X.env).names.lookup x=some .cell \/ (relabel scope X.env).names.lookup x=some .free)
theorem yt0 {α:Type} {x:Str} {k:α}:∀ {l:List (Str × α)},l.lookup x=some k->(x,k) ∈ l
 | [],h=>by simp at h
 | (n,k') :: r,h=>by
  rw [List.lookup_cons] at h
  split at h
  ·next e=>simp only [Option.some.injEq] at h; subst h; rw [eq_of_beq e]; exact List.mem_cons_self
  ·exact List.mem_cons_of_mem _ (yt0 h)
theorem CompSc.closed {X:Cx} {NN:List Str} {scope:Scope} (hf:∀ y ∈ scope.names,y.2 ≠ .free) (hc:∀ y ∈ scope.names,y.2 ≠ .cell) (hk:scope.kind=.function) (hn:∀ y ∈ scope.names,y.2=.local->scope.names.lookup y.1=some .local) :
    CompSc X NN scope [] (NN.map λ _=>none) where
 clos:=closureFor_none hf
 cell:=hc
 kind:=hk
 names:=hn
 sub:=λ x c h=>by simp at h
 has:=λ x h=>by
  exfalso
  have e:(relabel scope X.env).names=scope.names:=map_eq_self (l:=scope.names) (λ y hy=>by
   obtain ⟨n,k⟩:=y
   have:(k == NameKind.free)=false:=by simpa using hf _ hy
   simp [this])
  rw [e] at h
  rcases h with h | h
  ·exact hc _ (yt0 h) rfl
  ·exact hf _ (yt0 h) rfl
 len:=by simp
 out:=λ i j h=>by
  rw [List.getElem?_map] at h
  cases q:NN[i]? with
  | none=>rw [q] at h; cases h
  | some y=>rw [q] at h; simp at h
noncomputable def yh1 (js:List (Option Nat)) (σ:L2.St):L2.St:=js.map λ j=>j.bind λ j=>(σ[j]?).bind id
noncomputable def PTs (X:Cx) (ifs:List Expr) (t:TT):Prop:=∀ (pins:List (Addr × Obj)) (s:Shared) (σ:L2.St) (H:Hp) (Q:Bool->Hp->Prop),Inv X pins σ H s->t σ H Q ->
 wpAny (model X.prog X.w) X.A (forIn ifs true λ c r=>if r=true then do let ok <- isTrue c X.env (eval c X.env); pure (ForInStep.yield ok) else pure (ForInStep.yield r)) (TP X pins σ Q) X.xe s
theorem xn6 {X:Cx}:PTs X [] (λ _ H Q=>Q true H):=λ _ _ _ H _ I h=>wpAny_tests_nil ⟨H,I,h⟩
noncomputable def wu3 (js:List (Option Nat)) (wi:TI) (g:TG) (tc:TT) (te:TE):TE:=λ σ H Q=>wi σ H λ J H1=>∀ p,H1 p=none ->
 ∃ W:Nat->Nat->L2.St->Hp->Prop,(∃ m,W 0 m (yh1 js σ) (upd H1 p (.lst []))) /\ ∀ i m σ' H',W i m σ' H' ->
  ((J.stop i H' /\ Q (.ref p) H') \/ (J.go i H' /\ ∀ x H2,J.yld i H' x H2->g x σ' H2 λ σ3 H3=>tc σ3 H3 λ b H4 =>
   if b=true then te σ3 H4 λ y H5=>∃ ys,H5 p=some (.lst ys) /\ ys.length < sizeLine /\ ∃ m',m' < m /\ W (i + 1) m' σ3 (upd H5 p (.lst (ys ++ [y]))) else ∃ m',m' < m /\ W (i + 1) m' σ3 H4))
section
variable {X:Cx} {NN:List Str} {scope:Scope} {cl:List (Str × Addr)} {js:List (Option Nat)}
theorem wz6 {pins:List (Addr × Obj)} {σ:L2.St} {H:Hp} {s:Shared} {fp:List Addr} {pn:List (Addr × Obj)} (hc:X.calm=true) (S:CompSc X NN scope cl js) (I:Inv X pins σ H s) (f:∀ b ∈ fp,FpOk X pins H b /\ b < s.heap.objs.size) :
    (yi0 X NN scope cl s.heap.objs.size fp s H pn).Ok where
 mod:=I.ok.mod
 kind:=S.kind
 glob:=I.ok.glob
 blt:=I.ok.blt
 above:=Nat.le_refl _
 inj:=λ x y c h1 h2=>I.ok.inj x y c (S.sub x c h1) (S.sub y c h2)
 has:=λ x h=>S.has x h
 cab:=λ x c h=>by cases h
 hd:=λ _=>I.ok.hd hc
 frames:=I.ok.frames
 stk:=.inl rfl
 exf:=λ b hb=>⟨Nat.ne_of_lt (f b hb).2,λ x c e=>(f b hb).1.2.2.2.2.1 x c (S.sub x c e)⟩
 bs:=I.bs
 bsz:=Nat.le_trans I.ok.bsz I.sz
 noex:=λ b o e hb=>by
  rcases (f b hb).1.2.2.2.1 with z | z
  ·exact I.ok.noex b o e z
  ·exact absurd (Nat.lt_of_lt_of_le (Heap.lt_size e) (Nat.le_trans I.ok.bsz z)) (Nat.lt_irrefl _)
 exfs:=λ b hb hfs=>by
  rcases List.mem_cons.mp (I.stkSub b hfs) with z | z
  ·exact (f b hb).1.2.1 z
  ·exact (f b hb).1.2.2.1 z
 funs:=I.stack
 frf:=I.stkFree
theorem zn4 {js:List (Option Nat)} {σ:L2.St} {i:Nat} {v:V} (h:(yh1 js σ)[i]?=some (some v)):∃ j,js[i]?=some (some j) /\ σ[j]?=some (some v):=by
 unfold yh1 at h
 rw [List.getElem?_map] at h
 cases q:js[i]? with
 | none=>rw [q] at h; cases h
 | some o =>
  rw [q] at h
  cases o with
  | none=>simp at h
  | some j =>
   refine ⟨j,rfl,?_⟩
   simp only [Option.map_some,Option.bind_some,Option.some.injEq] at h
   cases e:σ[j]? with
   | none=>rw [e] at h; simp at h
   | some w=>rw [e] at h; simp only [Option.bind_some,id] at h; rw [h]
theorem yp2 {pins:List (Addr × Obj)} {σ:L2.St} {H:Hp} {s:Shared} {fp:List Addr} {h₁:Heap} {m:Str->Option Value} {tk:Nat} (hc:X.calm=true) (S:CompSc X NN scope cl js) (I:Inv X pins σ H s) (f:∀ b ∈ fp,FpOk X pins H b /\ b < s.heap.objs.size)
    (hn:h₁.Ns s.heap.objs.size m) (k:∀ b u,s.heap.get? b=some u->h₁.get? b=some u):Inv (yi0 X NN scope cl s.heap.objs.size fp s H (X.pn ++ pins)) [] (yh1 js σ) H { s with heap:=h₁,toks:=tk } where
 ok:=wz6 hc S I f
 os:=rfl
 bare:=I.bare
 base:=Un.kept k
 loc:=by
  refine ⟨m,hn,λ i x v h1 h2 h3=>?_⟩
  obtain ⟨j,e1,e2⟩:=zn4 h2
  obtain ⟨y,q1,q2,q3,q4,q5⟩:=S.out i j e1
  have q1':NN[i]?=some x:=h1
  rw [q1] at q1'; cases q1'
  obtain ⟨mX,_,hl⟩:=I.loc
  obtain ⟨u,r,l⟩:=hl j x v q2 e2 q3
  refine ⟨u,r,.inr ⟨q5,?_⟩⟩
  rcases l with ⟨z,_⟩ | ⟨_,c,hc',hcell⟩
  ·exact absurd z q4
  ·obtain ⟨c',hc2⟩:=S.has x q5
   have e:=S.sub x c' hc2
   rw [hc'] at e; cases e
   obtain ⟨o,ho,hd⟩:=hcell
   exact ⟨c,hc2,o,k _ _ ho,hd⟩
 cell:=λ x c e=>by
  obtain ⟨v,o,ho,hd⟩:=I.cell x c (S.sub x c e)
  exact ⟨v,o,k _ _ ho,hd⟩
 free:=I.hok.fresh (Nat.le_refl _)
 freeC:=λ x c e=>I.freeC x c (S.sub x c e)
 pin:=λ p hp=>by
  have hp':p ∈ X.pn ++ pins:=by simpa using hp
  obtain ⟨h1,h2,h3,h4,h5⟩:=I.pin p hp'
  refine ⟨k _ _ h1,h2,Nat.ne_of_lt (Heap.lt_size h1),λ z=>?_,h5⟩
  rcases List.mem_cons.mp (I.stkSub _ z) with z | z
  ·exact h3 z
  ·exact h4 z
 hok:=I.hok.kept k
 len:=by show (yh1 js σ).length=NN.length; unfold yh1; rw [List.length_map]; exact S.len
theorem yr6 {elt target iter:Expr} {ifs:List Expr} {pos:Pos} {wi:TI} {g:TG} {tc:TT} {te:TE} (hc:X.calm=true) (S:CompSc X NN scope cl js) (hi:PI X target iter wi)
    (hg:∀ C fp s₀ H₀ pn,PG (yi0 X NN scope cl C fp s₀ H₀ pn) target g) (ht:∀ C fp s₀ H₀ pn,PTs (yi0 X NN scope cl C fp s₀ H₀ pn) ifs tc) (he:∀ C fp s₀ H₀ pn,PE (yi0 X NN scope cl C fp s₀ H₀ pn) elt te)
    (hs:∀ x,foldedSetIterable iter X.env x=pure x):PE X (.ListComp elt [⟨target,iter,ifs,0⟩] scope pos) (wu3 js wi g tc te):=by
 intro pins s σ H Q I h
 rw [eval_ListComp]
 refine wpAny_comprehension_free (use:=none) rfl hs S.clos S.kind S.names (thn (hi pins s σ H _ I h) λ xv s1 h1=>thn h1 λ itv s2 h2=>?_)
 obtain ⟨it,fp,tn,J,H2,rfl,I2,T,st2,f2,hW⟩:=h2
 refine wpAny_newObj_type (wpAny_newFunctionEnv S.cell (by intro y hy; simp at hy) (λ h₁ hns₁ hsb₁=>?_) S.kind)
 dsimp only at hns₁ hsb₁ ⊢
 have hD:H2 s2.heap.objs.size=none:=I2.hok.fresh (Nat.le_refl _)
 have I3:Inv X pins σ (upd H2 s2.heap.objs.size (.lst [])) { s2 with heap:=s2.heap.push { cls:=.type "list",dict:=none,data:=.seq ([]:List Value).toArray } } :=
  I2.lnew (t':=s2.toks) (its:=[]) .nil (by rw [sizeLine_eq]; decide)
 generalize hsD:({ s2 with heap:=s2.heap.push { cls:=.type "list",dict:=none,data:=.seq ([]:List Value).toArray } }:Shared)=sD at I3
 have eh:sD.heap=s2.heap.push { cls:=.type "list",dict:=none,data:=.seq ([]:List Value).toArray }:=by rw [<- hsD]
 have es:∀ (h:Heap) (tk:Nat),({ s2 with heap:=h,toks:=tk }:Shared)={ sD with heap:=h,toks:=tk }:=λ h tk=>by rw [<- hsD]
 have hsz:s2.heap.objs.size < sD.heap.objs.size:=by rw [eh,Heap.size_push]; exact Nat.lt_succ_self _
 rw [<- eh] at hns₁ hsb₁ ⊢
 generalize hp0:s2.heap.objs.size=p0 at *
 have up:∀ b u,s2.heap.get? b=some u->sD.heap.get? b=some u:=λ b u e=>by rw [eh]; exact Heap.get?_push_of_some _ e
 have k:∀ b u,sD.heap.get? b=some u->h₁.get? b=some u:=λ b u e=>hsb₁.extBut b u (Nat.ne_of_lt (Heap.lt_size e)) (Heap.get?_push_of_some _ e)
 have f3:∀ b ∈ fp,FpOk X pins (upd H2 p0 (.lst [])) b /\ b < sD.heap.objs.size:=λ b hb=>by
  obtain ⟨o,ho,_⟩:=T.obj 0 _ st2 b hb
  have hlt:b < p0:=by rw [<- hp0]; exact Heap.lt_size ho
  refine ⟨⟨?_,(f2 b hb).2⟩,Nat.lt_trans hlt hsz⟩
  rw [xg0 (Nat.ne_of_lt hlt)]; exact (f2 b hb).1
 obtain ⟨W,⟨m0,w0⟩,turn⟩:=hW p0 hD
 have I4:=yp2 (tk:=s2.toks + ([]:List (Str × Value)).length) hc S I3 f3 hns₁ k
 have st4:tn 0 h₁:=T.keep 0 _ _ st2 λ b _ o e=>k b o (up b o e)
 rw [es]
 generalize hX':yi0 X NN scope cl sD.heap.objs.size fp sD (upd H2 p0 (.lst [])) (X.pn ++ pins)=X' at I4
 have a1:X'.env=compEnvC scope cl sD.heap.objs.size X.env:=by rw [<- hX']
 have a2:X'.prog=X.prog:=by rw [<- hX']
 have a3:X'.w=X.w:=by rw [<- hX']
 have a4:X'.A=X.A:=by rw [<- hX']
 have a5:X'.K=X.K:=by rw [<- hX']
 have a6:X'.calm=true:=by rw [<- hX']; exact hc
 have a7:X'.xe=λ _ _=>False:=by rw [<- hX']
 have a8:X'.ex=fp:=by rw [<- hX']
 have T':Turn X'.prog X'.w X'.K target J fp it tn:=by rw [a2,a3,a5]; exact T
 have hg':PG X' target g:=by rw [<- hX']; exact hg _ _ _ _ _
 have ht':PTs X' ifs tc:=by rw [<- hX']; exact ht _ _ _ _ _
 have he':PE X' elt te:=by rw [<- hX']; exact he _ _ _ _ _
 have fin:∀ {σ':L2.St} {H':Hp} {s':Shared},Inv X' [] σ' H' s'->Q (.ref p0) H'->compPost (model X.prog X.w) X.A X.xe none (EP X pins σ Q) (.ref p0) sD.heap.objs.size (.ok .next) s':=λ {σ' H' s'} I' q=>by
  obtain ⟨m',hn',_⟩:=I'.loc
  rw [a1] at hn'
  refine ⟨m',hn',λ h' sb=>?_⟩
  have u:Un (frs X.stack) fp (upd H2 p0 (.lst [])) H' sD.heap s'.heap:=by
   have:=I'.base
   rw [<- hX'] at this
   exact this
  have hch:∀ b ∈ fp,(b ∈ X.ex \/ X.s₀.heap.objs.size<=b) /\ b ≠ X.env.locals /\ (∀ x c,X.env.cells.lookup x=some c->c ≠ b) /\ ∀ p ∈ X.pn ++ pins,p.1 ≠ b:=λ b hb=>by
   obtain ⟨_,z1,_,z3,z4,z5⟩:=(f3 b hb).1
   exact ⟨z3,z1,z4,z5⟩
  have os':s'.os=sD.os:=by
   have:=I'.os
   rw [<- hX'] at this
   exact this
  have hok':HOk X.prog X.w H' s'.heap:=by
   have:=I'.hok
   rw [<- hX'] at this
   exact this
  have I5:Inv X pins σ H' s':=I3.call' os' u hok' I'.bare hch
  have hC:H' sD.heap.objs.size=none:=by
   have:=I'.free
   rw [a1] at this
   exact this
  refine ⟨.ref p0,H',I5.turned (t':=s'.toks) (it:=sD.heap.objs.size) (λ b o hb e=>sb.extBut b o hb e) hC (Nat.ne_of_gt I3.lt) (.inr I3.sz) (λ x c e=>?_) (λ p hp=>?_),rfl,q⟩
  ·obtain ⟨v,o,ho,_⟩:=I3.cell x c e
   exact Nat.ne_of_lt (Heap.lt_size ho)
  ·exact Nat.ne_of_lt (Heap.lt_size (I3.pin p hp).1)
 have fp4:∀ {H':Hp},(∀ b ∈ fp,H' b=none)->∀ b ∈ fp,FpOk X' [] H' b:=λ hn b hb=>by
  obtain ⟨_,z1,z2,z3,z4,z5⟩:=(f3 b hb).1
  rw [<- hX']
  refine ⟨hn b hb,Nat.ne_of_lt (f3 b hb).2,λ z=>?_,.inl hb,λ x c e=>z4 x c (S.sub x c e),λ p hp=>z5 p (by simpa using hp)⟩
  rcases List.mem_cons.mp (I3.stkSub _ z) with z | z
  ·exact z1 z
  ·exact z2 z
 have loop:∀ s₃:Shared,Inv X' [] (yh1 js σ) (upd H2 p0 (.lst [])) s₃->tn 0 s₃.heap ->
     codeAny (model X.prog X.w) X.A (.compLoop (.ListComp elt [⟨target,iter,ifs,0⟩] scope pos) 0 (.ref it) (.ref p0) (compEnvC scope cl sD.heap.objs.size X.env)) (compPost (model X.prog X.w) X.A X.xe none (EP X pins σ Q) (.ref p0) sD.heap.objs.size) s₃:=by
  intro s₃ I₃ st₃
  refine codeAny_loop rfl (λ n s'=>∃ i σ' H',Inv X' [] σ' H' s' /\ tn i s'.heap /\ (∀ b ∈ fp,H' b=none) /\ W i n σ' H') (λ n s' hI=>?_) m0 ⟨0,yh1 js σ,_,I₃,st₃,λ b hb=>(f3 b hb).1.1,w0⟩
  obtain ⟨i,σ3,H3,J3,st3,fr3,w3⟩:=hI
  have tr:=turn i n σ3 H3 w3
  show wpAny _ X.A ((compTurn (.ListComp elt [⟨target,iter,ifs,0⟩] scope pos) 0 (.ref it) (.ref p0) (compEnvC scope cl sD.heap.objs.size X.env)).onRaise (λ x=>do noteFrame x (compEnvC scope cl sD.heap.objs.size X.env); theTreesLotGoes x)) _ _ s'
  refine wpAny_noted ?_
  rw [compTurn_list,<- a1,<- a2,<- a3,<- a4]
  have nof:∀ {α:Type} {t:Sem α} {Q':α->Shared->Prop} {s'':Shared} {E:Value->Shared->Prop},wpAny (model X'.prog X'.w) X'.A t Q' X'.xe s''->wpAny (model X'.prog X'.w) X'.A t Q' E s'':=λ h=>wpAny_mono h (λ _ _ q=>q) λ _ _ z=>by rw [a7] at z; exact z.elim
  rcases tr with ⟨stop,qn⟩ | ⟨go,step⟩
  ·refine wpAny_bind (wpAny_standAt (wpAny_bind (nof (thn (T'.done X' rfl rfl rfl a6 i [] s' σ3 H3 X'.xe J3 (fp4 fr3) st3 stop) λ r s4 ⟨hr,J4⟩=>?_))))
   subst hr
   exact wpAny_pure (fin J4 qn)
  ·refine wpAny_bind (wpAny_standAt (wpAny_bind (nof (thn (T'.item X' rfl rfl rfl a6 i [] s' σ3 H3 X'.xe J3 (fp4 fr3) st3 go) λ r s4 ⟨u,hr,h4⟩=>?_))))
   subst hr
   refine wpAny_bind (nof (thn h4 λ _ s5 ⟨x,H5,I5,r5,y5,st5,fr5⟩=>?_))
   have I5':=I5.pinned (fp4 fr5) (T.obj _ _ st5)
   refine wpAny_bind (nof (thn (hg' _ s5 σ3 H5 x u _ I5' r5 (step x H5 y5)) λ _ s6 ⟨σ6,H6,I6,q6⟩=>?_))
   refine wpAny_bind (nof (thn (ht' _ s6 σ6 H6 _ I6 q6) λ ok s7 ⟨H7,I7,q7⟩=>?_))
   have again:∀ {s8:Shared} {σ8:L2.St} {H8:Hp},Inv X' ([] ++ xw1 fp s5.heap) σ8 H8 s8->(∃ m',m' < n /\ W (i + 1) m' σ8 H8)->∃ m,m < n /\ ∃ i σ' H',Inv X' [] σ' H' s8 /\ tn i s8.heap /\ (∀ b ∈ fp,H' b=none) /\ W i m σ' H':=λ {s8 σ8 H8} I8 ⟨m',hm,w8⟩=>by
    refine ⟨m',hm,i + 1,σ8,H8,I8.unpinned,T.keep _ _ _ st5 λ b hb o e=>(I8.pin (b,o) (List.mem_append_right _ (List.mem_append_right _ (yp0 hb e)))).1,λ b hb=>?_,w8⟩
    obtain ⟨o,e,d⟩:=T.obj _ _ st5 b hb
    exact (I8.pin (b,o) (List.mem_append_right _ (List.mem_append_right _ (yp0 hb e)))).2.1
   cases ok with
   | false=>exact wpAny_pure ⟨rfl,again I7 q7⟩
   | true =>
    refine wpAny_bind (wpAny_bind (nof (thn (he' _ s7 σ6 H7 _ I7 q7) λ xv s8 ⟨y,H8,I8,r8,ys,q8,hlen,q9⟩=>wpAny_bind (nof ?_))))
    refine thn (yn1 (X:=X') _ s8 σ6 H8 (.ref p0) [y] (.ref p0) [xv] (λ v H9=>v=.non /\ H9=upd H8 p0 (.lst (ys ++ [y]))) I8 rfl (.cons r8 .nil) ⟨p0,ys,y,rfl,rfl,q8,hlen,rfl,rfl⟩) λ rv s9 ⟨v9,H9,I9,_,_,e9⟩=>?_
    subst e9
    exact wpAny_pure (wpAny_pure ⟨rfl,again I9 q9⟩)
 exact codeAny_compStart_list (loop _ I4 st4) (T.self X.A 0 _ _ _ st4 (loop _ I4 st4))
end
end Pv
namespace Pv
open PySem PySem.Spec PyProof.Rows L2
theorem xy1:bootBuiltins "len" = some (.builtin "len"):=by decide +kernel
theorem zu8:bootBuiltins "abs" = some (.builtin "abs"):=by decide +kernel
theorem zm0:bootBuiltins "isinstance" = some (.builtin "isinstance"):=by decide +kernel
theorem wy5:bootBuiltins "sum" = some (.builtin "sum"):=by decide +kernel
theorem wf2:bootBuiltins "tuple" = some (.type "tuple"):=by decide +kernel
theorem wt4:bootBuiltins "int" = some (.type "int"):=by decide +kernel
theorem wa7:bootBuiltins "bool" = some (.type "bool"):=by decide +kernel
theorem za7:bootBuiltins "list" = some (.type "list"):=by decide +kernel
theorem yu8:bootBuiltins "set" = some (.type "set"):=by decide +kernel
theorem yv0:bootBuiltins "min" = some (.builtin "min"):=by decide +kernel
theorem wx1:bootBuiltins "max" = some (.builtin "max"):=by decide +kernel
theorem zt4:bootBuiltins "sorted" = some (.builtin "sorted"):=by decide +kernel
theorem wn5:bootBuiltins "range" = some (.type "range"):=by decide +kernel
noncomputable def RTs (X:Cx) (ifs:List Expr) (t:TT3):Prop:=∃ tv,PTs X ifs tv /\ RdT X.K tv t
theorem xb2 {X:Cx}:RTs X [] tt3:=⟨_,xn6,λ σ H Q ρ μ Q3 s m h k=>k _ _ _ h (Kp.refl _) m⟩
theorem yl5 {K:Fg} {H:Hp} {ρ:St3} {σ:L2.St} (s:RSt K H ρ σ) (js:List (Option Nat)):RSt K H (js.map λ j=>j.bind (getI ρ)) (yh1 js σ):=by
 refine ⟨by simp [yh1],λ i d e=>?_⟩
 rw [xw2,List.getElem?_map] at e
 unfold yh1
 rw [List.getElem?_map]
 cases q:js[i]? with
 | none=>rw [q] at e; cases e
 | some o =>
  rw [q] at e
  cases o with
  | none=>simp at e
  | some j =>
   have e':getI ρ j=some d:=by simpa using e
   obtain ⟨v,h1,h2⟩:=s.at' j d e'
   exact ⟨v,by simp [h1],h2⟩
theorem RdE.comp {K:Fg} {js:List (Option Nat)} {wi:TI} {g:TG} {tc:TT} {te:TE} {ti:TI3} {g3:TG3} {tc3:TT3} {te3:TE3} (ri:RdI K wi ti) (rg:RdG K g g3) (rt:RdT K tc tc3) (re:RdE K te te3):RdE K (wu3 js wi g tc te) (wq1 js ti g3 tc3 te3):=by
 intro σ H Q ρ μ Q3 s m h k
 refine ri σ H _ ρ μ _ s m h λ l S μ1 J H1 h1 k1 m1 ok p hp=>?_
 obtain ⟨W,w0,hS,hn,hs⟩:=h1 p (m1.free hp)
 have kn:Kp H1 (upd H1 p (.lst [])):=Kp.new hp
 refine ⟨λ i n σ2 H2=>n=l.length - i /\ i<=l.length /\ ∃ ρ2 μ2 ys,RSt K H2 ρ2 σ2 /\ RelM K μ2 H2 /\ Kp H1 H2 /\ W (l.drop i) ys ρ2 μ2,⟨l.length,rfl,Nat.zero_le _,_,_,[],(yl5 (s.mono k1) js).mono kn,m1.newL hp .nil,kn,w0⟩,?_⟩
 rintro i n σ2 H2 ⟨rfl,hi,ρ2,μ2,ys,s2,m2,k2,w2⟩
 obtain ⟨hS2,hp2⟩:=hS _ _ _ _ w2
 by_cases hlt:i < l.length
 ·rw [List.drop_eq_getElem_cons hlt] at w2
  obtain ⟨hz,h2⟩:=hs _ _ _ _ _ w2
  obtain ⟨ok1,_⟩:=ok i H2 μ2 k2 m2 hS2
  obtain ⟨go,yl⟩:=ok1 l[i] (List.getElem?_eq_getElem hlt)
  refine .inr ⟨go,λ x H3 y=>?_⟩
  obtain ⟨k3,m3,r3⟩:=yl x H3 y
  refine rg x l[i] σ2 H3 _ ρ2 μ2 _ (s2.mono k3) m3 r3 h2 λ ρ4 μ4 σ4 H4 h4 k4 s4 m4=>?_
  refine rt σ4 H4 _ ρ4 μ4 _ s4 m4 h4 λ b μ5 H5 h5 k5 m5=>?_
  have k15:Kp H1 H5:=k2.trans (k3.trans (k4.trans k5))
  cases b with
  | false=>exact ⟨l.length - (i + 1),by omega,rfl,hlt,ρ4,μ5,ys,s4.mono k5,m5,k15,h5⟩
  | true =>
   refine re σ4 H5 _ ρ4 μ5 _ (s4.mono k5) m5 h5 λ d μ6 v H6 h6 k6 r6 m6=>?_
   obtain ⟨vs,hv,rv⟩:=m6 p ys h6.1
   refine ⟨vs,hv,by rw [<- rv.length]; exact hz,l.length - (i + 1),by omega,rfl,hlt,ρ4,_,_,((s4.mono k5).mono k6).mono (Kp.wr hv),m6.wr hv (rv.append (.cons r6 .nil)),(k15.trans k6).trans (Kp.wr hv),h6.2⟩
 ·have e:i=l.length:=by omega
  subst e
  rw [List.drop_length] at w2
  exact .inl ⟨(ok _ H2 μ2 k2 m2 hS2).2 (Nat.le_refl _),k _ _ _ _ (hn _ _ _ w2) (k1.trans k2) (.ref p) m2⟩
section
variable {X:Cx} {elt target iter:Expr} {ifs:List Expr} {pos:Pos} {ti:TI3} {g:TG3} {tc:TT3} {te:TE3} {NN:List Str} {scope:Scope} {cl:List (Str × Addr)} {js:List (Option Nat)}
theorem yb2 (hc:X.calm=true) (S:CompSc X NN scope cl js) (hi:RI X target iter ti) (hg:∀ C fp s₀ H₀ pn,RG (yi0 X NN scope cl C fp s₀ H₀ pn) target g)
    (ht:∀ C fp s₀ H₀ pn,RTs (yi0 X NN scope cl C fp s₀ H₀ pn) ifs tc) (he:∀ C fp s₀ H₀ pn,RE (yi0 X NN scope cl C fp s₀ H₀ pn) elt te)
    (hs:∀ x,foldedSetIterable iter X.env x=pure x):RE X (.ListComp elt [⟨target,iter,ifs,0⟩] scope pos) (wq1 js ti g tc te):=by
 obtain ⟨wi,pi,ri⟩:=hi
 let gU:TG:=λ v σ H Q=>∀ (r:TG3),r=g->∃ d ρ μ Q3,RSt X.K H ρ σ /\ RelM X.K μ H /\ RelD X.K H d v /\ g d ρ μ Q3 /\ (∀ ρ' μ' σ' H',Q3 ρ' μ'->Kp H H'->RSt X.K H' ρ' σ'->RelM X.K μ' H'->Q σ' H')
 let tU:TT:=λ σ H Q=>∃ ρ μ Q3,RSt X.K H ρ σ /\ RelM X.K μ H /\ tc ρ μ Q3 /\ (∀ b μ' H',Q3 b μ'->Kp H H'->RelM X.K μ' H'->Q b H')
 let eU:TE:=λ σ H Q=>∃ ρ μ Q3,RSt X.K H ρ σ /\ RelM X.K μ H /\ te ρ μ Q3 /\ Ks X.K H Q3 Q
 have hg':∀ C fp s₀ H₀ pn,PG (yi0 X NN scope cl C fp s₀ H₀ pn) target gU:=λ C fp s₀ H₀ pn=>by
  obtain ⟨tv,p,r⟩:=hg C fp s₀ H₀ pn
  intro pins s σ H v u Q I rv h
  obtain ⟨d,ρ,μ,Q3,a1,a2,a3,a4,a5⟩:=h g rfl
  exact p pins s σ H v u Q I rv (r v d σ H Q ρ μ Q3 a1 a2 a3 a4 a5)
 have ht':∀ C fp s₀ H₀ pn,PTs (yi0 X NN scope cl C fp s₀ H₀ pn) ifs tU:=λ C fp s₀ H₀ pn=>by
  obtain ⟨tv,p,r⟩:=ht C fp s₀ H₀ pn
  intro pins s σ H Q I h
  obtain ⟨ρ,μ,Q3,a1,a2,a3,a4⟩:=h
  exact p pins s σ H Q I (r σ H Q ρ μ Q3 a1 a2 a3 a4)
 have he':∀ C fp s₀ H₀ pn,PE (yi0 X NN scope cl C fp s₀ H₀ pn) elt eU:=λ C fp s₀ H₀ pn=>by
  obtain ⟨tv,p,r⟩:=he C fp s₀ H₀ pn
  intro pins s σ H Q I h
  obtain ⟨ρ,μ,Q3,a1,a2,a3,a4⟩:=h
  exact p pins s σ H Q I (r σ H Q ρ μ Q3 a1 a2 a3 a4)
 exact ⟨_,yr6 hc S pi hg' ht' he' hs,RdE.comp ri (λ v d σ H Q ρ μ Q3 a1 a2 a3 a4 a5 _ _=>⟨d,ρ,μ,Q3,a1,a2,a3,a4,a5⟩) (λ σ H Q ρ μ Q3 a1 a2 a3 a4=>⟨ρ,μ,Q3,a1,a2,a3,a4⟩) (λ σ H Q ρ μ Q3 a1 a2 a3 a4=>⟨ρ,μ,Q3,a1,a2,a3,a4⟩)⟩
theorem zk6 (hf:∀ y ∈ scope.names,y.2 ≠ .free) (hcl:∀ y ∈ scope.names,y.2 ≠ .cell) (hn:∀ y ∈ scope.names,y.2=.local->scope.names.lookup y.1=some .local) (hi:RI X target iter ti) (hg:∀ C fp s₀ H₀ pn,RG (yi0 X NN scope [] C fp s₀ H₀ pn) target g)
    (ht:∀ C fp s₀ H₀ pn,RTs (yi0 X NN scope [] C fp s₀ H₀ pn) ifs tc) (he:∀ C fp s₀ H₀ pn,RE (yi0 X NN scope [] C fp s₀ H₀ pn) elt te) (hc:X.calm=true:=by rfl) (hk:scope.kind=.function:=by rfl)
    (hs:∀ x,foldedSetIterable iter X.env x=pure x:=by intro _; rfl):RE X (.ListComp elt [⟨target,iter,ifs,0⟩] scope pos) (wq1 (NN.map λ _=>none) ti g tc te) :=
 yb2 hc (CompSc.closed hf hcl hk hn) hi hg ht he hs
end
end Pv
namespace Pv
open PySem PySem.Spec PyProof.Rows L2
mutual
inductive TupK (K:Fg):List D->Addr->Prop where
 | mk {a:Addr} {l:List D} {its:Array Value} {n:Nat} {od:Option Addr} {sl:Array (Option Value)}:K.lookup a=some ⟨.type "tuple",od,.seq its n,sl⟩->its.size<=sizeLine->ItK K l its.toList->TupK K l a
inductive ItK (K:Fg):List D->List Value->Prop where
 | nil:ItK K [] []
 | int {i:Int} {t:Tok} {l:List D} {us:List Value}:ItK K l us->ItK K (.int i :: l) (.int i t :: us)
 | str {x:Str} {t:Tok} {l:List D} {us:List Value}:ItK K l us->ItK K (.str x :: l) (.str x t :: us)
 | bl {b:Bool} {l:List D} {us:List Value}:ItK K l us->ItK K (.bl b :: l) (.bool b :: us)
 | tup {a:Addr} {l' l:List D} {us:List Value}:TupK K l' a->ItK K l us->ItK K (.tup l' :: l) (.ref a :: us)
end
mutual
theorem TupK.rel {K:Fg}:∀ {l:List D} {a:Addr},TupK K l a->∀ H,RelD K H (.tup l) (.ref a)
 | _,_,.mk h1 h2 h3,H=>by
  obtain ⟨vs,r,rd⟩:=h3.rel
  exact .tup (.inr ⟨_,_,_,h1,rfl,rfl,h2,r⟩) (rd H)
theorem ItK.rel {K:Fg}:∀ {l:List D} {us:List Value},ItK K l us->∃ vs,Vals vs us /\ ∀ H,RelDs K H l vs
 | _,_,.nil=>⟨[],.nil,λ _=>.nil⟩
 | _,_,.int h=>let ⟨vs,r,rd⟩:=h.rel; ⟨_,.cons (show RelV (.int _) _ from ⟨_,rfl⟩) r,λ H=>.cons (.int _) (rd H)⟩
 | _,_,.str h=>let ⟨vs,r,rd⟩:=h.rel; ⟨_,.cons (show RelV (.str _) _ from ⟨_,rfl⟩) r,λ H=>.cons (.str _) (rd H)⟩
 | _,_,.bl h=>let ⟨vs,r,rd⟩:=h.rel; ⟨_,.cons (show RelV (.bl _) _ from rfl) r,λ H=>.cons (.bl _) (rd H)⟩
 | _,_,.tup h0 h=>let ⟨vs,r,rd⟩:=h.rel; ⟨_,.cons (show RelV (.ref _) _ from rfl) r,λ H=>.cons (h0.rel H) (rd H)⟩
end
section
variable {K:Fg} {h:Heap} {mg:Str->Option Value} {x:Str}
theorem zh3 {i:Int} {t:Tok} (X:K.In h) (G:h.Ns mainGlobals mg) (e:PySem.W.nsIn K mainGlobals x=some (some (.int i t))):Gd K mg x (.int i):=⟨_,.int i,PySem.W.mg_of X G e,⟨_,rfl⟩,λ _=>.int i⟩
theorem yn2 {a:Addr} {l:List D} (X:K.In h) (G:h.Ns mainGlobals mg) (e:PySem.W.nsIn K mainGlobals x=some (some (.ref a))) (r:TupK K l a):Gd K mg x (.tup l):=⟨_,.ref a,PySem.W.mg_of X G e,rfl,λ H=>r.rel H⟩
end
theorem wm2 {K:Fg} {H:Hp}:∀ ns:List Int,RelDs K H (ns.map D.int) (ns.map V.int)
 | []=>.nil
 | n :: r=>.cons (.int n) (wm2 r)
theorem zj5 {K:Fg} {H:Hp} {a:Addr} {ns:List Int} {sp:Sp3} (hO:Only H) (hS:SqL K H a (ns.map V.int)) (h:sp [.fls (ns.map D.int)] (λ _=>none) (λ d _=>d=.bl true)) :
    lift K sp [.ref a] H (λ v _=>v=.bl true) λ _ _ _=>False:=by
 have hF:SqF K H a (ns.map V.int):=by
  rcases hS with (h1 | ⟨o,h1⟩) | h1
  ·rcases hO a with z | ⟨o,xs,z⟩
   ·rw [h1] at z; cases z
   ·rw [h1] at z; cases z
  ·exact .inl ⟨o,h1⟩
  ·exact .inr h1
 refine ⟨_,_,_,.cons (.fls hF (wm2 ns)) .nil,(⟨λ p xs e=>(by cases e),λ p c fs e=>(by cases e),λ p kvs e=>(by cases e)⟩),h,λ d μ' v H' q _ r _=>?_⟩
 subst q
 cases r
 rfl
end Pv
namespace Pv
open PySem PySem.Spec PyProof.Rows L2
open PySem.AutoSeq1 (wpAny_loadPart')
theorem zs2 (l:Addr) (items:Array Value) (n:Nat) (dd:Option Addr) (sl:Array (Option Value)) (x:Int) (u:Tok) (hc0:(decide (x < -(2 ^ 63)) || decide (x ≥ 2 ^ 63))=false) (hc1:(items.isEmpty || x == 1)=true) :
    Meets (Builtin.«tuple.__mul__» ⟨[.ref l,.int x u],[]⟩) (λ _ R s=>s.heap.get? l=some { cls:=.type "tuple",dict:=dd,data:=.seq items n,slots:=sl } /\ R (.ok (.ret (.ref l))) s) :=
 .of_wp λ prog w A R s h=>by
  obtain ⟨hp,g,d,tk,os⟩:=s; obtain ⟨hl,h⟩:=h
  have f1:=AutoSeq1.idx_int
  have f2:=AutoSeq1.sub_tuple_tuple
  wp_walk using wpAny_loadPart' hl
  refine wpAny_ite_false (decide_eq_false (by rw [hc0]; exact Bool.false_ne_true)) ?_
  wp_walk using wpAny_loadPart' hl
  exact ⟨_,rfl,h⟩
theorem ys2 (l:Addr) (items:Array Value) (n:Nat) (dd:Option Addr) (sl:Array (Option Value)) (x:Int) (u:Tok) (hc0:(decide (x < -(2 ^ 63)) || decide (x ≥ 2 ^ 63))=false) (hc1:(items.isEmpty || x == 1)=false) (hc2:(decide (x<=0) || items.isEmpty)=true) :
    Meets (Builtin.«tuple.__mul__» ⟨[.ref l,.int x u],[]⟩) (λ _ R s=>s.heap.get? l=some { cls:=.type "tuple",dict:=dd,data:=.seq items n,slots:=sl } /\ R (.ok (.ret (.ref s.heap.objs.size))) { s with heap:=s.heap.push { cls:=.type "tuple",data:=.seq #[] } }) :=
 .of_wp λ prog w A R s h=>by
  obtain ⟨hp,g,d,tk,os⟩:=s; obtain ⟨hl,h⟩:=h
  have f1:=AutoSeq1.idx_int
  have f2:=AutoSeq1.sub_tuple_tuple
  wp_walk using wpAny_loadPart' hl
  refine wpAny_ite_false (decide_eq_false (by rw [hc0]; exact Bool.false_ne_true)) ?_
  wp_walk using wpAny_loadPart' hl
  exact ⟨_,rfl,h⟩
theorem wr2 (l:Addr) (items:Array Value) (n:Nat) (dd:Option Addr) (sl:Array (Option Value)) (x:Int) (u:Tok) (hc0:(decide (x < -(2 ^ 63)) || decide (x ≥ 2 ^ 63))=false) (hc1:(items.isEmpty || x == 1)=false) (hc2:(decide (x<=0) || items.isEmpty)=false)
    (hc3:¬ ((items.size:Int) * x > (2 ^ 63 - 1) / 8)) (hc4:Builtin.Tuple.tupleTooMany ((items.size:Int) * x)=false) (hz:((List.replicate x.toNat items).foldl (· ++ ·) #[]).size<=sizeLine) :
    Meets (Builtin.«tuple.__mul__» ⟨[.ref l,.int x u],[]⟩) (λ _ R s=>s.heap.get? l=some { cls:=.type "tuple",dict:=dd,data:=.seq items n,slots:=sl } /\ R (.ok (.ret (.ref s.heap.objs.size))) { s with heap:=s.heap.push { cls:=.type "tuple",data:=.seq ((List.replicate x.toNat items).foldl (· ++ ·) #[]) } }) :=
 .of_wp λ prog w A R s h=>by
  obtain ⟨hp,g,d,tk,os⟩:=s; obtain ⟨hl,h⟩:=h
  have f1:=AutoSeq1.idx_int
  have f2:=AutoSeq1.sub_tuple_tuple
  wp_walk using wpAny_loadPart' hl
  refine wpAny_ite_false (decide_eq_false (by rw [hc0]; exact Bool.false_ne_true)) ?_
  wp_walk using wpAny_loadPart' hl
  refine wpAny_ite_false (decide_eq_false hc3) ?_
  wp_walk using wpAny_loadPart' hl
  all_goals try (refine wpAny_ite_false (decide_eq_false (by rw [hc4]; exact Bool.false_ne_true)) ?_)
  have hsz:((List.replicate x.toNat items).foldl (· ++ ·) #[]).size<=sizeLine:=hz
  wp_walk using wpAny_loadPart' hl
  exact ⟨_,rfl,h⟩
theorem wm1:fillsNumberSlot (.type "tuple") "mul" = pure false :=
 PySem.fillsNumberSlot_seq (id := "tuple.__mul__") (r:=some (.builtin "tuple.__rmul__")) F.slot_tuple_mul.lookup (by decide +kernel) F.slot_tuple_rmul.lookup (by decide +kernel)
theorem wl1:seqRepeat? (.type "tuple")=pure (some (.builtin "tuple.__mul__")):=by
 unfold seqRepeat?
 rw [PySem.seqSlot_of F.slot_tuple_mul.lookup (T := "tuple") (name := "__mul__") (id := "tuple.__mul__") (by decide +kernel),PySem.seqSlot_of F.slot_tuple_rmul.lookup (T := "tuple") (name := "__rmul__") (id := "tuple.__rmul__") (by decide +kernel)]
 rfl
theorem xt1 (a:Int) (t:Tok) (l:Addr) (its:Array Value) (n:Nat) (dd:Option Addr) (sl:Array (Option Value)) :
    Meets (Builtin.«int.__rmul__» ⟨[.int a t,.ref l],[]⟩) (λ _ R s=>s.heap.get? l=some ⟨.type "tuple",dd,.seq its n,sl⟩ /\ R (.ok (.ret .notImplemented)) s) :=
 .of_wp λ prog w A R s h=>by
  obtain ⟨hp,g,d,tk,os⟩:=s
  obtain ⟨hl,h⟩:=h
  wp_walk using wpAny_loadPart' hl
  exact ⟨_,rfl,h⟩
section
variable {X:Cx}
noncomputable def wh9 (K:Fg):R2:=λ x y H Q=>∃ a k xs,x=.ref a /\ y=.int k /\ SqT K H a xs /\ -(2 ^ 62)<=k /\ k < 2 ^ 62 /\ xs.length * k.toNat<=1000000 /\ (xs=[] \/ k=1->Q (.ref a) H) /\ ∀ p,H p=none->Q (.ref p) (upd H p (.tup (List.replicate k.toNat xs).flatten))
theorem op_repT:OpR X (binaryOp .Mult) (wh9 X.K):=by
 intro pins s σ H x y v u Q I rx ry h
 obtain ⟨a,k,xs,rfl,rfl,hq,h1,h2,hz,q1,q2⟩:=h
 cases rx
 obtain ⟨t,rfl⟩:=ry
 obtain ⟨its,r,⟨⟨cls,dd,data,sl⟩,ho,hc,n,hd⟩,hl⟩:=I.tuple hq
 simp only at hc hd
 subst hc hd
 have hlen:its.length=xs.length:=r.length.symm
 have c0:(decide (k < -(2 ^ 63)) || decide (k ≥ 2 ^ 63))=false:=by
  rw [decide_eq_false (by omega),decide_eq_false (by omega)]; rfl
 refine wpAny_binaryOp_repeat_ref (T := "tuple") (U := "int") (by decide) ⟨_,ho,rfl⟩ (λ s'=>typeIs_int s' k t) wm1 F.fills_int_mul F.slot_int_rmul wl1 F.slot_int_index.lookup
  (call_meets F.slot_int_rmul (typeIs_int s k t) F.entry_int_rmul (F.args_int_rmul_2 _ _) (xt1 k t a its.toArray n dd sl) ⟨ho,rfl,⟨_,ho,rfl⟩,?_⟩)
 by_cases e1:xs=[] \/ k=1
 ·refine call_meets F.slot_tuple_mul ⟨_,ho,rfl⟩ F.entry_tuple_mul (F.args_tuple_mul_2 _ _) (zs2 a its.toArray n dd sl k t c0 ?_) ⟨ho,⟨.ref a,H,I,rfl,q1 e1⟩⟩
  rcases e1 with e1 | e1
  ·subst e1; cases r; rfl
  ·subst e1; simp
 ·have hne:its ≠ []:=λ z=>e1 (.inl (by subst z; cases r; rfl))
  have hk1:k ≠ 1:=λ z=>e1 (.inr z)
  have c1:(its.toArray.isEmpty || k == 1)=false:=by simp [hne,hk1]
  have hf:H s.heap.objs.size=none:=I.hok.fresh (Nat.le_refl _)
  by_cases e2:k<=0
  ·have hk0:k.toNat=0:=by omega
   refine call_meets F.slot_tuple_mul ⟨_,ho,rfl⟩ F.entry_tuple_mul (F.args_tuple_mul_2 _ _) (ys2 a its.toArray n dd sl k t c0 c1 (by simp [e2])) ⟨ho,?_⟩
   refine ⟨.ref _,upd H s.heap.objs.size (.tup []),I.laid (t':=s.toks) (λ b ob q=>Heap.get?_push_of_some _ q) (Nat.le_refl _) ⟨by rw [sizeLine_eq]; decide,[],.nil,IsTup.new _ _⟩,rfl,?_⟩
   have:=q2 _ hf
   rw [hk0] at this
   exact this
  ·have fr:List.foldl (· ++ ·) #[] (List.replicate k.toNat its.toArray)=(List.replicate k.toNat its).flatten.toArray:=by
     have:=zp1 its k.toNat []
     rw [List.nil_append] at this
     exact this
   have hb:(1000000:Nat)<=sizeLine:=by rw [sizeLine_eq]; decide
   have hm:(its.toArray.size:Int) * k<=1000000:=by
    rw [List.size_toArray,hlen]
    have:((xs.length * k.toNat:Nat):Int)<=1000000:=by omega
    rw [Int.natCast_mul,Int.toNat_of_nonneg (by omega)] at this
    exact this
   have hsz:(List.replicate k.toNat its).flatten.length<=sizeLine:=by rw [yu2,Nat.mul_comm,hlen]; omega
   refine call_meets F.slot_tuple_mul ⟨_,ho,rfl⟩ F.entry_tuple_mul (F.args_tuple_mul_2 _ _) (wr2 a its.toArray n dd sl k t c0 c1 (by simp [hne]; omega) (by omega) ?_ (by rw [fr,List.size_toArray]; exact hsz)) ⟨ho,?_⟩
   ·unfold Builtin.Tuple.tupleTooMany
    rw [decide_eq_false (by omega)]
   ·rw [fr]
    refine ⟨.ref _,upd H s.heap.objs.size (.tup (List.replicate k.toNat xs).flatten),I.laid (t':=s.toks) (λ b ob q=>Heap.get?_push_of_some _ q) (Nat.le_refl _) ⟨?_,_,r.rep k.toNat,IsTup.new _ _⟩,rfl,q2 _ hf⟩
    rw [yu2,Nat.mul_comm]; omega
theorem wv0:RO X (binaryOp .Mult) mulR:=by
 refine ⟨_,op_mulB.or (op_repT.or wk8),λ x y v u H Q μ Q3 m rx ry h k=>?_⟩
 cases ry with
 | int j =>
  cases rx with
  | int i=>exact .inl ⟨i,j,rfl,rfl,h.1,k _ _ _ _ h.2 (Kp.refl _) (.int _) m⟩
  | tup hq rs =>
   rename_i a l vs
   refine .inr (.inl ⟨a,j,vs,rfl,rfl,hq,h.1.1.1,h.1.1.2,by rw [<- rs.length]; exact h.1.2,λ e=>?_,λ p hp=>?_⟩)
   ·rcases e with e | e
    ·subst e; cases rs
     have h2:=h.2
     have e:(List.replicate j.toNat ([]:List D)).flatten=[]:=by simp
     rw [e] at h2
     exact k _ _ _ _ h2 (Kp.refl _) (.tup hq .nil) m
    ·subst e
     have h2:=h.2
     have e:(List.replicate (1:Int).toNat l).flatten=l:=by simp
     rw [e] at h2
     exact k _ _ _ _ h2 (Kp.refl _) (.tup hq rs) m
   ·exact k _ _ _ _ h.2 (Kp.new hp) (.tup (SqT.of wj0) ((rs.rep _).mono (Kp.new hp))) (m.newT hp)
  | ref p =>
   dsimp only [mulR] at h
   cases e:μ p with
   | none=>rw [e] at h; exact h.elim
   | some oo =>
    cases oo with
    | ins _ _=>rw [e] at h; exact h.elim
    | dct _=>rw [e] at h; exact h.elim
    | lst l =>
     rw [e] at h
     obtain ⟨vs,hv,rv⟩:=m p l e
     have hb:(1000000:Nat)<=sizeLine:=by rw [sizeLine_eq]; decide
     refine .inr (.inr ⟨p,j,vs,rfl,rfl,hv,by have:=h.1.1.1; omega,by have:=h.1.1.2; omega,by rw [<- rv.length]; exact Nat.le_trans h.1.2 hb,λ t ht=>?_⟩)
     exact k _ _ _ _ (h.2 t (m.free ht)) (Kp.new ht) (.ref t) (m.newL ht (rv.rep _))
  | _=>exact False.elim h
 | _=>cases rx <;> exact False.elim h
theorem yt4:CallR X (.type "int") (λ xs H Q=>∃ z n,xs=[.str z] /\ PySem.intText? z=some n /\ z.length<=640 /\ Q (.int n) H):=by
 intro pins s σ H xs us Q I r h
 obtain ⟨z,n,rfl,e,hl,q⟩:=h
 obtain ⟨u,rfl,t,rfl⟩:=yh2 r
 exact PySem.W.KIN.call_text e hl ⟨.int n,H,I.tok _,⟨_,rfl⟩,q⟩
theorem zi9:RC X (.type "int") intR:=by
 refine ⟨_,call_int1.or yt4,λ xs vs H Q μ Q3 m r h k=>?_⟩
 cases r with
 | nil=>exact False.elim h
 | cons r1 r2 =>
  cases r2 with
  | cons _ _=>cases r1 <;> exact False.elim h
  | nil =>
   cases r1 with
   | int i=>exact .inl (.inl ⟨i,rfl,k _ _ _ _ h (Kp.refl _) (.int _) m⟩)
   | bl b=>exact .inl (.inr ⟨b,rfl,k _ _ _ _ h (Kp.refl _) (.int _) m⟩)
   | str z =>
    dsimp only [intR] at h
    cases e:PySem.intText? z with
    | none=>rw [e] at h; exact h.elim
    | some n =>
     rw [e] at h
     exact .inr ⟨z,n,rfl,e,h.1,k _ _ _ _ h.2 (Kp.refl _) (.int _) m⟩
   | _=>exact False.elim h
theorem zu3 {prog:Program} {w:World} {A:Around} {E:Value->Shared->Prop} {s:Shared} {t sl:Addr} {items:Array Value} {vl vu:Value} {lo hi:Option Int} {Q:Value->Shared->Prop} (ht:IsTup s.heap t items) (hs:s.heap.IsSliceOf sl vl vu .none) (pl:IsPart vl lo) (pu:IsPart vu hi)
    (hw:HT.sIx items.size 0 lo=0 /\ HT.sIx items.size items.size hi=items.size) (h:Q (.ref t) s):wpAny (model prog w) A (getItem (.ref t) (.ref sl)) Q E s:=by
 obtain ⟨os,hos,hcs,hds⟩:=id hs
 have hTs:s.TypeIs (.ref sl) "slice" := ⟨os,hos,hcs⟩
 unfold getItem
 try with_reducible refine wpAny_holding ?_
 first | refine wpAny_bind (wpAny_pure ?_) | skip
 refine wpAny_bind (wpAny_sequenceKey ht.typeIs (by decide) ?_)
 refine wpAny_bind (wpAny_callSpecial?_slot ht.typeIs (name:=Str.ofString "__getitem__") PyProof.Rows.slot_tuple_getitem (wpAny_call_entry PyProof.Rows.slot_tuple_getitem ht.typeIs entry_tuple_getitem ?_ (args_tuple_getitem _ _)))
 show wpAny _ _ (Builtin.Tuple.tupleItemsOf (.ref t) >>= _) _ _ s
 refine wpAny_bind (tupleItemsOf_ ht ?_)
 refine wpAny_bind (wpAny_typeOf hTs ?_)
 rw [if_pos (by decide)]
 refine wpAny_bind (HT.sliceApplied_gen hs pl pu ?_)
 rw [hw.1,hw.2]
 show wpAny _ _ (if ((((0:Nat):Int) == 0 && (1:Int) == 1 && (items.size - 0) == items.size)=true) then _ else _) _ _ s
 rw [if_pos (by simp)]
 refine wpAny_bind (m:=Builtin.Tuple.tupleIsExact _) (wpAny_bind (wpAny_typeOf ht.typeIs (wpAny_pure ?_)))
 rw [if_pos (by decide)]
 refine wpAny_bind (wpAny_rule ?_)
 first
  | exact wpAny_pure ⟨_,rfl,wpAny_pure h⟩
  | exact wpAny_bind (wpAny_pure (wpAny_pure ⟨_,rfl,wpAny_pure h⟩))
  | exact wpAny_bind (wpAny_bind (wpAny_pure (wpAny_pure (wpAny_pure ⟨_,rfl,wpAny_pure h⟩))))
noncomputable def rSlA (K:Fg):V->Option Int->Option Int->Hp->VK->Prop:=λ x lo hi H Q=>∃ a xs,x=.ref a /\ SqT K H a xs /\ (cutV xs lo hi=xs->Q (.ref a) H) /\ ∀ p,H p=none->Q (.ref p) (upd H p (.tup (cutV xs lo hi)))
theorem sl_tupA:SlR X (rSlA X.K):=by
 intro pins s σ H x v vl vu lo hi sl Q I rx hs pl pu h
 obtain ⟨a,xs,rfl,hx,q1,q2⟩:=h
 by_cases hw:HT.sIx xs.length 0 lo=0 /\ HT.sIx xs.length xs.length hi=xs.length
 ·cases rx
  obtain ⟨its,r,ht,hz⟩:=I.tuple hx
  have hlen:its.toArray.size=xs.length:=by rw [List.size_toArray]; exact r.length.symm
  have e:cutV xs lo hi=xs:=by unfold cutV; rw [hw.1,hw.2]; simp
  exact ⟨"tuple",_,PyProof.Rows.slot_tuple_getitem.lookup,ht.typeIs,zu3 ht hs pl pu (by rw [hlen]; exact hw) ⟨.ref a,H,I,rfl,q1 e⟩⟩
 ·exact wl7 pins s σ H _ v vl vu lo hi sl Q I rx hs pl pu ⟨a,xs,rfl,hx,hw,q2⟩
theorem wi6:∀ (n d:Nat) (o:Option Int),HT.sIx n d o=sIx3 n d o
 | _,_,none=>rfl
 | _,_,some _=>rfl
theorem RelDs.cut {K:Fg} {H:Hp} {l:List D} {vs:List V} (r:RelDs K H l vs) (lo hi:Option Int):RelDs K H (cut3 l lo hi) (cutV vs lo hi):=by
 unfold cut3 cutV
 rw [<- r.length]
 simp only [wi6]
 exact (r.drop _).take _
noncomputable def RdP (K:Fg) (tv:TO) (t:TO3):Prop:=∀ σ H Q ρ μ Q3,RSt K H ρ σ->RelM K μ H->t ρ μ Q3->(∀ o μ' H',Q3 o μ'->Kp H H'->RelM K μ' H'->Q o H')->tv σ H Q
noncomputable def RP (X:Cx) (e:Option Expr) (t:TO3):Prop:=∃ tv,PO X e tv /\ RdP X.K tv t
theorem yj6:RP X none np3:=⟨_,wo6,λ σ H Q ρ μ Q3 s m h k=>k _ _ _ h (Kp.refl _) m⟩
theorem xj6 {e:Expr} {te:TE3} (h:RE X e te):RP X (some e) (pt3 te):=by
 obtain ⟨tv,p,r⟩:=h
 refine ⟨_,zo6 p,λ σ H Q ρ μ Q3 s m h k=>r σ H _ ρ μ _ s m h λ d μ1 v H1 h1 k1 r1 m1=>?_⟩
 cases r1 with
 | int i=>exact ⟨i,rfl,k _ _ _ h1 k1 m1⟩
 | _=>exact False.elim h1
noncomputable def RL (X:Cx) (r3:D->Option Int->Option Int->Mu->VK3->Prop):Prop:=∃ r,SlR X r /\ ∀ x v lo hi H Q μ Q3,RelM X.K μ H->RelD X.K H x v->r3 x lo hi μ Q3->Ks X.K H Q3 Q->r v lo hi H Q
noncomputable def rSlS:V->Option Int->Option Int->Hp->VK->Prop:=λ x lo hi H Q=>∃ z:Str,x=.str z /\ z.length<=sizeLine /\ Q (.str ⟨(cut3 z.cps.toList lo hi).toArray⟩) H
theorem zk7 (lo hi:Option Int) (n:Nat):Builtin.Str.strSliceIndices lo hi 1 n=sliceRange ((sIx3 n 0 lo:Nat):Int) ((sIx3 n n hi:Nat):Int) 1:=by
 unfold Builtin.Str.strSliceIndices
 have a1:∀ (d:Nat) (v:Option Int),(match v with | none=>((d:Nat):Int) | some i=>(if (1:Int) > 0 then max 0 (min (if i < 0 then i + (n:Int) else i) (n:Int)) else max (-1) (min (if i < 0 then i + (n:Int) else i) ((n:Int) - 1))))=((sIx3 n d v:Nat):Int):=λ d v=>by
  cases v with
  | none=>rfl
  | some i =>
   simp only [sIx3,show (1:Int) > 0 by decide,if_true]
   by_cases h:i < 0
   ·simp only [h,if_true]; omega
   ·simp only [h,if_false]; omega
 have e1:=a1 0 lo
 have e2:=a1 n hi
 simp only [show (1:Int) > 0 by decide,if_true] at e1 e2 ⊢
 rw [<- e1,<- e2]
 cases lo <;> cases hi <;> rfl
theorem ym7 (n:Nat) (o:Option Int):sIx3 n n o<=n:=by
 cases o with
 | none=>exact Nat.le_refl _
 | some v =>
  show (if v < 0 then (v + (n:Int)).toNat else min v.toNat n)<=n
  split <;> omega
theorem xm7:SlR X rSlS:=by
 intro pins s σ H x v vl vu lo hi sl Q I rx hs pl pu h
 obtain ⟨z,rfl,hz,q⟩:=h
 obtain ⟨t,rfl⟩:=rx
 refine ⟨"str",_,F.slot_str_getitem.lookup,typeIs_str _ _ _,?_⟩
 have hl:∃ l:Option (Int × Tok),partValue l=vl /\ l.map (·.1)=lo:=by
  cases pl with
  | none=>exact ⟨none,rfl,rfl⟩
  | int i t=>exact ⟨some (i,t),rfl,rfl⟩
 have hu:∃ u:Option (Int × Tok),partValue u=vu /\ u.map (·.1)=hi:=by
  cases pu with
  | none=>exact ⟨none,rfl,rfl⟩
  | int i t=>exact ⟨some (i,t),rfl,rfl⟩
 obtain ⟨l,rfl,rfl⟩:=hl
 obtain ⟨u,rfl,rfl⟩:=hu
 refine wpAny_getItem_str_slice (l:=l) (u:=u) (st:=none) hs rfl ?_
 have e:(slicePicked z l u none).filterMap (z.cps[·]?)=cut3 z.cps.toList (l.map (·.1)) (u.map (·.1)):=by
  unfold slicePicked
  show (Builtin.Str.strSliceIndices _ _ 1 z.length).filterMap (z.cps[·]?)=_
  rw [zk7,sliceRange_one,pick_run]
  unfold cut3
  rw [Array.length_toList]
  rfl
 unfold sliceMade
 split
 ·next hw =>
  have hlen:(slicePicked z l u none).length=z.length:=by
   rw [Bool.and_eq_true] at hw
   simpa using hw.2
  have ez:cut3 z.cps.toList (l.map (·.1)) (u.map (·.1))=z.cps.toList:=by
   have h1:(Builtin.Str.strSliceIndices (l.map (·.1)) (u.map (·.1)) 1 z.length).length=z.length:=hlen
   rw [zk7,sliceRange_one,List.length_map,List.length_range] at h1
   have h2:=ym7 z.length (u.map (·.1))
   have hs:z.length=z.cps.size:=rfl
   unfold cut3
   rw [Array.length_toList,<- hs]
   rcases Nat.eq_zero_or_pos z.length with h0 | h0
   ·have:z.cps.toList=[]:=List.eq_nil_of_length_eq_zero (by rw [Array.length_toList,<- hs]; exact h0)
    rw [this]; simp
   ·have ha:sIx3 z.length 0 (l.map (·.1))=0:=by omega
    rw [ha,List.drop_zero]
    exact List.take_of_length_le (by rw [Array.length_toList,<- hs]; omega)
  rw [ez] at q
  exact ⟨.str z,H,I,⟨t,rfl⟩,q⟩
 ·rw [e]
  refine ⟨?_,.str _,H,I.tok _,⟨_,rfl⟩,q⟩
  refine Nat.le_trans ?_ hz
  show (cut3 z.cps.toList (l.map (·.1)) (u.map (·.1))).toArray.size<=z.cps.size
  rw [List.size_toArray]
  unfold cut3
  rw [List.length_take,List.length_drop,Array.length_toList]
  omega
theorem q_sl:RL X slR:=by
 refine ⟨_,(sl_tupA.or xh6).or xm7,λ x v lo hi H Q μ Q3 m rx h k=>?_⟩
 cases rx with
 | str z=>exact .inr ⟨z,rfl,h.1,k _ _ _ _ h.2 (Kp.refl _) (.str _) m⟩
 | tup hq rs =>
  refine .inl <| .inl ⟨_,_,rfl,hq,λ e=>?_,λ p hp=>k _ _ _ _ h (Kp.new hp) (.tup (SqT.of wj0) ((rs.cut lo hi).mono (Kp.new hp))) (m.newT hp)⟩
  refine k _ _ _ _ h (Kp.refl _) (.tup hq ?_) m
  have:=rs.cut lo hi
  rw [e] at this
  exact this
 | fls hq rs=>exact .inl <| .inr ⟨_,_,rfl,hq.l,λ p hp=>k _ _ _ _ (h p (m.free hp)) (Kp.new hp) (.ref p) (m.newL hp (rs.cut lo hi))⟩
 | ref p =>
  dsimp only [slR] at h
  cases e:μ p with
  | none=>rw [e] at h; exact h.elim
  | some oo =>
   cases oo with
   | ins _ _=>rw [e] at h; exact h.elim
   | dct _=>rw [e] at h; exact h.elim
   | lst l =>
    rw [e] at h
    obtain ⟨vs,hv,rs⟩:=m p l e
    exact .inl <| .inr ⟨p,vs,rfl,SqL.of hv,λ t ht=>k _ _ _ _ (h t (m.free ht)) (Kp.new ht) (.ref t) (m.newL ht (rs.cut lo hi))⟩
 | _=>exact False.elim h
theorem wd5 {e:Expr} {te:TE3} {lo hi:Option Expr} {tl th:TO3} {pos p2:Pos} {r3:D->Option Int->Option Int->Mu->VK3->Prop} (hr:RL X r3) (he:RE X e te) (hl:RP X lo tl) (hu:RP X hi th):RE X (.Subscript e (.Slice lo hi none p2) pos) (sl3 r3 te tl th):=by
 obtain ⟨r,pr,rr⟩:=hr
 obtain ⟨va,pa,ra⟩:=he
 obtain ⟨vb,pb,rb⟩:=hl
 obtain ⟨vc,pc,rc⟩:=hu
 exact ⟨_,xg5 pr pa pb pc,λ σ H Q ρ μ Q3 s m h k=>ra σ H _ ρ μ _ s m h λ x μ1 v H1 h1 k1 r1 m1=>rb σ H1 _ ρ μ1 _ (s.mono k1) m1 h1 λ l μ2 H2 h2 k2 m2=>rc σ H2 _ ρ μ2 _ ((s.mono k1).mono k2) m2 h2 λ u μ3 H3 h3 k3 m3 =>
  rr x v l u H3 Q μ3 Q3 m3 (r1.mono (k2.trans k3)) h3 (k.after (k1.trans (k2.trans k3)))⟩
end
end Pv
namespace Pv
open PySem PySem.Spec PyProof.Rows L2
open PySem.AutoSeq1 (wpAny_loadPart')
section
variable {prog:Program} {w:World} {A:Around} {R:Result->Shared->Prop} {I:Addr} {fp wr:List Addr} {n:Nat} {P:Nat->Value->Prop} {St:Nat->Heap->Prop}
end
section
variable {prog:Program} {w:World} {A:Around} {E:Value->Shared->Prop} {s:Shared}
end
section
variable {X:Cx}
end
end Pv
namespace Pv
open PySem PySem.Spec PyProof.Rows L2
noncomputable def yi1 (cells:List (Str × Addr)):List (Str × NameKind)->List (Str × Addr)->List (Str × Addr)
 | [],acc=>acc
 | (n,k) :: r,acc=>if k == .free then yi1 cells r ((n,(cells.lookup n).getD 0) :: acc) else yi1 cells r acc
theorem xf2 {scope:Scope} {env:Env} (h:∀ y ∈ scope.names,y.2=.free->(env.cells.lookup y.1).isSome=true):closureFor scope env=pure (yi1 env.cells scope.names []):=by
 unfold closureFor
 have key:∀ (l:List (Str × NameKind)) (acc:List (Str × Addr)),(∀ y ∈ l,y.2=.free->(env.cells.lookup y.1).isSome=true) ->
     (forIn l acc (λ x r=>if (x.2 == NameKind.free)=true then do let c <- cellOf env x.1; pure (ForInStep.yield ((x.1,c) :: r)) else pure (ForInStep.yield r)):Sem (List (Str × Addr)))=pure (yi1 env.cells l acc):=by
  intro l
  induction l with
  | nil=>intro acc _; rfl
  | cons y r ih =>
   intro acc hl
   obtain ⟨n,k⟩:=y
   rw [List.forIn_cons]
   have ih':=λ a=>ih a λ z hz=>hl z (List.mem_cons_of_mem _ hz)
   by_cases hk:k=.free
   ·subst hk
    have hs:=hl (n,.free) (List.mem_cons_self ..) rfl
    obtain ⟨c,hc⟩:=Option.isSome_iff_exists.mp hs
    have ec:cellOf env n=pure c:=by unfold cellOf; rw [hc]
    simp only [yi1,ec,pure_bind,beq_self_eq_true,if_true,hc,Option.getD_some]
    exact ih' _
   ·have hk':(k == NameKind.free)=false:=by simpa using hk
    simp only [yi1,hk',Bool.false_eq_true,if_false,pure_bind]
    exact ih' _
 have:=key scope.names [] h
 refine Eq.trans ?_ this
 refine Eq.trans (bind_pure (forIn scope.names ([]:List (Str × Addr)) _:Sem (List (Str × Addr)))) ?_
 congr 1
theorem xr1 {cells:List (Str × Addr)} {x:Str} {c:Addr}:∀ (l:List (Str × NameKind)) (acc:List (Str × Addr)),(∀ y ∈ l,y.2=.free->(cells.lookup y.1).isSome=true)->(acc.lookup x=some c->cells.lookup x=some c) ->
    (yi1 cells l acc).lookup x=some c->cells.lookup x=some c
 | [],acc,_,ha,h=>ha h
 | (n,k) :: r,acc,hl,ha,h=>by
  unfold yi1 at h
  split at h
  ·next hk =>
   refine xr1 r _ (λ z hz=>hl z (List.mem_cons_of_mem _ hz)) (λ h2=>?_) h
   rw [List.lookup_cons] at h2
   split at h2
   ·next e =>
    have e':x=n:=eq_of_beq e
    subst e'
    obtain ⟨c',hc⟩:=Option.isSome_iff_exists.mp (hl (x,k) (List.mem_cons_self ..) (eq_of_beq hk))
    rw [hc] at h2
    simp only [Option.getD_some,Option.some.injEq] at h2
    rw [hc,h2]
   ·exact ha h2
  ·exact xr1 r acc (λ z hz=>hl z (List.mem_cons_of_mem _ hz)) ha h
theorem yr1 {cells:List (Str × Addr)} {x:Str}:∀ (l:List (Str × NameKind)) (acc:List (Str × Addr)),((∃ c,acc.lookup x=some c) \/ (x,NameKind.free) ∈ l)->∃ c,(yi1 cells l acc).lookup x=some c
 | [],acc,h=>by
  rcases h with h | h
  ·exact h
  ·cases h
 | (n,k) :: r,acc,h=>by
  unfold yi1
  split
  ·next hk =>
   refine yr1 r _ ?_
   by_cases e:x=n
   ·subst e
    left
    exact ⟨(cells.lookup x).getD 0,by rw [List.lookup_cons]; simp⟩
   ·rcases h with ⟨c,h⟩ | h
    ·left
     refine ⟨c,?_⟩
     rw [List.lookup_cons]
     have:(x == n)=false:=by simpa using e
     rw [this]; exact h
    ·right
     rcases List.mem_cons.mp h with h | h
     ·exact absurd (congrArg Prod.fst h) e
     ·exact h
  ·next hk =>
   refine yr1 r acc ?_
   rcases h with h | h
   ·exact .inl h
   ·rcases List.mem_cons.mp h with h | h
    ·cases h; exact absurd rfl hk
    ·exact .inr h
theorem CompSc.free {X:Cx} {NN:List Str} {scope:Scope} {js:List (Option Nat)} (hcell:∀ y ∈ scope.names,y.2 ≠ .cell) (hk:scope.kind=.function) (hfn:X.env.scope.kind=.function)
    (hn:∀ y ∈ scope.names,y.2=.local->scope.names.lookup y.1=some .local) (hfree:∀ y ∈ scope.names,y.2=.free->X.env.scope.names.lookup y.1=some .cell) (hlook:∀ y ∈ scope.names,y.2=.free->scope.names.lookup y.1=some .free)
    (hcl:∀ x,X.env.scope.names.lookup x=some .cell->(X.env.cells.lookup x).isSome=true) (len:js.length=NN.length)
    (hout:∀ i ∈ List.range js.length,∀ j,js.getD i none=some j->∃ x,NN[i]?=some x /\ X.N[j]?=some x /\ scope.names.lookup x=some .free) :
    CompSc X NN scope (yi1 X.env.cells scope.names []) js where
 clos:=xf2 λ y hy e=>hcl _ (hfree y hy e)
 cell:=hcell
 kind:=hk
 names:=hn
 sub:=λ x c h=>xr1 scope.names [] (λ y hy e=>hcl _ (hfree y hy e)) (λ h=>by simp at h) h
 has:=λ x h=>by
  refine yr1 scope.names [] (.inr ?_)
  have hm:∃ k,(x,k) ∈ scope.names /\ (k=.free \/ k=.cell):=by
   have key:∀ kk,(relabel scope X.env).names.lookup x=some kk->(kk=.cell \/ kk=.free)->∃ k,(x,k) ∈ scope.names /\ (k=.free \/ k=.cell):=λ kk hkk hc=>by
    have hmem:=yt0 hkk
    obtain ⟨⟨n,k⟩,hy,e⟩:=List.mem_map.mp hmem
    dsimp only at e
    split at e
    ·next hq =>
     cases e
     simp only [Bool.and_eq_true] at hq
     exact ⟨k,hy,.inl (by simpa using hq.1.1)⟩
    ·cases e
     exact ⟨kk,hy,hc.symm⟩
   rcases h with h | h
   ·exact key _ h (.inl rfl)
   ·exact key _ h (.inr rfl)
  obtain ⟨k,hk1,hk2⟩:=hm
  rcases hk2 with rfl | rfl
  ·exact hk1
  ·exact absurd rfl (hcell _ hk1)
 len:=len
 out:=λ i j h=>by
  have hi:i < js.length:=by
   rcases Nat.lt_or_ge i js.length with z | z
   ·exact z
   ·rw [List.getElem?_eq_none z] at h; cases h
  obtain ⟨x,e1,e2,e3⟩:=hout i (List.mem_range.mpr hi) j (by rw [List.getD_eq_getElem?_getD,h]; rfl)
  have hf:=hfree (x,.free) (yt0 e3) rfl
  refine ⟨x,e1,e2,.inr (.inl hf),by rw [hf]; simp,?_⟩
  left
  have key:∀ (l:List (Str × NameKind)),l.lookup x=some .free->(l.map λ (n,k)=>if (k == NameKind.free && X.env.scope.kind == .function && X.env.kindOf n == some .cell) then (n,NameKind.cell) else (n,k)).lookup x=some .cell:=λ l=>by
   induction l with
   | nil=>intro h; simp at h
   | cons y r ih =>
    obtain ⟨n,k⟩:=y
    intro h
    rw [List.lookup_cons] at h
    rw [List.map_cons,List.lookup_cons]
    by_cases e:x=n
    ·subst e
     simp only [beq_self_eq_true,Option.some.injEq] at h
     subst h
     have hkind:(X.env.kindOf x == some NameKind.cell)=true:=by
      show (X.env.scope.names.lookup x == some NameKind.cell)=true
      rw [hf]; rfl
     simp [hfn,hkind]
    ·have e':(x == n)=false:=by simpa using e
     rw [e'] at h
     have ih':=ih h
     by_cases hq:(k == NameKind.free && X.env.scope.kind == ScopeKind.function && X.env.kindOf n == some NameKind.cell)=true
     ·simp only [hq,if_true,e']; exact ih'
     ·simp only [hq,Bool.false_eq_true,if_false,e']; exact ih'
  exact key _ e3
theorem zw2 {CX:CXT} {P:Program} {w:World} {K:Fg} {mg:Str->Option Value} {base:Heap} {N:List Str} {qual:Str} {sc:Scope} {f:Addr} {cdv:Value} {A:Around} {outer:List Env} {s:Shared} {H:Hp} {E:XK} {NN:List Str} {scope:Scope} {js:List (Option Nat)}
    (hcell:∀ y ∈ scope.names,y.2 ≠ .cell:=by decide +kernel) (hk:scope.kind=.function:=by rfl) (hfn:sc.kind=.function:=by rfl)
    (hn:∀ y ∈ scope.names,y.2=.local->scope.names.lookup y.1=some .local:=by decide +kernel) (hfree:∀ y ∈ scope.names,y.2=.free->sc.names.lookup y.1=some .cell:=by decide +kernel)
    (hlook:∀ y ∈ scope.names,y.2=.free->scope.names.lookup y.1=some .free:=by decide +kernel) (len:js.length=NN.length:=by rfl)
    (hout:∀ i ∈ List.range js.length,∀ j ∈ (js.getD i none).toList,∃ x ∈ NN[i]?.toList,N[j]?=some x /\ scope.names.lookup x=some .free:=by decide +kernel) :
    CompSc (cxOf CX P w K mg base N qual sc f cdv A outer s H E).nox NN scope (yi1 (cxOf CX P w K mg base N qual sc f cdv A outer s H E).nox.env.cells scope.names []) js :=
 CompSc.free (X:=(cxOf CX P w K mg base N qual sc f cdv A outer s H E).nox) hcell hk hfn hn hfree hlook (λ x h=>by
  obtain ⟨c,hc⟩:=yf2 (n:=_) h
  exact Option.isSome_iff_exists.mpr ⟨c,hc⟩) len λ i hi j hj=>by
   obtain ⟨x,h1,h2,h3⟩:=hout i hi j (by rw [hj]; simp)
   exact ⟨x,by simpa using h1,h2,h3⟩
end Pv
namespace Pv
open PySem
noncomputable def isN:D->Bool
 | .non=>true
 | _=>false
noncomputable def isNR (neg:Bool):R3:=λ x y μ Q=>match y with
 | .non=>Q (.bl (if neg then !isN x else isN x)) μ
 | _=>False
noncomputable def maxR:C3:=λ ds μ Q=>match ds with
 | [.int i,.int j]=>Q (.int (if j > i then j else i)) μ
 | _=>False
noncomputable def za1:C3:=λ ds μ Q=>match ds with
 | [.int i,.int j]=>Q (.int (if j < i then j else i)) μ
 | _=>False
end Pv
namespace Pv
open PySem PySem.Spec PyProof.Rows L2
section
variable {X:Cx}
theorem zn9 {K:Fg} {H:Hp} {x:D} {v:V} (r:RelD K H x v):decide (v=.non)=isN x:=by
 cases r <;> simp [isN]
theorem ze4:RO X (compareOp .Is) (isNR false):=by
 refine ⟨_,wl8,λ x y v u H Q μ Q3 m rx ry h k=>?_⟩
 cases ry with
 | non =>
  refine ⟨rfl,?_⟩
  rw [zn9 rx]
  exact k _ _ _ _ h (Kp.refl _) (.bl _) m
 | _=>exact False.elim h
theorem zq3 (hc:X.calm=true):RC X (.builtin "max") maxR:=by
 refine ⟨_,xt4 hc,λ xs vs H Q μ Q3 m r h k=>?_⟩
 cases r with
 | nil=>exact False.elim h
 | cons r1 r2 =>
  cases r1 with
  | int i =>
   cases r2 with
   | nil=>exact False.elim h
   | cons r2 r3 =>
    cases r2 with
    | int j =>
     cases r3 with
     | nil=>exact ⟨i,j,rfl,k _ _ _ _ h (Kp.refl _) (.int _) m⟩
     | cons _ _=>exact False.elim h
    | _=>exact False.elim h
  | _=>exact False.elim h
theorem zu0 (hc:X.calm=true):RC X (.builtin "min") za1:=by
 refine ⟨_,ws4 hc,λ xs vs H Q μ Q3 m r h k=>?_⟩
 cases r with
 | nil=>exact False.elim h
 | cons r1 r2 =>
  cases r1 with
  | int i =>
   cases r2 with
   | nil=>exact False.elim h
   | cons r2 r3 =>
    cases r2 with
    | int j =>
     cases r3 with
     | nil=>exact ⟨i,j,rfl,k _ _ _ _ h (Kp.refl _) (.int _) m⟩
     | cons _ _=>exact False.elim h
    | _=>exact False.elim h
  | _=>exact False.elim h
end
end Pv
namespace Pv
open PySem
noncomputable def xv6 (to:TE3):TE3:=λ ρ μ Q=>wa0 to nil3 ρ μ λ ds μ1=>match ds with
 | [.int j]=>((-(2 ^ 62)<=j /\ j < 2 ^ 62) /\ j<=2 ^ 24) /\ ∀ r,μ1 r=none->Q (.ref r) (updM μ1 r (.lst (rngD 0 j.toNat)))
 | _=>False
noncomputable def putD (f:Str) (v:D):List (Str × D)->List (Str × D)
 | []=>[(f,v)]
 | (g,x) :: r=>if g=f then (g,v) :: r else (g,x) :: putD f v r
noncomputable def fld3 (t:TE3) (c f:Str):TE3:=λ ρ μ Q=>t ρ μ λ d μ1=>match d with
 | .ref p=>match μ1 p with
  | some (.ins c' fs)=>c'=c /\ (match fs.lookup f with
   | some v=>Q v μ1
   | none=>False)
  | _=>False
 | _=>False
noncomputable def xt2 (to tv:TE3) (c f:Str):TS3:=λ D' ρ μ=>tv ρ μ λ y μ1=>to ρ μ1 λ d μ2=>match d with
 | .ref p=>match μ2 p with
  | some (.ins c' fs)=>(c'=c /\ fs.length < 1000) /\ D'.nx ρ (updM μ2 p (.ins c (putD f y fs)))
  | _=>False
 | _=>False
noncomputable def zo8 (c:Str) (sp:Sp3) (t:TA3):TE3:=λ ρ μ Q=>t ρ μ λ ds μ1=>∀ p,μ1 p=none->sp (.ref p :: ds) (updM μ1 p (.ins c [])) (λ v μ2=>v=.non /\ Q (.ref p) μ2)
noncomputable def zk4 (c m:Str) (sp:Sp3) (to:TE3) (t:TA3):TE3:=λ ρ μ Q=>to ρ μ λ d μ1=>match d with
 | .ref p=>match μ1 p with
  | some (.ins c' fs)=>(c'=c /\ fs.lookup m=none) /\ t ρ μ1 λ ds μ2=>sp (.ref p :: ds) μ2 Q
  | _=>False
 | _=>False
noncomputable abbrev XE3:=Str->Mu->Prop
end Pv
namespace Pv
open PySem PySem.Spec PyProof.Rows L2
section
variable {X:Cx}
end
section
variable {X:Cx} {e:Expr} {te:TE3} {p p2 pos pos2:Pos}
noncomputable def wy8 (ta:TA):TE:=λ σ H Q=>ta σ H λ xs H1=>∃ j:Int,xs=[.int j] /\ (-(2 ^ 62)<=j /\ j < 2 ^ 62 /\ j<=2 ^ 24) /\ ∀ r,H1 r=none->Q (.ref r) (upd H1 r (.lst ((List.range j.toNat).map λ i=>V.int (0 + (i:Nat)))))
theorem xn4 {acc:Array Value} {n:Nat} (h:ItemsOf (λ i v=>∃ t,v=.int (0 + (i:Int) * 1) t) acc n):∃ us:List Value,acc=us.toArray /\ Vals ((List.range n).map λ i=>V.int (0 + (i:Nat))) us:=by
 obtain ⟨h0,h2⟩:=h
 refine ⟨acc.toList,by simp,?_⟩
 have key:∀ (l:List Value) (k:Nat),(∀ i v,l[i]?=some v->∃ t,v=Value.int (0 + ((k + i:Nat):Int) * 1) t)->Vals ((List.range' k l.length).map λ i=>V.int (0 + (i:Nat))) l:=by
  intro l
  induction l with
  | nil=>intro k _; exact .nil
  | cons v l ih =>
   intro k hk
   rw [List.length_cons,List.range'_succ,List.map_cons]
   refine .cons ?_ (ih (k + 1) λ i v' e=>?_)
   ·obtain ⟨t,e⟩:=hk 0 v rfl
    exact ⟨t,by rw [e]; congr 1; omega⟩
   ·obtain ⟨t,e'⟩:=hk (i + 1) v' (by simpa using e)
    exact ⟨t,by rw [e']; congr 1; omega⟩
 have:=key acc.toList 0 λ i v e=>by
  obtain ⟨t,e'⟩:=h2 i v (by simpa using e)
  exact ⟨t,by rw [e']; congr 1; omega⟩
 rw [Array.length_toList,h0,<- List.range_eq_range'] at this
 exact this
theorem zq6 {ta:TA} (hc:X.calm=true) (hg:Gl X "list") (hm:X.mg "list" = none) (hg2:Gl X "range") (hm2:X.mg "range" = none) (ha:PA X [e] ta)
    (hs:starEach [e] X.env=[(false,eval e X.env)]:=by rfl)
    (hs2:starEach [.Call (.Name "range" p2) [e] [] pos2] X.env=[(false,eval (.Call (.Name "range" p2) [e] [] pos2) X.env)]:=by rfl) :
    PE X (.Call (.Name "list" p) [.Call (.Name "range" p2) [e] [] pos2] [] pos) (wy8 ta):=by
 intro pins s σ H Q I h
 refine Call_ (xx0 I hg hm za7 (PyProof.Rows.callWith_type1 ?_ hs2 rfl))
 rw [hs2]
 show wpAny _ _ (spliced ((false,eval (.Call (.Name "range" p2) [e] [] pos2) X.env) :: backTo pos (starEach [] X.env))) _ _ s
 refine Calls.spliced_cons ?_
 refine Call_ (xx0 I hg2 hm2 wn5 (PyProof.Rows.callWith_type1 (thn (ha pos2 pins s σ H _ I h) λ us s1 ⟨vs,H1,I1,r1,q1⟩=>?_) hs rfl))
 obtain ⟨j,e1,⟨j1,j2,j3⟩,k⟩:=q1
 subst e1
 cases r1 with
 | cons r rr =>
  cases rr
  obtain ⟨t,rfl⟩:=r
  refine call_range_1 ?_
  refine Calls.spliced_nil ?_
  have hsz':Builtin.Range.rangeSize 0 j 1=((j.toNat:Nat):Int):=by rw [rangeSize_one]; split <;> omega
  refine call_list_range (I.ok.hd hc) (IsRange.new ..) (small_one (by decide) (by decide) j1 j2) hsz' (by omega) λ h' tk acc' c' hk hS' hacc=>?_
  obtain ⟨us,rfl,rv⟩:=xn4 hacc
  have hk2:∀ b o,s1.heap.get? b=some o->h'.get? b=some o:=λ b o e=>hk b o (Heap.get?_push_of_some _ e)
  refine ⟨.ref _,_,I1.laid (t':=tk) hk2 (show s1.heap.objs.size<=_ by simp only [Heap.size_push]; exact Nat.le_succ _) (show ObjOk X.prog X.w _ h' _ (.lst _) from ⟨?_,us,c',rv,hS'⟩),rfl,k _ (I1.hok.fresh (by simp only [Heap.size_push]; exact Nat.le_succ _))⟩
  rw [List.length_map,List.length_range]
  have:(2:Nat) ^ 24<=sizeLine:=by decide
  omega
theorem yr2 {K:Fg} {H:Hp}:∀ (l:List Nat),RelDs K H (l.map λ i=>D.int (0 + (i:Nat))) (l.map λ i=>V.int (0 + (i:Nat)))
 | []=>.nil
 | x :: r=>.cons (.int _) (yr2 r)
theorem xk6 (he:RE X e te) (hm:X.mg "list" = none) (hm2:X.mg "range" = none) (hc:X.calm=true:=by rfl) (hg:Gl X "list" := by rfl) (hg2:Gl X "range" := by rfl) (hs:starEach [e] X.env=[(false,eval e X.env)]:=by rfl)
    (hs2:starEach [.Call (.Name "range" p2) [e] [] pos2] X.env=[(false,eval (.Call (.Name "range" p2) [e] [] pos2) X.env)]:=by rfl) :
    RE X (.Call (.Name "list" p) [.Call (.Name "range" p2) [e] [] pos2] [] pos) (xv6 te):=by
 obtain ⟨va,pa,ra⟩:=xa0 he zb0 hs
 refine ⟨_,zq6 hc hg hm hg2 hm2 pa hs hs2,λ σ H Q ρ μ Q3 s m h k=>ra σ H _ ρ μ _ s m h λ ds μ1 vs H1 h1 k1 r1 m1=>?_⟩
 cases r1 with
 | nil=>exact False.elim h1
 | cons r1 r2 =>
  cases r2 with
  | cons _ _=>cases r1 <;> exact False.elim h1
  | nil =>
   cases r1 with
   | int j =>
    dsimp only at h1
    exact ⟨j,rfl,⟨h1.1.1.1,h1.1.1.2,h1.1.2⟩,λ r hr=>k _ _ _ _ (h1.2 r (m1.free hr)) (k1.trans (Kp.new hr)) (.ref r) (m1.newL hr (yr2 _))⟩
   | _=>exact False.elim h1
end
end Pv
namespace L2
open PySem PySem.Spec PyProof.Rows
theorem zr2 {P:Program} {w:World} {K:PySem.W.Frag} {tg:Expr} (it:Addr) (lo:Int) (n:Nat):Turn P w K tg (Itr lo n) [it] it (λ i h=>IsLongIter h it (lo + (i:Nat) * 1) ((n:Int) - (i:Nat)) 1) where
 mem:=by simp
 obj:=λ i h st b hb=>by
  have e:b=it:=by simpa using hb
  subst e
  exact ⟨_,st,λ v z=>by
   have z':Data.fields _=Data.cell v:=z
   cases z'⟩
 keep:=λ i h h' st k=>k it (by simp) _ st
 item:=by
  intro X hP hw hK hc i pins s σ H E I hf st hg
  subst hP hw hK
  obtain ⟨f0,f1,f2,f3,f4,f5⟩:=hf it (by simp)
  have W:=Walks.longrange (prog:=X.prog) (w:=X.w) (I.ok.hd hc) it lo 1 n
  refine W.item i s _ _ hg st λ v h' tk hv st' kk=>?_
  obtain ⟨t,rfl⟩:=hv
  have I1:Inv X pins σ H { s with heap:=h',toks:=tk }:=I.turned (λ b o hb e=>kk b o (by simpa using hb) e) f0 f1 f3 f4 f5
  refine ⟨_,rfl,xp4 (s:={ s with heap:=h',toks:=tk }) (n := "longrange_iterator") st' rfl rfl (by decide) ⟨.int (lo + i),H,I1,⟨t,?_⟩,⟨rfl,rfl⟩,st',λ b hb=>(hf b hb).1⟩⟩
  rw [Int.mul_one]
 done:=by
  intro X hP hw hK hc i pins s σ H E I hf st hg
  subst hP hw hK
  obtain ⟨f0,f1,f2,f3,f4,f5⟩:=hf it (by simp)
  exact wpAny_pyNext_long_end (I.ok.hd hc) st (by have:n<=i:=hg; omega) λ h' eb=>⟨rfl,I.turned (t':=s.toks) (λ b o hb e=>eb b o hb e) f0 f1 f3 f4 f5⟩
 self:=λ _ _ _ _ _ st h=>wpAny_pyIter_longiter st h
section
variable {X:Cx} {tg:Expr}
theorem wd4 {pins:List (Addr × Obj)} {σ:St} {H:Hp} {s:Shared} {R:It->Hp->Prop} {E:Value->Shared->Prop} {lo hi:Int} {t u v:Tok} {tk:Nat} (I:Inv X pins σ H s)
    (q:R (Itr lo (hi - lo).toNat) H):wpAny (model X.prog X.w) X.A (pyIter (.ref s.heap.objs.size)) (PIE X pins σ tg R) E { s with heap:=s.heap.push { cls:=.type "range",data:=.fields #[.int lo t,.int hi u,.int 1 v] },toks:=tk }:=by
 have I1:Inv X pins σ H { s with heap:=s.heap.push { cls:=.type "range",data:=.fields #[.int lo t,.int hi u,.int 1 v] },toks:=tk }:=I.kept λ b o e=>Heap.get?_push_of_some _ e
 have e1:lo + ((0:Nat):Int) * 1=lo:=by simp
 have e2:(((hi - lo).toNat:Nat):Int) - ((0:Nat):Int)=Builtin.Range.rangeSize lo hi 1:=by rw [rangeSize_one]; split <;> omega
 cases hs:Builtin.Range.small lo hi 1 with
 | true =>
  refine wpAny_pyIter_range (IsRange.new ..) hs ?_
  refine ⟨(s.heap.push { cls:=.type "range",data:=.fields #[.int lo t,.int hi u,.int 1 v] }).objs.size,[(s.heap.push { cls:=.type "range",data:=.fields #[.int lo t,.int hi u,.int 1 v] }).objs.size],_,_,H,rfl,
   I1.kept (t':=tk) λ b o e=>Heap.get?_push_of_some _ e,yt1 _ lo (hi - lo).toNat,?_,λ b hb=>?_,q⟩
  ·show IsRangeIter _ _ (lo + ((0:Nat):Int) * 1) ((((hi - lo).toNat:Nat):Int) - ((0:Nat):Int)) 1
   rw [e1,e2]
   exact Heap.get?_push_size _ rfl
  ·have e:b=(s.heap.push { cls:=.type "range",data:=.fields #[.int lo t,.int hi u,.int 1 v] }).objs.size:=by simpa using hb
   subst e
   exact I1.fpOk (Nat.le_refl _) (I1.hok.fresh (Nat.le_refl _))
 | false =>
  refine wpAny_pyIter_longrange (IsRange.new ..) hs ?_
  refine ⟨(s.heap.push { cls:=.type "range",data:=.fields #[.int lo t,.int hi u,.int 1 v] }).objs.size,[(s.heap.push { cls:=.type "range",data:=.fields #[.int lo t,.int hi u,.int 1 v] }).objs.size],_,_,H,rfl,
   I1.kept (t':=tk) λ b o e=>Heap.get?_push_of_some _ e,zr2 _ lo (hi - lo).toNat,?_,λ b hb=>?_,q⟩
  ·show IsLongIter _ _ (lo + ((0:Nat):Int) * 1) ((((hi - lo).toNat:Nat):Int) - ((0:Nat):Int)) 1
   rw [e1,e2]
   exact Heap.get?_push_size _ rfl
  ·have e:b=(s.heap.push { cls:=.type "range",data:=.fields #[.int lo t,.int hi u,.int 1 v] }).objs.size:=by simpa using hb
   subst e
   exact I1.fpOk (Nat.le_refl _) (I1.hok.fresh (Nat.le_refl _))
noncomputable def wn9 (ta:TA):TI:=λ σ H R=>ta σ H λ vs H1=>∃ i j:Int,vs=[.int i,.int j] /\ R (Itr i (j - i).toNat) H1
theorem xh4 {a b:Expr} {ta:TA} {p pos:Pos} (hg:Gl X "range") (hm:X.mg "range" = none) (ha:PA X [a,b] ta) (hs:starEach [a,b] X.env=[(false,eval a X.env),(false,eval b X.env)]:=by rfl) (hs2:starEach [b] X.env=[(false,eval b X.env)]:=by rfl) :
    PI X tg (.Call (.Name "range" p) [a,b] [] pos) (wn9 ta):=by
 intro pins s σ H R I h
 refine Call_ (xx0 I hg hm boot_range (PyProof.Rows.callWith_type1 (thn (ha pos pins s σ H _ I h) λ us s1 ⟨vs,H1,I1,r1,q1⟩=>?_) (by rw [hs,hs2]) (by rw [hs2]; rfl)))
 obtain ⟨i,j,e,q⟩:=q1
 subst e
 cases r1 with
 | cons r rr =>
  cases rr with
  | cons r' rr =>
   cases rr
   obtain ⟨t,rfl⟩:=r
   obtain ⟨t',rfl⟩:=r'
   exact call_range_2 (wd4 I1 q)
end
end L2
namespace Pv
open PySem L2
noncomputable def irL3 (t:TA3):TI3:=λ ρ μ R=>t ρ μ λ ds μ1=>match ds with
 | [.int i,.int j]=>R (rngD i (j - i).toNat) (λ _=>True) μ1
 | _=>False
section
variable {X:Cx} {a b tg:Expr} {ta tb:TE3} {pos:Pos}
theorem wb4 {p:Pos} (hm:X.mg "range" = none) (ha:RE X a ta) (hb:RE X b tb) (hg:Gl X "range" := by rfl) (hs:starEach [a,b] X.env=[(false,eval a X.env),(false,eval b X.env)]:=by rfl) (hs2:starEach [b] X.env=[(false,eval b X.env)]:=by rfl) :
    RI X tg (.Call (.Name "range" p) [a,b] [] pos) (irL3 (wa0 ta (wa0 tb nil3))):=by
 obtain ⟨va,pa,ra⟩:=xa0 ha (xa0 hb zb0 hs2) (by rw [hs,hs2])
 refine ⟨_,xh4 hg hm pa hs hs2,λ σ H R ρ μ R3 s m h k=>ra σ H _ ρ μ _ s m h λ ds μ1 vs H1 h1 k1 r1 m1=>?_⟩
 cases r1 with
 | nil=>exact False.elim h1
 | cons r1 r2 =>
  cases r1 with
  | int i =>
   cases r2 with
   | nil=>exact False.elim h1
   | cons r2 r3 =>
    cases r2 with
    | int j =>
     cases r3 with
     | nil=>exact ⟨i,j,rfl,k _ _ _ _ _ h1 k1 m1 (xg3 _ _)⟩
     | cons _ _=>exact False.elim h1
    | _=>exact False.elim h1
  | _=>exact False.elim h1
end
end Pv
namespace Pv
open PySem PySem.Spec PyProof.Rows L2
section
variable {P:Program} {w:World} {K:Fg} {mg:Str->Option Value} {base:Heap} {N:List Str} {qual:Str} {scope:Scope} {f:Addr} {cd:Value} {A:Around} {outer:List Env} {s0:Shared} {H0:Hp} {E:XK}
variable {XE:XE3}
end
end Pv
namespace Pv
open PySem PySem.Spec PyProof.Rows L2 PySem.Calls
section
variable {prog:Program} {w:World} {A:Around} {E:Value->Shared->Prop} {s:Shared} {K:PySem.W.Frag} {x D:Addr} {ox:Obj}
structure ExcK (K:PySem.W.Frag) (D:Addr):Prop where
 ga:PySem.W.findIn K (.ref D) "__getattribute__" = some (some (.builtin "BaseException.__getattribute__"))
 no:PySem.W.findIn K (.ref D) "__getattr__" = some none
 be:PySem.W.mroIn K D (.type "BaseException")=some true
 cd:(PySem.W.clsIn K D).isSome=true
 ca:PySem.W.findIn K (.ref D) "__class__" = some (some (.builtin "object.__class__"))
 gt:PySem.W.specialIn K (.builtin "object.__class__") "__get__" = some (some (.builtin "getset_descriptor.__get__"))
 tk:PySem.W.takesIn K (.builtin "object.__class__")=some true
 ob:PySem.W.mroIn K D (.type "object")=some true
end
section
variable {X:Cx} {e:Expr} {te:TE3} {p p2 pos:Pos}
end
end Pv
namespace Pv
open PySem PySem.Spec PyProof.Rows L2 PySem.Calls
section
variable {X:Cx} {pins:List (Addr × Obj)} {σ:L2.St} {H H':Hp} {s s':Shared}
variable {k:Nat} {f:Addr} {fd:FuncData} {ps:List Str} {sp:Sp} {fx n x:Str} {i:Nat} {Pc:Addr} {e:Expr} {es:List Expr} {b₀:Stmt} {suite:List Stmt} {p cpos np hpos pos epos:Pos} {ta:TA} {ts:Addr->TS}
end
end Pv
namespace Pv
open PySem PySem.Spec PyProof.Rows L2 PySem.Calls
section
variable {X:Cx} {k:Nat} {ps:List Str} {spx:XE3->Sp3} {fx n x:Str} {i:Nat} {Pc:Addr} {e:Expr} {es:List Expr} {b₀:Stmt} {suite:List Stmt} {p cpos np hpos pos epos:Pos} {ta:TA3} {ts:TS3} {ok:Str->Bool}
end
end Pv
namespace Pv
open PySem PySem.Spec PyProof.Rows L2 PySem.Calls
structure RoomM (k:Nat) (A:Around):Prop where
 dp:A.depth + 3 * k + 5 < recursionLimit
 un:A.units + 16 * k + 200 < cLine
structure FnOkM (P:Program) (w:World) (K:PySem.W.Frag) (mg:Str->Option Value) (base:Heap) (CX:CXT) (k:Nat) (f:Addr) (fd:FuncData) (ps:List Str) (sp:Sp):Prop where
 len:∀ vs H Q E,sp vs H Q E->vs.length=ps.length
 run:∀ (A:Around) (outer:List Env) (s:Shared) (H:Hp) (args:Args) (us:List Value) (vs:List V) (Q:VK) (E:XK),RoomM k A->Env0 P w K mg base A outer s H->BindsTo s fd args (ps.zip us)->Vals vs us->sp vs H Q E ->
  codeAny (model P w) A (.call (.ref f) args) (CR CX outer P w H s Q E) s
section
variable {X:Cx} {x:Str} {e:Expr} {es:List Expr} {p pos:Pos} {t:TA3}
end
section
variable {P:Program} {w:World} {K:Fg} {mg:Str->Option Value} {base:Heap}
end
end Pv
namespace Pv
open PySem PySem.Spec PyProof.Rows L2 PySem.Calls
section
variable {K:Fg} {C:Addr} {cd:ClassData} {t c:Value} {b:Bool} {T:String}
end
end Pv
namespace Pv
open PySem PySem.Spec PyProof.Rows L2 PySem.Calls
theorem Kp.wrI {H:Hp} {p:Addr} {o:HO} {C dx:Addr} {fs:List (Str × V)} (h:H p=some (.ins C dx fs)):Kp H (upd H p o) :=
 ⟨λ b ys q=>by rw [xg0 (wh5 q h (by intro z; cases z))]; exact q,λ b o u q=>by rw [xg0 (wh5 q h (by intro z; cases z))]; exact q⟩
theorem RelFs.put {K:Fg} {H:Hp} {f:Str} {d:D} {v:V} (r:RelD K H d v) {l:List (Str × D)} {vs:List (Str × V)} (h:RelFs K H l vs):RelFs K H (putD f d l) (putF f v vs):=by
 induction h with
 | nil=>exact .cons r .nil
 | @cons g d' v' l' vs' h1 h2 ih =>
  simp only [putD,putF]
  split
  ·exact .cons r h2
  ·exact .cons h1 ih
theorem RelFs.get {K:Fg} {H:Hp} {f:Str} {l:List (Str × D)} {vs:List (Str × V)} (h:RelFs K H l vs) {d:D} (e:l.lookup f=some d):∃ v,vs.lookup f=some v /\ RelD K H d v:=by
 induction h with
 | nil=>cases e
 | @cons g d' v' l' vs' h1 h2 ih =>
  simp only [List.lookup] at e ⊢
  split at e
  ·next q=>cases e; exact ⟨v',rfl,h1⟩
  ·next q=>exact ih e
theorem RelFs.no {K:Fg} {H:Hp} {f:Str} {l:List (Str × D)} {vs:List (Str × V)} (h:RelFs K H l vs) (e:l.lookup f=none):vs.lookup f=none:=by
 induction h with
 | nil=>rfl
 | @cons g d' v' l' vs' h1 h2 ih =>
  simp only [List.lookup] at e ⊢
  split at e
  ·cases e
  ·next q=>exact ih e
theorem RelFs.len {K:Fg} {H:Hp} {l:List (Str × D)} {vs:List (Str × V)} (h:RelFs K H l vs):l.length=vs.length:=by
 induction h with
 | nil=>rfl
 | cons _ _ ih=>simp only [List.length_cons,ih]
theorem RelM.wrI {K:Fg} {μ:Mu} {H:Hp} {p:Addr} {c:Str} {C dx:Addr} {fs:List (Str × D)} {vs ws:List (Str × V)} (n:PySem.W.nsIn K mainGlobals c=some (some (.ref C))) (h:H p=some (.ins C dx ws)) (hx:H dx=some (.own p)) (r:RelFs K H fs vs) (m:RelM K μ H) :
    RelM K (updM μ p (.ins c fs)) (upd H p (.ins C dx vs)):=by
 refine ⟨λ q ys e=>?_,λ q c' gs e=>?_,λ q kvs e=>?_⟩
 ·by_cases z:q=p
  ·subst z; rw [xc0] at e; cases e
  ·rw [wd0 z] at e
   rw [xg0 z]
   obtain ⟨us,q1,r1⟩:=m.lst q ys e
   exact ⟨us,q1,r1.mono (Kp.wrI h)⟩
 ·by_cases z:q=p
  ·subst z
   rw [xc0] at e; cases e
   refine ⟨C,dx,vs,n,wj0,?_,r.mono (Kp.wrI h)⟩
   rw [xg0]
   ·exact hx
   ·intro y; subst y; rw [h] at hx; cases hx
  ·rw [wd0 z] at e
   obtain ⟨C',dx',us,n',q1,q2,r1⟩:=m.ins q c' gs e
   refine ⟨C',dx',us,n',by rw [xg0 z]; exact q1,?_,r1.mono (Kp.wrI h)⟩
   rw [xg0]
   ·exact q2
   ·intro y; subst y; rw [h] at q2; cases q2
 ·by_cases z:q=p
  ·subst z; rw [xc0] at e; cases e
  ·rw [wd0 z] at e
   rw [xg0 z]
   obtain ⟨us,q1,r1⟩:=m.dct q kvs e
   exact ⟨us,q1,r1.mono (Kp.wrI h)⟩
theorem RelM.newI {K:Fg} {μ:Mu} {H:Hp} {x dx:Addr} {c:Str} {C:Addr} (n:PySem.W.nsIn K mainGlobals c=some (some (.ref C))) (h:H x=none) (hd:H dx=none) (hne:dx ≠ x) (m:RelM K μ H) :
    RelM K (updM μ x (.ins c [])) (upd (upd H dx (.own x)) x (.ins C dx [])):=by
 have m1:=m.newT (o:=.own x) hd
 have h1:upd H dx (.own x) x=none:=by rw [xg0 (Ne.symm hne)]; exact h
 have m2:=m1.newT (o:=.ins C dx []) h1
 refine ⟨λ q ys e=>?_,λ q c' gs e=>?_,λ q kvs e=>?_⟩
 ·by_cases z:q=x
  ·subst z; rw [xc0] at e; cases e
  ·rw [wd0 z] at e; exact m2.lst q ys e
 ·by_cases z:q=x
  ·subst z
   rw [xc0] at e; cases e
   exact ⟨C,dx,[],n,wj0,by rw [xg0 hne,wj0],.nil⟩
  ·rw [wd0 z] at e; exact m2.ins q c' gs e
 ·by_cases z:q=x
  ·subst z; rw [xc0] at e; cases e
  ·rw [wd0 z] at e; exact m2.dct q kvs e
structure ObjC (K:Fg) (c:Str) (C:Addr):Prop where
 ns:PySem.W.nsIn K mainGlobals c=some (some (.ref C))
 cl:Cls K C
section
variable {X:Cx} {e o value:Expr} {te to tv:TE3} {c f m:Str} {C:Addr} {pos pos' p apos:Pos} {es:List Expr} {t:TA3} {x:Str}
theorem ww0 (he:RE X e te) (oc:ObjC X.K c C) (na:NoAttr X.K C f) (hb:attributeBase e f X.env (eval e X.env)=eval e X.env:=by rfl):RE X (.Attribute e f pos) (fld3 te c f):=by
 obtain ⟨va,pa,ra⟩:=he
 refine ⟨_,wj8 pa hb,λ σ H Q ρ μ Q3 s mm h k=>ra σ H _ ρ μ _ s mm h λ d μ1 v H1 h1 k1 r1 m1=>?_⟩
 cases r1 with
 | ref q =>
  dsimp only at h1
  cases e0:μ1 q with
  | none=>rw [e0] at h1; exact h1.elim
  | some oo =>
   cases oo with
   | lst _=>rw [e0] at h1; exact h1.elim
   | dct _=>rw [e0] at h1; exact h1.elim
   | ins c' fs =>
    rw [e0] at h1
    obtain ⟨rfl,h2⟩:=h1
    obtain ⟨C',dx,vs,n,q1,q2,r⟩:=m1.ins q _ fs e0
    rw [oc.ns] at n
    cases n
    cases e1:fs.lookup f with
    | none=>rw [e1] at h2; exact h2.elim
    | some d =>
     rw [e1] at h2
     obtain ⟨v,l,rv⟩:=r.get e1
     exact ⟨q,C,dx,vs,v,rfl,q1,oc.cl,na,l,k _ _ _ _ h2 k1 rv m1⟩
 | _=>exact False.elim h1
theorem zc3 (ho:RE X o to) (hv:RE X value tv) (oc:ObjC X.K c C) (na:NoAttr X.K C f) (hs:swapsWith value (some (.Attribute o f pos')) pos.line X.env=pure false:=by rfl):RS X (.Assign [.Attribute o f pos'] value pos) (xt2 to tv c f):=by
 obtain ⟨va,pa,ra⟩:=ho
 obtain ⟨vb,pb,rb⟩:=hv
 refine ⟨_,xg8 pa pb hs,λ σ H D ρ μ D3 s mm h kd=>rb σ H _ ρ μ _ s mm h λ y μ1 u H1 h1 k1 r1 m1=>ra σ H1 _ ρ μ1 _ (s.mono k1) m1 h1 λ d μ2 v H2 h2 k2 r2 m2=>?_⟩
 cases r2 with
 | ref q =>
  dsimp only at h2
  cases e0:μ2 q with
  | none=>rw [e0] at h2; exact h2.elim
  | some oo =>
   cases oo with
   | lst _=>rw [e0] at h2; exact h2.elim
   | dct _=>rw [e0] at h2; exact h2.elim
   | ins c' fs =>
    rw [e0] at h2
    obtain ⟨⟨rfl,hl⟩,h3⟩:=h2
    obtain ⟨C',dx,vs,n,q1,q2,r⟩:=m2.ins q _ fs e0
    have n0:=n
    rw [oc.ns] at n
    cases n
    refine ⟨q,C,dx,vs,rfl,q1,oc.cl,na,by rw [<- r.len]; exact hl,?_⟩
    have kw:Kp H2 (upd H2 q (.ins C dx (putF f u vs))):=Kp.wrI q1
    exact kd.nx _ _ _ _ h3 (k1.trans (k2.trans kw)) (((s.mono k1).mono k2).mono kw) (m2.wrI n0 q1 q2 (r.put (r1.mono k2)))
 | _=>exact False.elim h2
noncomputable def CalT (P:Program) (w:World) (K:Fg) (mg:Str->Option Value) (base:Heap) (k:Nat) (C:Addr) (m:Str) (ps:List Str) (sp:Sp3):Prop :=
 ∃ f fd,FnOk P w K mg base CX0 k f fd ps (lift K sp) /\ PySem.W.findIn K (.ref C) m=some (some (.ref f)) /\ PySem.W.isFn K (.ref f)=true /\ PySem.W.keepIn K (.ref f)=true /\ Binds K fd ps []
theorem wj6 {k:Nat} {ps:List Str} {sp:Sp3} (oc:ObjC X.K x C) (mk:PySem.W.makesIn X.K C=true) (kp:PySem.W.keepIn X.K (.ref C)=true) (cf:CalT X.prog X.w X.K X.mg X.base k C "__init__" ps sp) (hm:X.mg x=some (.ref C)) (hr:Room (k + 1) X.A) (ha:RA X (e :: es) t)
    (hg:Gl X x:=by rfl) (hdb:(x == ("__debug__" : Str))=false:=by decide) (he:starEach (e :: es) X.env=(false,eval e X.env) :: starEach es X.env:=by rfl) (hpl:(backTo pos (starEach es X.env)).any (·.1)=false:=by rfl) :
    RE X (.Call (.Name x p) (e :: es) [] pos) (zo8 x sp t):=by
 obtain ⟨f,fd,F,h1,h2,h3,hb⟩:=cf
 obtain ⟨va,pa,ra⟩:=ha
 refine ⟨_,yq6 ⟨mk,h1,h2,kp⟩ F hr hg hm hb .nil xh5 pa hdb he hpl,λ σ H Q ρ μ Q3 s mm h kk=>ra σ H _ ρ μ _ s mm h λ ds μ1 vs H1 g1 k1 r1 m1 y dy n1 n2 n3=>?_⟩
 rw [List.append_nil]
 have kA:Kp H1 (upd H1 dy (.own y)):=Kp.new n2
 have n1':upd H1 dy (.own y) y=none:=by rw [xg0 (Ne.symm n3)]; exact n1
 have kB:Kp (upd H1 dy (.own y)) (upd (upd H1 dy (.own y)) y (.ins C dy [])):=Kp.new n1'
 refine ⟨_,_,_,.cons (.ref y) ((r1.mono kA).mono kB),m1.newI oc.ns n1 n2 n3,g1 y (m1.free n1),λ d μ2 v H2 q k2 r2 m2=>?_⟩
 obtain ⟨rfl,q2⟩:=q
 cases r2
 exact ⟨rfl,kk _ _ _ _ q2 (k1.trans (kA.trans (kB.trans k2))) (.ref y) m2⟩
theorem yd4 {k:Nat} {ps:List Str} {sp:Sp3} {pl:Sem Bool} (ho:RE X o to) (oc:ObjC X.K c C) (cf:CalT X.prog X.w X.K X.mg X.base k C m ps sp) (hr:Room k X.A) (ha:RA X (e :: es) t)
    (hst:starEach (e :: es) X.env=(false,eval e X.env) :: starEach es X.env:=by rfl) (hpl:(backTo pos (starEach es X.env)).any (·.1)=false:=by rfl)
    (ht:eval (.Call (.Attribute o m apos) (e :: es) [] pos) X.env=(do
     let ov <- eval o X.env
     standAt apos.atName
     let (f,first) <- holding [ov] (getMethod ov m pl)
     callWith pos f first (backTo pos (starEach (e :: es) X.env)) (backToKw pos (keywordEach [] X.env))):=by rfl) :
    RE X (.Call (.Attribute o m apos) (e :: es) [] pos) (zk4 c m sp to t):=by
 obtain ⟨f,fd,F,h1,h2,h3,hb⟩:=cf
 obtain ⟨va,pa,ra⟩:=ho
 obtain ⟨vb,pb,rb⟩:=ha
 refine ⟨_,xq6 (pl:=pl) pa oc.cl ⟨h1,h2,h3⟩ F hr hb .nil xh5 pb hst hpl ht,λ σ H Q ρ μ Q3 s mm h kk=>ra σ H _ ρ μ _ s mm h λ d μ1 v H1 g1 k1 r1 m1=>?_⟩
 cases r1 with
 | ref q =>
  dsimp only at g1
  cases e0:μ1 q with
  | none=>rw [e0] at g1; exact g1.elim
  | some oo =>
   cases oo with
   | lst _=>rw [e0] at g1; exact g1.elim
   | dct _=>rw [e0] at g1; exact g1.elim
   | ins c' fs =>
    rw [e0] at g1
    obtain ⟨⟨rfl,hl⟩,g2⟩:=g1
    obtain ⟨C',dx,vs,n,q1,q2,r⟩:=m1.ins q _ fs e0
    rw [oc.ns] at n
    cases n
    refine ⟨q,dx,vs,rfl,q1,r.no hl,rb σ H1 _ ρ μ1 _ (s.mono k1) m1 g2 λ ds μ2 us H2 g3 k2 r2 m2=>?_⟩
    rw [List.append_nil]
    exact ⟨_,_,_,.cons (.ref q) r2,m2,g3,kk.after (k1.trans k2)⟩
 | _=>exact False.elim g1
theorem xe5 {k:Nat} {ps:List Str} {sp:Sp3} {pl:Sem Bool} (ho:RE X o to) (oc:ObjC X.K c C) (cf:CalT X.prog X.w X.K X.mg X.base k C m ps sp) (hr:Room k X.A)
    (ht:eval (.Call (.Attribute o m apos) [] [] pos) X.env=(do
     let ov <- eval o X.env
     standAt apos.atName
     let (f,first) <- holding [ov] (getMethod ov m pl)
     callWith pos f first (backTo pos (starEach [] X.env)) (backToKw pos (keywordEach [] X.env))):=by rfl) :
    RE X (.Call (.Attribute o m apos) [] [] pos) (zk4 c m sp to nil3):=by
 obtain ⟨f,fd,F,h1,h2,h3,hb⟩:=cf
 obtain ⟨va,pa,ra⟩:=ho
 refine ⟨_,yg5 (pl:=pl) pa oc.cl ⟨h1,h2,h3⟩ F hr hb .nil xh5 ht,λ σ H Q ρ μ Q3 s mm h kk=>ra σ H _ ρ μ _ s mm h λ d μ1 v H1 g1 k1 r1 m1=>?_⟩
 cases r1 with
 | ref q =>
  dsimp only at g1
  cases e0:μ1 q with
  | none=>rw [e0] at g1; exact g1.elim
  | some oo =>
   cases oo with
   | lst _=>rw [e0] at g1; exact g1.elim
   | dct _=>rw [e0] at g1; exact g1.elim
   | ins c' fs =>
    rw [e0] at g1
    obtain ⟨⟨rfl,hl⟩,g2⟩:=g1
    obtain ⟨C',dx,vs,n,q1,q2,r⟩:=m1.ins q _ fs e0
    rw [oc.ns] at n
    cases n
    refine ⟨q,dx,vs,rfl,q1,r.no hl,?_⟩
    exact ⟨_,_,_,.cons (.ref q) .nil,m1,g2,kk.after k1⟩
 | _=>exact False.elim g1
end
section
variable {P:Program} {w:World} {K:Fg} {mg:Str->Option Value} {base:Heap}
theorem CalT.mono {j k:Nat} {C:Addr} {m:Str} {ps:List Str} {sp:Sp3} (c:CalT P w K mg base j C m ps sp) (h:j<=k):CalT P w K mg base k C m ps sp:=by
 obtain ⟨f,fd,F,r⟩:=c
 exact ⟨f,fd,F.mono h,r⟩
theorem xx2 {x qual:Str} {st:Stmt} {f C:Addr} {fd:FuncData} {N ps:List Str} {k:Nat} {sp:Sp3} {t:TS3} (F:Fun K x qual st f fd) (hf:PySem.W.findIn K (.ref C) x=some (some (.ref f))) (hi:PySem.W.isFn K (.ref f)=true) (hb:Binds K fd ps []) (S:FnScope N ps (xb0 st))
    (len:∀ ds μ Q,sp ds μ Q->ds.length=ps.length)
    (body:∀ (cdv:Value) (A:Around) (outer:List Env) (s:Shared) (H:Hp) (E:XK),Room k (A.deeper (envOfC qual (xb0 st) s.heap.objs.size f cdv))->RSs (cxOf CX0 P w K mg base N qual (xb0 st) f cdv A outer s H E).nox (xd0 st) t)
    (rd:∀ ds μ Q,sp ds μ Q->t { nx:=λ _ μ'=>Q .non μ',rt:=Q } (yd0 N ds) μ):CalT P w K mg base (k + 1) C x ps sp:=by
 refine ⟨f,fd,Fun.ok F S (λ vs H Q E h=>?_) λ cdv A outer s H vs Q E hr h=>?_,hf,hi,F.kp,hb⟩
 ·obtain ⟨ds,μ,Q3,r,m,q,ks⟩:=h
  rw [<- r.length]; exact len _ _ _ q
 ·obtain ⟨ds,μ,Q3,r,m,q,ks⟩:=h
  obtain ⟨tv,p,rt⟩:=body cdv A outer s H E hr
  exact ⟨tv,p,rt _ H _ _ μ _ (RSt.start N r) m (rd ds μ Q3 q) ⟨λ ρ μ' σ H' h' k' s' m'=>ks _ _ _ _ h' k' .non m',λ ρ μ' σ H' h'=>False.elim h',λ ρ μ' σ H' h'=>False.elim h',ks⟩⟩
end
end Pv
namespace Ms
open PySem.W PyProof.Rows
noncomputable def run (lt:Nat->Nat->Bool) {α:Type}:KasT α->α
 | .ret a=>a
 | .ask i j k=>run lt (k (lt i j))
theorem xc3 (lt:Nat->Nat->Bool) {α β:Type} (f:α->KasT β):∀ t:KasT α,run lt (t.bind f)=run lt (f (run lt t))
 | .ret _=>rfl
 | .ask i j k=>xc3 lt f (k (lt i j))
structure Ord (lt:Nat->Nat->Bool):Prop where
 ir:∀ a,lt a a=false
 tr:∀ a b c,lt a b=true->lt b c=true->lt a c=true
 ng:∀ a b c,lt a c=true->lt a b=true \/ lt b c=true
section
variable {lt:Nat->Nat->Bool} (O:Ord lt)
noncomputable abbrev at' (p:Array Nat) (i:Nat):Nat:=p.getD i 0
noncomputable def le (lt:Nat->Nat->Bool) (a b:Nat):Prop:=lt b a=false
include O
theorem le_rf (a:Nat):le lt a a:=O.ir a
theorem le_tr {a b c:Nat} (h:le lt a b) (k:le lt b c):le lt a c:=by
 unfold le at *
 cases e:lt c a with
 | false=>rfl
 | true =>
  rcases O.ng c b a e with h1 | h1
  ·rw [k] at h1; cases h1
  ·rw [h] at h1; cases h1
theorem xn9 {a b:Nat} (h:lt a b=true):le lt a b:=by
 unfold le
 cases e:lt b a with
 | false=>rfl
 | true=>have:=O.tr a b a h e; rw [O.ir] at this; cases this
omit O
noncomputable def Up (lt:Nat->Nat->Bool) (p:Array Nat) (n:Nat):Prop:=∀ a b,a<=b->b < n->le lt (at' p a) (at' p b)
noncomputable def Dn (lt:Nat->Nat->Bool) (p:Array Nat) (n:Nat):Prop:=∀ a b,a<=b->b < n->le lt (at' p b) (at' p a)
theorem wb7 {p q:Array Nat} {i j:Nat} (h:p[i]?=q[j]?):at' p i=at' q j:=by
 show p.getD i 0=q.getD j 0
 rw [Array.getD_eq_getD_getElem?,Array.getD_eq_getD_getElem?,h]
theorem xz5 {p:Array Nat} {k l:Nat} (hk:k < p.size) (hl:l<=k) (i:Nat):at' (bubble p k (k - l)) i=if i=l then at' p k else if l < i /\ i<=k then at' p (i - 1) else at' p i:=by
 have h:=getElem?_bubble (xs:=p) hk (k - l) (by omega) i
 rw [show k - (k - l)=l by omega] at h
 by_cases c:i=l
 ·rw [if_pos c] at h ⊢; exact wb7 h
 ·rw [if_neg c] at h ⊢
  by_cases c2:l < i /\ i<=k
  ·rw [if_pos c2] at h ⊢; exact wb7 h
  ·rw [if_neg c2] at h ⊢; exact wb7 h
include O
theorem ya6 {p:Array Nat} {n:Nat} (h:Up lt p n) (h1:1<=n) (k:le lt (at' p (n - 1)) (at' p n)):Up lt p (n + 1):=λ a b hab hb=>by
 by_cases e:b=n
 ·subst e
  by_cases e2:a=b
  ·subst e2; exact le_rf O _
  ·exact le_tr O (h a (b - 1) (by omega) (by omega)) k
 ·exact h a b hab (by omega)
theorem xj3 (p:Array Nat):∀ (f n:Nat),1<=n->Up lt p n->n<=run lt (kas_asc p f n) /\ run lt (kas_asc p f n)<=n + f /\ Up lt p (run lt (kas_asc p f n)) /\ (run lt (kas_asc p f n) < n + f->lt (at' p (run lt (kas_asc p f n))) (at' p (run lt (kas_asc p f n) - 1))=true)
 | 0,n,h1,h=>⟨Nat.le_refl _,Nat.le_refl _,h,λ z=>absurd z (Nat.lt_irrefl _)⟩
 | f + 1,n,h1,h=>by
  cases e:lt (at' p n) (at' p (n - 1)) with
  | true =>
   have r:run lt (kas_asc p (f + 1) n)=n:=by
    show run lt (if lt (at' p n) (at' p (n - 1))=true then .ret n else kas_asc p f (n + 1))=n
    rw [e]; rfl
   rw [r]
   exact ⟨Nat.le_refl _,by omega,h,λ _=>e⟩
  | false =>
   have r:run lt (kas_asc p (f + 1) n)=run lt (kas_asc p f (n + 1)):=by
    show run lt (if lt (at' p n) (at' p (n - 1))=true then .ret n else kas_asc p f (n + 1))=_
    rw [e]; rfl
   rw [r]
   obtain ⟨a1,a2,a3,a4⟩:=xj3 p f (n + 1) (by omega) (ya6 O h h1 e)
   exact ⟨by omega,by omega,a3,λ z=>a4 (by omega)⟩
omit O
noncomputable def Eqs (lt:Nat->Nat->Bool) (p:Array Nat) (n q:Nat):Prop:=∀ a b,n - (q + 1)<=a->a < n->n - (q + 1)<=b->b < n->le lt (at' p a) (at' p b)
include O
omit O
structure DOk (lt:Nat->Nat->Bool) (p0:Array Nat) (N:Nat) (r:Array Nat × Nat × Nat) (n:Nat):Prop where
 perm:r.1.Perm p0
 lo:n<=r.2.1
 hi:r.2.1<=N
 dn:Dn lt r.1 r.2.1
 q:r.2.2 + 1<=r.2.1
 eqs:Eqs lt r.1 r.2.1 r.2.2
include O
omit O
structure ROk (lt:Nat->Nat->Bool) (p0:Array Nat) (N:Nat) (r:Nat × Array Nat):Prop where
 perm:r.2.Perm p0
 lo:1<=r.1
 hi:r.1<=N
 up:Up lt r.2 r.1
include O
theorem xc2 {p:Array Nat} {k:Nat} (h:Up lt p k):∀ (f l r:Nat),l<=r->r<=k->r - l<=f->(∀ a,a < l->le lt (at' p a) (at' p k))->(∀ b,r<=b->b < k->lt (at' p k) (at' p b)=true) ->
    run lt (kas_place p k f l r)<=k /\ (∀ a,a < run lt (kas_place p k f l r)->le lt (at' p a) (at' p k)) /\ ∀ b,run lt (kas_place p k f l r)<=b->b < k->lt (at' p k) (at' p b)=true
 | 0,l,r,hlr,hrk,hf,h1,h2=>⟨by show l<=k; omega,h1,λ b hb1 hb2=>h2 b (by have:l<=b:=hb1; omega) hb2⟩
 | f + 1,l,r,hlr,hrk,hf,h1,h2=>by
  by_cases c:l ≥ r
  ·have e:run lt (kas_place p k (f + 1) l r)=l:=by
     show run lt (if l ≥ r then .ret l else _)=l
     rw [if_pos c]; rfl
   rw [e]
   exact ⟨by omega,h1,λ b hb1 hb2=>h2 b (by omega) hb2⟩
  ·cases e:lt (at' p k) (at' p ((l + r) / 2)) with
   | true =>
    have e2:run lt (kas_place p k (f + 1) l r)=run lt (kas_place p k f l ((l + r) / 2)):=by
     show run lt (if l ≥ r then .ret l else .ask (at' p k) (at' p ((l + r) / 2)) λ c=>if c=true then kas_place p k f l ((l + r) / 2) else kas_place p k f ((l + r) / 2 + 1) r)=_
     rw [if_neg c]
     show run lt (if lt (at' p k) (at' p ((l + r) / 2))=true then _ else _)=_
     rw [e,if_pos rfl]
    rw [e2]
    refine xc2 h f l ((l + r) / 2) (by omega) (by omega) (by omega) h1 λ b hb1 hb2=>?_
    have z:=h ((l + r) / 2) b hb1 hb2
    rcases O.ng (at' p k) (at' p b) (at' p ((l + r) / 2)) e with y | y
    ·exact y
    ·unfold le at z; rw [z] at y; cases y
   | false =>
    have e2:run lt (kas_place p k (f + 1) l r)=run lt (kas_place p k f ((l + r) / 2 + 1) r):=by
     show run lt (if l ≥ r then .ret l else .ask (at' p k) (at' p ((l + r) / 2)) λ c=>if c=true then kas_place p k f l ((l + r) / 2) else kas_place p k f ((l + r) / 2 + 1) r)=_
     rw [if_neg c]
     show run lt (if lt (at' p k) (at' p ((l + r) / 2))=true then _ else _)=_
     rw [e,if_neg (by decide)]
    rw [e2]
    exact xc2 h f ((l + r) / 2 + 1) r (by omega) hrk (by omega) (λ a ha=>le_tr O (h a ((l + r) / 2) (by omega) (by omega)) e) h2
theorem wu4 {p0:Array Nat}:∀ (f:Nat) (p:Array Nat) (k:Nat),p.Perm p0->1<=k->k + f<=p0.size->Up lt p k->(run lt (kas_bin f p k)).Perm p0 /\ Up lt (run lt (kas_bin f p k)) (k + f)
 | 0,p,k,hp,h1,hs,h=>⟨hp,h⟩
 | f + 1,p,k,hp,h1,hs,h=>by
  have hsz:p.size=p0.size:=hp.size_eq
  have e:run lt (kas_bin (f + 1) p k)=run lt (kas_bin f (bubble p k (k - run lt (kas_place p k k 0 k))) (k + 1)):=by
   show run lt ((kas_place p k k 0 k).bind λ l=>kas_bin f (bubble p k (k - l)) (k + 1))=_
   rw [xc3]
  rw [e]
  obtain ⟨b1,b2,b3⟩:=xc2 O h k 0 k (by omega) (Nat.le_refl _) (by omega) (λ a ha=>absurd ha (Nat.not_lt_zero _)) (λ b hb1 hb2=>by omega)
  generalize run lt (kas_place p k k 0 k)=l at b1 b2 b3
  have u:Up lt (bubble p k (k - l)) (k + 1):=λ a b hab hb=>by
   rw [xz5 (by omega) b1,xz5 (by omega) b1]
   by_cases ca:a=l
   ·rw [if_pos ca]
    by_cases cb:b=l
    ·rw [if_pos cb]; exact le_rf O _
    ·rw [if_neg cb,if_pos ⟨by omega,by omega⟩]; exact xn9 O (b3 _ (by omega) (by omega))
   ·rw [if_neg ca]
    by_cases cb:b=l
    ·rw [if_pos cb,if_neg (by omega)]; exact b2 _ (by omega)
    ·rw [if_neg cb]
     by_cases ca2:l < a /\ a<=k
     ·rw [if_pos ca2,if_pos ⟨by omega,by omega⟩]; exact h _ _ (by omega) (by omega)
     ·rw [if_neg ca2]
      by_cases cb2:l < b /\ b<=k
      ·rw [if_pos cb2]; exact h _ _ (by omega) (by omega)
      ·rw [if_neg cb2]; exact h _ _ (by omega) (by omega)
  have z:=wu4 f (bubble p k (k - l)) (k + 1) ((bubble_perm _ _ _).trans hp) (by omega) (by omega) u
  rw [show k + 1 + f=k + (f + 1) by omega] at z
  exact z
end
noncomputable def Bd (N:Nat) {α:Type} (P:α->Prop):KasT α->Prop
 | .ret a=>P a
 | .ask i j k=>i < N /\ j < N /\ ∀ b,Bd N P (k b)
section
variable {N:Nat}
end
end Ms
namespace Ts
open PySem PyProof.Rows
noncomputable def gal:Bool->Keyed->Array Keyed->Nat->Nat->Nat->StateT SortSt Sem (Option Nat):=sortPriv% PySem.Builtin.gallop
section
variable {prog:Program} {w:World} {A:Around} {E:Value->Shared->Prop} {s:Shared} {κ:SortKind}
structure Cm (prog:Program) (w:World) (A:Around) (s:Shared) (κ:SortKind) (lt:Keyed->Keyed->Bool) (M:Keyed->Prop):Prop where
 ask:∀ x y,M x->M y->∀ C:Bool->Shared->Prop,C (lt x y) s->wpAny (model prog w) A (keyLt' κ x.1 y.1) C (λ _ _=>False) s
 ir:∀ x,lt x x=false
 tr:∀ x y z,lt x y=true->lt y z=true->lt x z=true
 ng:∀ x y z,lt x z=true->lt x y=true \/ lt y z=true
variable {lt:Keyed->Keyed->Bool} {M:Keyed->Prop}
noncomputable def le (lt:Keyed->Keyed->Bool) (x y:Keyed):Prop:=lt y x=false
theorem Cm.rf (c:Cm prog w A s κ lt M) (x:Keyed):le lt x x:=c.ir x
theorem Cm.lt_le (c:Cm prog w A s κ lt M) {x y:Keyed} (h:lt x y=true):le lt x y:=by
 unfold le
 cases e:lt y x with
 | false=>rfl
 | true=>have:=c.tr x y x h e; rw [c.ir] at this; cases this
theorem Cm.le_tr (c:Cm prog w A s κ lt M) {x y z:Keyed} (h:le lt x y) (k:le lt y z):le lt x z:=by
 unfold le at h k ⊢
 cases e:lt z x with
 | false=>rfl
 | true =>
  rcases c.ng z y x e with q | q
  ·rw [k] at q; cases q
  ·rw [h] at q; cases q
structure Ok (κ:SortKind) (st:SortSt):Prop where
 kd:kindOf st=κ
 fl:failedOf st=none
theorem yl4 (c:Cm prog w A s κ lt M) {x y:Keyed} {st:SortSt} {Q:Option Bool->SortSt->Prop} (o:Ok κ st) (hx:M x) (hy:M y) (h:Q (some (lt x y)) st):wpS (model prog w) A E s (lt' x y) Q st:=by
 rw [lt'_eq]
 refine wpS_bind (wpS_get ?_)
 rw [o.kd]
 refine wpS_bind (wpS_lift (wpAny_attempt (wpAny_mono (c.ask x y hx hy (λ b s'=>s'=s /\ b=lt x y) ⟨rfl,rfl⟩) (λ b s' hb=>?_) λ _ _ hF=>hF.elim)))
 obtain ⟨rfl,rfl⟩:=hb
 exact ⟨rfl,wpS_pure h⟩
theorem wh0 {arr:Array Keyed} {i:Nat} {x:Keyed} {st:SortSt} {Q:Keyed->SortSt->Prop} (hi:arr[i]?=some x) (h:Q x st):wpS (model prog w) A E s (elem' arr i) Q st:=by
 rw [elem'_eq,hi]
 exact wpS_pure h
structure By (lt:Keyed->Keyed->Bool) (M:Keyed->Prop) (l:Bool) (key:Keyed) (arr:Array Keyed) (base n:Nat) (B:Nat->Bool):Prop where
 ky:M key
 it:∀ i,i < n->∃ x,arr[base + i]?=some x /\ M x /\ B i=(if l=true then lt x key else !lt key x)
 mono:∀ i j,i<=j->j < n->B j=true->B i=true
theorem By.no {l:Bool} {key:Keyed} {arr:Array Keyed} {base n:Nat} {B:Nat->Bool} (b:By lt M l key arr base n B) {i j:Nat} (h:i<=j) (hj:j < n) (k:B i=false):B j=false:=by
 cases e:B j with
 | false=>rfl
 | true=>have:=b.mono i j h hj e; rw [k] at this; cases this
theorem zi3 (c:Cm prog w A s κ lt M) {l:Bool} {key:Keyed} {arr:Array Keyed} {base n:Nat} {B:Nat->Bool} (b:By lt M l key arr base n B) {i:Nat} (hi:i < n) {st:SortSt} {Q:Option Bool->SortSt->Prop} (o:Ok κ st) (h:Q (some (B i)) st) :
    wpS (model prog w) A E s (elem' arr (base + i) >>= λ x=>if l=true then lt' x key else lt' key x >>= λ r=>pure (r.map λ y=>!y)) Q st:=by
 obtain ⟨x,ex,mx,e⟩:=b.it i hi
 refine wpS_bind (wh0 ex ?_)
 cases l with
 | true =>
  rw [if_pos rfl]
  rw [if_pos rfl] at e
  exact yl4 c o mx b.ky (e ▸ h)
 | false =>
  rw [if_neg (by simp)]
  rw [if_neg (by simp)] at e
  exact wpS_bind (yl4 c o b.ky mx (wpS_pure (by rw [e] at h; exact h)))
theorem zx1 (c:Cm prog w A s κ lt M) {l:Bool} {key:Keyed} {arr:Array Keyed} {base n hint:Nat} {st:SortSt} {Q:Option Nat->SortSt->Prop} {B:Nat->Bool} (o:Ok κ st) (b:By lt M l key arr base n B) (hh:hint < n)
    (h:∀ k,k<=n->(∀ i,i < k->B i=true)->(∀ i,k<=i->i < n->B i=false)->Q (some k) st):wpS (model prog w) A E s (gal l key arr base n hint) Q st:=by
 refine wpS_bind (zi3 c b hh o ?_)
 have tail:∀ lo hi:Nat,lo<=hi->hi<=n->(∀ i,i < lo->B i=true)->(∀ i,hi<=i->i < n->B i=false)->∀ (f:Nat->Option (Option Nat) × Nat × Nat->StateT SortSt Sem (ForInStep (Option (Option Nat) × Nat × Nat))),
     (∀ x lo hi,lo < hi->hi<=n->f x (none,lo,hi)=((elem' arr (base + (lo + (hi - lo) / 2)) >>= λ x=>if l=true then lt' x key else lt' key x >>= λ r=>pure (r.map λ y=>!y)) >>= λ r=>match r with
      | some true=>pure (.yield (none,lo + (hi - lo) / 2 + 1,hi))
      | some false=>pure (.yield (none,lo,lo + (hi - lo) / 2))
      | none=>pure (.done (some none,lo,hi))))->(∀ x lo hi,¬ lo < hi->f x (none,lo,hi)=pure (.done (none,lo,hi))) ->
     wpS (model prog w) A E s (forIn [0:n] (none,lo,hi) f) (λ r st'=>st'=st /\ r.1=none /\ r.2.2<=n /\ (∀ i,i < r.2.2->B i=true) /\ ∀ i,r.2.2<=i->i < n->B i=false) st:=by
  intro lo hi h1 h2 h3 h4 f f1 f2
  refine wpS_forRange (λ x r st'=>st'=st /\ r.1=none /\ r.2.1<=r.2.2 /\ r.2.2<=n /\ r.2.2 - r.2.1<=n - x /\ (∀ i,i < r.2.1->B i=true) /\ ∀ i,r.2.2<=i->i < n->B i=false) ?_ ?_ ⟨rfl,rfl,h1,h2,by show hi - lo<=n - 0; omega,h3,h4⟩
  ·rintro x ⟨r,lo,hi⟩ st' _ hx ⟨rfl,rfl,a1,a2,a3,a4,a5⟩
   dsimp only at a1 a2 a3 a4 a5
   by_cases z:lo < hi
   ·rw [f1 x lo hi z a2]
    have hm:lo + (hi - lo) / 2 < n:=by omega
    refine wpS_bind (zi3 c b hm o ?_)
    cases e:B (lo + (hi - lo) / 2) with
    | true=>exact wpS_pure ⟨rfl,rfl,by show _ + 1<=hi; omega,a2,by show hi - (_ + 1)<=_; omega,λ i hi'=>b.mono i _ (by show i<=_; have:i < _ + 1:=hi'; omega) hm e,a5⟩
    | false=>exact wpS_pure ⟨rfl,rfl,by show lo<=lo + (hi - lo) / 2; omega,by show lo + (hi - lo) / 2<=n; omega,by show lo + (hi - lo) / 2 - lo<=_; omega,a4,λ i h5 h6=>b.no h5 h6 e⟩
   ·rw [f2 x lo hi z]
    have:lo=hi:=by have:lo<=hi:=a1; omega
    subst this
    exact wpS_pure ⟨rfl,rfl,a2,a4,a5⟩
  ·rintro ⟨r,lo,hi⟩ st' ⟨rfl,rfl,a1,a2,a3,a4,a5⟩
   have a1':lo<=hi:=a1
   have a3':hi - lo<=n - max 0 n:=a3
   have:lo=hi:=by omega
   subst this
   exact ⟨rfl,rfl,a2,a4,a5⟩
 have fin:∀ lo hi:Nat,lo<=hi->hi<=n->(∀ i,i < lo->B i=true)->(∀ i,hi<=i->i < n->B i=false)->∀ (f:Nat->Option (Option Nat) × Nat × Nat->StateT SortSt Sem (ForInStep (Option (Option Nat) × Nat × Nat))) (g:Option (Option Nat) × Nat × Nat->StateT SortSt Sem (Option Nat)),
     (∀ x lo hi,lo < hi->hi<=n->f x (none,lo,hi)=((elem' arr (base + (lo + (hi - lo) / 2)) >>= λ x=>if l=true then lt' x key else lt' key x >>= λ r=>pure (r.map λ y=>!y)) >>= λ r=>match r with
      | some true=>pure (.yield (none,lo + (hi - lo) / 2 + 1,hi))
      | some false=>pure (.yield (none,lo,lo + (hi - lo) / 2))
      | none=>pure (.done (some none,lo,hi))))->(∀ x lo hi,¬ lo < hi->f x (none,lo,hi)=pure (.done (none,lo,hi))) ->
     (∀ lo hi,g (none,lo,hi)=pure (some hi))->wpS (model prog w) A E s (forIn [0:n] (none,lo,hi) f >>= g) Q st:=by
  intro lo hi h1 h2 h3 h4 f g f1 f2 g1
  refine wpS_bind (wpS_mono (tail lo hi h1 h2 h3 h4 f f1 f2) ?_)
  rintro ⟨r,lo,hi⟩ st' ⟨rfl,rfl,a2,a4,a5⟩
  rw [g1]
  exact wpS_pure (h hi a2 a4 a5)
 cases e:B hint with
 | true =>
  refine wpS_bind (wpS_mono (wpS_forRange (λ x (r:Option (Option Nat) × Nat × Nat) st'=>st'=st /\ r.1=none /\ r.2.1 < r.2.2 /\ x + 1<=r.2.2 /\ hint + r.2.1 < n /\ B (hint + r.2.1)=true) (Q:=λ (r:Option (Option Nat) × Nat × Nat) st'=>st'=st /\ r.1=none /\ r.2.1 < r.2.2 /\ hint + r.2.1 < n /\ B (hint + r.2.1)=true /\ (n - hint<=r.2.2 \/ (hint + r.2.2 < n /\ B (hint + r.2.2)=false))) ?_ ?_ ⟨rfl,rfl,by decide,by decide,hh,e⟩) ?_)
  ·rintro x ⟨r,la,of⟩ st' _ hx ⟨rfl,rfl,a1,a2,a3,a4⟩
   dsimp only at a1 a2 a3 a4 ⊢
   by_cases z:of ≥ n - hint
   ·rw [if_pos z]
    exact wpS_pure ⟨rfl,rfl,a1,a3,a4,.inl z⟩
   ·rw [if_neg z]
    have hm:hint + of < n:=by omega
    refine wpS_bind (zi3 c b hm o ?_)
    cases e2:B (hint + of) with
    | true=>exact wpS_pure ⟨rfl,rfl,by show of < 2 * of + 1; omega,by show _<=2 * of + 1; omega,hm,e2⟩
    | false=>exact wpS_pure ⟨rfl,rfl,a1,a3,a4,.inr ⟨hm,e2⟩⟩
  ·rintro ⟨r,la,of⟩ st' ⟨rfl,rfl,a1,a2,a3,a4⟩
   exact ⟨rfl,rfl,a1,a3,a4,.inl (by have:max 0 n + 1<=of:=a2; show n - hint<=of; omega)⟩
  ·rintro ⟨r,la,of⟩ st' ⟨rfl,rfl,a1,a3,a4,a5⟩
   dsimp only at a1 a3 a4 a5 ⊢
   refine fin (hint + la + 1) (hint + min of (n - hint)) (by omega) (by omega) (λ i hi=>b.mono i _ (by omega) a3 a4) (λ i h5 h6=>?_) _ _ ?_ ?_ ?_
   ·rcases a5 with z | ⟨z1,z2⟩
    ·omega
    ·exact b.no (by omega) h6 z2
   ·intro x lo hi z _
    dsimp only
    rw [if_neg (by omega)]
    refine congrArg _ (funext λ r=>?_)
    rcases r with _ | _ | _ <;> rfl
   ·intro x lo hi z
    dsimp only
    rw [if_pos (by omega)]
   ·intro lo hi; rfl
 | false =>
  refine wpS_bind (wpS_mono (wpS_forRange (λ x (r:Option (Option Nat) × Nat × Nat) st'=>st'=st /\ r.1=none /\ r.2.1 < r.2.2 /\ x + 1<=r.2.2 /\ r.2.1<=hint /\ B (hint - r.2.1)=false) (Q:=λ (r:Option (Option Nat) × Nat × Nat) st'=>st'=st /\ r.1=none /\ r.2.1 < r.2.2 /\ r.2.1<=hint /\ B (hint - r.2.1)=false /\ (hint + 1<=r.2.2 \/ (r.2.2<=hint /\ B (hint - r.2.2)=true))) ?_ ?_ ⟨rfl,rfl,by decide,by decide,Nat.zero_le _,e⟩) ?_)
  ·rintro x ⟨r,la,of⟩ st' _ hx ⟨rfl,rfl,a1,a2,a3,a4⟩
   dsimp only at a1 a2 a3 a4 ⊢
   by_cases z:of ≥ hint + 1
   ·rw [if_pos z]
    exact wpS_pure ⟨rfl,rfl,a1,a3,a4,.inl z⟩
   ·rw [if_neg z]
    have hm:hint - of < n:=by omega
    refine wpS_bind (zi3 c b hm o ?_)
    cases e2:B (hint - of) with
    | false=>exact wpS_pure ⟨rfl,rfl,by show of < 2 * of + 1; omega,by show _<=2 * of + 1; omega,by show of<=hint; omega,e2⟩
    | true=>exact wpS_pure ⟨rfl,rfl,a1,a3,a4,.inr ⟨by show of<=hint; omega,e2⟩⟩
  ·rintro ⟨r,la,of⟩ st' ⟨rfl,rfl,a1,a2,a3,a4⟩
   exact ⟨rfl,rfl,a1,a3,a4,.inl (by have:max 0 n + 1<=of:=a2; show hint + 1<=of; omega)⟩
  ·rintro ⟨r,la,of⟩ st' ⟨rfl,rfl,a1,a3,a4,a5⟩
   dsimp only at a1 a3 a4 a5 ⊢
   refine fin (hint + 1 - min of (hint + 1)) (hint - la) (by omega) (by omega) (λ i hi=>?_) (λ i h5 h6=>b.no h5 h6 a4) _ _ ?_ ?_ ?_
   ·rcases a5 with z | ⟨z1,z2⟩
    ·omega
    ·exact b.mono i _ (by omega) (by omega) z2
   ·intro x lo hi z _
    dsimp only
    rw [if_neg (by omega)]
    refine congrArg _ (funext λ r=>?_)
    rcases r with _ | _ | _ <;> rfl
   ·intro x lo hi z
    dsimp only
    rw [if_pos (by omega)]
   ·intro lo hi; rfl
end
end Ts
namespace Ts
open PySem PyProof.Rows
noncomputable def mlo:Array Keyed->Array Keyed->StateT SortSt Sem (Array Keyed):=sortPriv% PySem.Builtin.mergeLo
noncomputable abbrev GR:=Option (Array Keyed) × Array Keyed × Nat × Nat × Nat × Nat × Nat
noncomputable def galC (a b:Array Keyed) (k1 k:Nat) (u:Array Keyed) (i j g:Nat):StateT SortSt Sem (ForInStep GR) :=
 let nx:Array Keyed->Nat->StateT SortSt Sem (ForInStep GR):=λ u j=>elem' a i >>= λ v =>
  if (i + 1 + 1 == a.size)=true then pure (.done (some (u.push v ++ b.extract j b.size ++ a.extract (i + 1) a.size),u.push v,i + 1,j,g,k1,k))
  else if (decide (k1 < 7) && decide (k < 7))=true then pure (.done (none,u.push v,i + 1,j,g,k1,k)) else pure (.yield (none,u.push v,i + 1,j,g,k1,k))
 if k > 0 then (if (j + k == b.size)=true then pure (.done (some (u ++ b.extract j (j + k) ++ a.extract i a.size ++ b.extract (j + k) b.size),u ++ b.extract j (j + k),i,j + k,g,k1,k)) else nx (u ++ b.extract j (j + k)) (j + k)) else nx u j
theorem yr0 {α:Type} {l:List α} {i:Nat} {x:α} (h:l[i]?=some x):l.drop i=x :: l.drop (i + 1):=by
 obtain ⟨h1,h2⟩:=List.getElem?_eq_some_iff.mp h
 rw [List.drop_eq_getElem_cons h1,h2]
section
variable {lt:Keyed->Keyed->Bool}
structure MI (lt:Keyed->Keyed->Bool) (la lb out:List Keyed) (ia ib:Nat):Prop where
 so:out.Pairwise (le lt)
 xa:∀ x ∈ out,∀ y ∈ la.drop ia,le lt x y
 xb:∀ x ∈ out,∀ y ∈ lb.drop ib,le lt x y
 pm:(out ++ (la.drop ia ++ lb.drop ib)).Perm (la ++ lb)
noncomputable def Fin (lt:Keyed->Keyed->Bool) (la lb r:List Keyed):Prop:=r.Perm (la ++ lb) /\ r.Pairwise (le lt)
theorem zt2 {l:List Keyed} (h:l.Pairwise (le lt)) {i:Nat} {x:Keyed} (e:l[i]?=some x):∀ y ∈ l.drop (i + 1),le lt x y:=by
 have h2:(l.drop i).Pairwise (le lt):=h.sublist (List.drop_sublist i l)
 rw [yr0 e] at h2
 exact (List.pairwise_cons.mp h2).1
theorem MI.a {la lb out:List Keyed} {ia ib:Nat} {x:Keyed} (m:MI lt la lb out ia ib) (sa:la.Pairwise (le lt)) (e:la[ia]?=some x) (k:∀ y ∈ lb.drop ib,le lt x y):MI lt la lb (out ++ [x]) (ia + 1) ib:=by
 have d:=yr0 e
 refine ⟨List.pairwise_append.mpr ⟨m.so,List.pairwise_singleton _ _,λ z hz y hy=>?_⟩,λ z hz y hy=>?_,λ z hz y hy=>?_,?_⟩
 ·rw [List.mem_singleton] at hy; subst hy
  exact m.xa z hz y (by rw [d]; exact .head _)
 ·rcases List.mem_append.mp hz with hz | hz
  ·exact m.xa z hz y (by rw [d]; exact .tail _ hy)
  ·rw [List.mem_singleton] at hz; subst hz
   exact zt2 sa e y hy
 ·rcases List.mem_append.mp hz with hz | hz
  ·exact m.xb z hz y hy
  ·rw [List.mem_singleton] at hz; subst hz
   exact k y hy
 ·have p:=m.pm
  rw [d] at p
  rw [List.append_assoc]
  exact p
theorem MI.b {la lb out:List Keyed} {ia ib:Nat} {x:Keyed} (m:MI lt la lb out ia ib) (sb:lb.Pairwise (le lt)) (e:lb[ib]?=some x) (k:∀ y ∈ la.drop ia,le lt x y):MI lt la lb (out ++ [x]) ia (ib + 1):=by
 have d:=yr0 e
 refine ⟨List.pairwise_append.mpr ⟨m.so,List.pairwise_singleton _ _,λ z hz y hy=>?_⟩,λ z hz y hy=>?_,λ z hz y hy=>?_,?_⟩
 ·rw [List.mem_singleton] at hy; subst hy
  exact m.xb z hz y (by rw [d]; exact .head _)
 ·rcases List.mem_append.mp hz with hz | hz
  ·exact m.xa z hz y hy
  ·rw [List.mem_singleton] at hz; subst hz
   exact k y hy
 ·rcases List.mem_append.mp hz with hz | hz
  ·exact m.xb z hz y (by rw [d]; exact .tail _ hy)
  ·rw [List.mem_singleton] at hz; subst hz
   exact zt2 sb e y hy
 ·have p:=m.pm
  rw [d] at p
  rw [List.append_assoc]
  refine .trans (List.Perm.append_left _ ?_) p
  show (x :: (la.drop ia ++ lb.drop (ib + 1))).Perm _
  exact List.perm_middle.symm
theorem wh2 {α:Type} {l:List α} {i k:Nat} {x:α} (e:l[i + k]?=some x):(l.drop i).take (k + 1)=(l.drop i).take k ++ [x]:=by
 rw [List.take_succ,List.getElem?_drop,e]; rfl
theorem MI.as {la lb out:List Keyed} {ia ib:Nat} (m:MI lt la lb out ia ib) (sa:la.Pairwise (le lt)):∀ k,ia + k<=la.length->(∀ i x,i < k->la[ia + i]?=some x->∀ y ∈ lb.drop ib,le lt x y)->MI lt la lb (out ++ (la.drop ia).take k) (ia + k) ib
 | 0,_,_=>by rw [List.take_zero,List.append_nil]; exact m
 | k + 1,h,q=>by
  have e:la[ia + k]?=some la[ia + k]:=List.getElem?_eq_getElem (by omega)
  rw [wh2 e,<- List.append_assoc]
  exact (m.as sa k (by omega) λ i x hi=>q i x (by omega)).a sa e (q k _ (by omega) e)
theorem MI.bs {la lb out:List Keyed} {ia ib:Nat} (m:MI lt la lb out ia ib) (sb:lb.Pairwise (le lt)):∀ k,ib + k<=lb.length->(∀ i x,i < k->lb[ib + i]?=some x->∀ y ∈ la.drop ia,le lt x y)->MI lt la lb (out ++ (lb.drop ib).take k) ia (ib + k)
 | 0,_,_=>by rw [List.take_zero,List.append_nil]; exact m
 | k + 1,h,q=>by
  have e:lb[ib + k]?=some lb[ib + k]:=List.getElem?_eq_getElem (by omega)
  rw [wh2 e,<- List.append_assoc]
  exact (m.bs sb k (by omega) λ i x hi=>q i x (by omega)).b sb e (q k _ (by omega) e)
theorem MI.endB {la lb out:List Keyed} {ia ib:Nat} (m:MI lt la lb out ia ib) (sa:la.Pairwise (le lt)) (h:lb.length<=ib):Fin lt la lb (out ++ la.drop ia ++ lb.drop ib):=by
 have e:lb.drop ib=[]:=List.drop_eq_nil_of_le h
 have p:=m.pm
 rw [e] at p ⊢
 rw [List.append_nil] at p ⊢
 exact ⟨p,List.pairwise_append.mpr ⟨m.so,sa.sublist (List.drop_sublist _ _),m.xa⟩⟩
theorem MI.endA {la lb out:List Keyed} {ia ib:Nat} (m:MI lt la lb out ia ib) (sb:lb.Pairwise (le lt)) (h:la.length<=ia):Fin lt la lb (out ++ la.drop ia ++ lb.drop ib):=by
 have e:la.drop ia=[]:=List.drop_eq_nil_of_le h
 have p:=m.pm
 rw [e] at p ⊢
 rw [List.append_nil]
 exact ⟨p,List.pairwise_append.mpr ⟨m.so,sb.sublist (List.drop_sublist _ _),m.xb⟩⟩
theorem MI.last {la lb out:List Keyed} {ia ib:Nat} (m:MI lt la lb out ia ib) (sb:lb.Pairwise (le lt)) (h:ia + 1=la.length) (k:∀ x,la[la.length - 1]?=some x->∀ y ∈ lb,le lt y x):Fin lt la lb (out ++ lb.drop ib ++ la.drop ia):=by
 have e:la[ia]?=some la[ia]:=List.getElem?_eq_getElem (by omega)
 have d:=yr0 e
 have e2:la.drop (ia + 1)=[]:=List.drop_eq_nil_of_le (by omega)
 rw [e2] at d
 refine ⟨?_,?_⟩
 ·refine .trans ?_ m.pm
  rw [List.append_assoc]
  exact List.Perm.append_left _ List.perm_append_comm
 ·rw [List.append_assoc]
  refine List.pairwise_append.mpr ⟨m.so,List.pairwise_append.mpr ⟨sb.sublist (List.drop_sublist _ _),?_,λ x hx y hy=>?_⟩,λ x hx y hy=>?_⟩
  ·rw [d]; exact List.pairwise_singleton _ _
  ·rw [d,List.mem_singleton] at hy
   subst hy
   exact k _ (by rw [show la.length - 1=ia by omega]; exact e) x (List.mem_of_mem_drop hx)
  ·rcases List.mem_append.mp hy with hy | hy
   ·exact m.xb x hx y hy
   ·exact m.xa x hx y hy
noncomputable def Mid (lt:Keyed->Keyed->Bool) (la lb:List Keyed) (n:Nat) (r:Option (Array Keyed)) (out:Array Keyed) (ia ib:Nat):Prop:=match r with
 | some z=>Fin lt la lb z.toList
 | none=>MI lt la lb out.toList ia ib /\ ia + 1 < la.length /\ ib < lb.length /\ n<=ia + ib
end
structure Same (κ:SortKind) (st0 st:SortSt):Prop where
 ok:Ok κ st
 ar:arrOf st=arrOf st0
 pe:pendingOf st=pendingOf st0
theorem zp0 (a:Array Keyed) (i:Nat):(a.extract i a.size).toList=a.toList.drop i:=by
 rw [Array.toList_extract]
 simp only [List.extract]
 exact List.take_of_length_le (by rw [List.length_drop,Array.length_toList]; omega)
theorem yy6 (a:Array Keyed) (i k:Nat):(a.extract i (i + k)).toList=(a.toList.drop i).take k:=by
 rw [Array.toList_extract]
 simp [List.extract]
section
variable {prog:Program} {w:World} {A:Around} {E:Value->Shared->Prop} {s:Shared} {κ:SortKind}
variable {lt:Keyed->Keyed->Bool} {M:Keyed->Prop}
theorem zi0 {a:Array Keyed} {i:Nat} (h:i < a.toList.length):∃ x,a[i]?=some x /\ a.toList[i]?=some x /\ x ∈ a.toList:=by
 refine ⟨a.toList[i],?_,List.getElem?_eq_getElem h,List.getElem_mem h⟩
 rw [<- Array.getElem?_toList,List.getElem?_eq_getElem h]
theorem getD_some {l:List Keyed} {i:Nat} {x d:Keyed} (h:l[i]?=some x):l.getD i d=x:=by rw [List.getD_eq_getElem?_getD,h]; rfl
theorem wg1 {l:List Keyed} (h:l.Pairwise (le lt)) {i j:Nat} {x y:Keyed} (hij:i < j) (ex:l[i]?=some x) (ey:l[j]?=some y):le lt x y:=by
 obtain ⟨h1,rfl⟩:=List.getElem?_eq_some_iff.mp ex
 obtain ⟨h2,rfl⟩:=List.getElem?_eq_some_iff.mp ey
 exact List.pairwise_iff_getElem.mp h i j h1 h2 hij
theorem byF (c:Cm prog w A s κ lt M) {a:Array Keyed} (ma:∀ x ∈ a.toList,M x) {key:Keyed} {ia n:Nat} (hn:ia + n<=a.size) (mk:M key) (sa:a.toList.Pairwise (le lt)):By lt M false key a ia n (λ i=>!lt key (a.toList.getD (ia + i) key)) where
 ky:=mk
 it:=λ i hi=>by
  obtain ⟨x,e1,e2,e3⟩:=zi0 (a:=a) (i:=ia + i) (by rw [Array.length_toList]; omega)
  exact ⟨x,e1,ma x e3,by rw [getD_some e2,if_neg (by simp)]⟩
 mono:=λ i j hij hj h=>by
  by_cases z:i=j
  ·subst z; exact h
  obtain ⟨x,_,e2,_⟩:=zi0 (a:=a) (i:=ia + i) (by rw [Array.length_toList]; omega)
  obtain ⟨y,_,e5,_⟩:=zi0 (a:=a) (i:=ia + j) (by rw [Array.length_toList]; omega)
  have l:=wg1 sa (show ia + i < ia + j by omega) e2 e5
  rw [getD_some e5] at h
  rw [getD_some e2]
  have h':le lt y key:=(by simpa using h:lt key y=false)
  have q:lt key x=false:=c.le_tr l h'
  simpa using q
theorem byT (c:Cm prog w A s κ lt M) {a:Array Keyed} (ma:∀ x ∈ a.toList,M x) {key:Keyed} {ia n:Nat} (hn:ia + n<=a.size) (mk:M key) (sa:a.toList.Pairwise (le lt)):By lt M true key a ia n (λ i=>lt (a.toList.getD (ia + i) key) key) where
 ky:=mk
 it:=λ i hi=>by
  obtain ⟨x,e1,e2,e3⟩:=zi0 (a:=a) (i:=ia + i) (by rw [Array.length_toList]; omega)
  exact ⟨x,e1,ma x e3,by rw [getD_some e2,if_pos rfl]⟩
 mono:=λ i j hij hj h=>by
  by_cases z:i=j
  ·subst z; exact h
  obtain ⟨x,_,e2,_⟩:=zi0 (a:=a) (i:=ia + i) (by rw [Array.length_toList]; omega)
  obtain ⟨y,_,e5,_⟩:=zi0 (a:=a) (i:=ia + j) (by rw [Array.length_toList]; omega)
  have l:=wg1 sa (show ia + i < ia + j by omega) e2 e5
  rw [getD_some e5] at h
  rw [getD_some e2]
  rcases c.ng y x key h with q | q
  ·rw [show lt y x=false from l] at q; cases q
  ·exact q
noncomputable def Pst (κ:SortKind) (lt:Keyed->Keyed->Bool) (a b:Array Keyed) (st:SortSt) (x:Nat):ForInStep GR->SortSt->Prop:=λ r st'=>match r with
 | .done c'=>Same κ st st' /\ Mid lt a.toList b.toList (x + 2) c'.1 c'.2.1 c'.2.2.1 c'.2.2.2.1
 | .yield c'=>Same κ st st' /\ c'.1=none /\ Mid lt a.toList b.toList (x + 2) none c'.2.1 c'.2.2.1 c'.2.2.2.1
theorem xs5 {α:Type} {Md:Model} {A:Around} {E:Value->Shared->Prop} {s:Shared} {C:Nat->Prop} [I:∀ g,Decidable (C g)] {t e:Nat->StateT SortSt Sem α} {Q:α->SortSt->Prop} {st:SortSt} (ht:∀ g,t g=e (g - 1)) (h:∀ g,wpS Md A E s (e g) Q st) (g:Nat):wpS Md A E s (@ite _ (C g) (I g) (t g) (e g)) Q st:=by
 by_cases q:C g
 ·rw [if_pos q,ht]; exact h _
 ·rw [if_neg q]; exact h _
theorem zn8 (c:Cm prog w A s κ lt M) {a b:Array Keyed} {st:SortSt} {Q:Array Keyed->SortSt->Prop} (o:Ok κ st) (ma:∀ x ∈ a.toList,M x) (mb:∀ x ∈ b.toList,M x) (sa:a.toList.Pairwise (le lt)) (sb:b.toList.Pairwise (le lt))
    (na:0 < a.toList.length) (nb:0 < b.toList.length) (h0:∀ x y,b.toList[0]?=some x->a.toList[0]?=some y->le lt x y) (hl:∀ x,a.toList[a.toList.length - 1]?=some x->∀ y ∈ b.toList,le lt y x)
    (h:∀ r st',Same κ st st'->Fin lt a.toList b.toList r.toList->Q r st'):wpS (model prog w) A E s (mlo a b) Q st:=by
 refine wpS_bind (wpS_lift (wpAny_rule ⟨rfl,?_⟩))
 obtain ⟨b0,eb,eb',hb0⟩:=zi0 (a:=b) nb
 refine wpS_bind (wh0 eb ?_)
 dsimp only
 obtain ⟨a0,ea,ea',ha0⟩:=zi0 (a:=a) na
 have dn:∀ {l:List Keyed} {x:Keyed} {i:Nat},l.Pairwise (le lt)->l[i]?=some x->∀ z,le lt z x->∀ y ∈ l.drop i,le lt z y:=by
  intro l x i sl e z hz y hy
  rw [yr0 e] at hy
  rcases List.mem_cons.mp hy with rfl | hy
  ·exact hz
  ·exact c.le_tr hz (zt2 sl e y hy)
 have m0:MI lt a.toList b.toList #[b0].toList 0 1:=by
  have m:MI lt a.toList b.toList [] 0 0:=⟨List.Pairwise.nil,λ _ h=>(nomatch h),λ _ h=>(nomatch h),.refl _⟩
  exact m.b sb eb' (dn sa ea' b0 (h0 _ _ eb' ea'))
 have doneB:∀ {out:Array Keyed} {ia ib:Nat},MI lt a.toList b.toList out.toList ia ib->b.size<=ib->Fin lt a.toList b.toList (out ++ a.extract ia a.size ++ b.extract ib b.size).toList:=by
  intro out ia ib m hi
  rw [Array.toList_append,Array.toList_append,zp0,zp0]
  exact m.endB sa hi
 have doneA:∀ {out:Array Keyed} {ia ib:Nat},MI lt a.toList b.toList out.toList ia ib->a.size<=ia->Fin lt a.toList b.toList (out ++ a.extract ia a.size ++ b.extract ib b.size).toList:=by
  intro out ia ib m hi
  rw [Array.toList_append,Array.toList_append,zp0,zp0]
  exact m.endA sb hi
 have lastA:∀ {out:Array Keyed} {ia ib:Nat},MI lt a.toList b.toList out.toList ia ib->ia + 1=a.size->Fin lt a.toList b.toList (out ++ b.extract ib b.size ++ a.extract ia a.size).toList:=by
  intro out ia ib m hi
  rw [Array.toList_append,Array.toList_append,zp0,zp0]
  exact m.last sb hi hl
 have sza:a.toList.length=a.size:=Array.length_toList
 have szb:b.toList.length=b.size:=Array.length_toList
 have nxA:∀ (x k1 k2 g:Nat) (out:Array Keyed) (i j:Nat) (st3:SortSt),Same κ st st3->MI lt a.toList b.toList out.toList i j->i + 1 < a.size->j < b.size->x + 2<=i + j + 1->(∀ v,a.toList[i]?=some v->∀ y ∈ b.toList.drop j,le lt v y) ->
     wpS (model prog w) A E s (elem' a i >>= λ v=>if (i + 1 + 1 == a.size)=true then pure (.done (some (out.push v ++ b.extract j b.size ++ a.extract (i + 1) a.size),out.push v,i + 1,j,g,k1,k2))
      else if (decide (k1 < 7) && decide (k2 < 7))=true then pure (.done (none,out.push v,i + 1,j,g,k1,k2)) else pure (.yield (none,out.push v,i + 1,j,g,k1,k2))) (Pst κ lt a b st x) st3:=by
  intro x k1 k2 g out i j st3 s3 m h1 h2 h3 hle
  obtain ⟨va,e4,e5,e6⟩:=zi0 (a:=a) (i:=i) (by omega)
  refine wpS_bind (wh0 e4 ?_)
  have m':=m.a sa e5 (hle va e5)
  rw [<- Array.toList_push] at m'
  by_cases z:(i + 1 + 1 == a.size)=true
  ·rw [if_pos z]
   exact wpS_pure ⟨s3,lastA m' (eq_of_beq z)⟩
  ·rw [if_neg z]
   have z':i + 1 + 1 ≠ a.size:=λ e=>z (beq_iff_eq.mpr e)
   by_cases y1:(decide (k1 < 7) && decide (k2 < 7))=true
   ·rw [if_pos y1]
    exact wpS_pure ⟨s3,m',by show i + 1 + 1 < _; omega,by show j < _; omega,by show _<=i + 1 + j; omega⟩
   ·rw [if_neg y1]
    exact wpS_pure ⟨s3,rfl,m',by show i + 1 + 1 < _; omega,by show j < _; omega,by show _<=i + 1 + j; omega⟩
 have nxB:∀ (x k bc g:Nat) (out:Array Keyed) {i j:Nat} {st3:SortSt} {vb:Keyed},Same κ st st3->MI lt a.toList b.toList out.toList i j->i + 1 < a.size->j < b.toList.length->x + 2<=i + j->b[j]?=some vb->b.toList[j]?=some vb->(∀ y ∈ a.toList.drop i,le lt vb y) ->
     ∀ (G:Keyed->Keyed->Option Nat->StateT SortSt Sem (ForInStep GR)),(∀ v y k2,G v y (some k2)=galC a b k k2 (out.push v) i (j + 1) g) ->
     wpS (model prog w) A E s (elem' b j >>= λ v=>if (j + 1 == b.size)=true then pure (.done (some (out.push v ++ a.extract i a.size ++ b.extract (j + 1) b.size),out.push v,i,j + 1,g,k,bc))
      else elem' a i >>= λ y=>gal true y b (j + 1) (b.size - (j + 1)) 0 >>= G v y) (Pst κ lt a b st x) st3:=by
  intro x k bc g out i j st3 vb s3 m h1 h2 h3 e1 e2 lo G hG
  refine wpS_bind (wh0 e1 ?_)
  have m':=m.b sb e2 lo
  rw [<- Array.toList_push] at m'
  by_cases z:(j + 1 == b.size)=true
  ·rw [if_pos z]
   exact wpS_pure ⟨s3,doneB m' (Nat.le_of_eq (eq_of_beq z).symm)⟩
  ·rw [if_neg z]
   have z':j + 1 ≠ b.size:=λ e=>z (beq_iff_eq.mpr e)
   obtain ⟨va,e4,e5,e6⟩:=zi0 (a:=a) (i:=i) (by omega)
   refine wpS_bind (wh0 e4 ?_)
   refine wpS_bind (zx1 c s3.ok (byT c mb (by omega) (ma _ e6) sb) (by omega) λ k2 q1 q2 q3=>?_)
   rw [hG]
   unfold galC
   dsimp only
   have mk:=m'.bs sb k2 (by omega) λ i y hi ey=>dn sa e5 y (by
    have q:=q2 i hi
    rw [getD_some ey] at q
    exact c.lt_le q)
   have lo2:∀ v,a.toList[i]?=some v->∀ y ∈ b.toList.drop (j + 1 + k2),le lt v y:=by
    intro v ev y hy
    rw [e5] at ev
    cases ev
    obtain ⟨n,hn,ey⟩:=List.mem_drop_iff_getElem.mp hy
    have q:=q3 (k2 + n) (by omega) (by omega)
    rw [getD_some (x:=y) (by rw [show j + 1 + (k2 + n)=j + 1 + k2 + n by omega,List.getElem?_eq_getElem (by omega)]; exact congrArg some ey)] at q
    exact q
   by_cases kp:k2 > 0
   ·rw [if_pos kp]
    rw [<- yy6,<- Array.toList_append] at mk
    by_cases zz:(j + 1 + k2 == b.size)=true
    ·rw [if_pos zz]
     exact wpS_pure ⟨s3,doneB mk (Nat.le_of_eq (eq_of_beq zz).symm)⟩
    ·rw [if_neg zz]
     have zz':j + 1 + k2 ≠ b.size:=λ e=>zz (beq_iff_eq.mpr e)
     exact nxA x _ _ _ _ _ _ _ s3 mk h1 (by omega) (by omega) lo2
   ·rw [if_neg kp]
    have k0:k2=0:=by omega
    subst k0
    exact nxA x _ _ _ _ _ _ _ s3 m' h1 (by omega) (by omega) lo2
 by_cases z1:(1 == b.size)=true
 ·rw [if_pos z1]
  exact wpS_pure (h _ _ ⟨o,rfl,rfl⟩ (doneB m0 (by have:=eq_of_beq z1; omega)))
 rw [if_neg z1]
 by_cases z2:(0 + 1 == a.size)=true
 ·rw [if_pos z2]
  exact wpS_pure (h _ _ ⟨o,rfl,rfl⟩ (lastA m0 (eq_of_beq z2)))
 rw [if_neg z2]
 have n1:b.size ≠ 1:=λ e=>z1 (beq_iff_eq.mpr e.symm)
 have n2:a.size ≠ 1:=λ e=>z2 (beq_iff_eq.mpr e.symm)
 refine wpS_bind (wpS_get ?_)
 refine wpS_bind (wpS_mono (wpS_forRange (λ x (r:Option (Array Keyed) × Array Keyed × Nat × Nat × Nat) st'=>Same κ st st' /\ r.1=none /\ Mid lt a.toList b.toList (x + 1) none r.2.1 r.2.2.1 r.2.2.2.1)
  (Q:=λ (r:Option (Array Keyed) × Array Keyed × Nat × Nat × Nat) st'=>Same κ st st' /\ ∃ z,r.1=some z /\ Fin lt a.toList b.toList z.toList) ?_ ?_ ⟨⟨o,rfl,rfl⟩,rfl,m0,by show 0 + 1 < _; omega,by show 1 < _; omega,Nat.le_refl 1⟩) ?_)
 ·rintro x ⟨r,out,ia,ib,mg⟩ st1 _ hx ⟨s1,rfl,mi⟩
  dsimp only at mi ⊢
  refine wpS_bind (wpS_mono (wpS_forRange (λ y (r:Option (Array Keyed) × Array Keyed × Nat × Nat × Nat × Nat) st'=>Same κ st st' /\ r.1=none /\ Mid lt a.toList b.toList (x + 1 + y) none r.2.1 r.2.2.1 r.2.2.2.1)
   (Q:=λ (r:Option (Array Keyed) × Array Keyed × Nat × Nat × Nat × Nat) st'=>Same κ st st' /\ Mid lt a.toList b.toList (x + 2) r.1 r.2.1 r.2.2.1 r.2.2.2.1) ?_ ?_ ⟨s1,rfl,mi⟩) ?_)
  ·rintro y ⟨r,out,ia,ib,ac,bc⟩ st2 _ hy ⟨s2,rfl,m,i1,i2,i3⟩
   dsimp only at m i1 i2 i3 ⊢
   obtain ⟨vb,e1,e2,e3⟩:=zi0 (a:=b) i2
   obtain ⟨va,e4,e5,e6⟩:=zi0 (a:=a) (i:=ia) (by omega)
   refine wpS_bind (wh0 e1 (wpS_bind (wh0 e4 (wpS_bind (yl4 c s2.ok (mb _ e3) (ma _ e6) ?_)))))
   cases q:lt vb va with
   | true =>
    dsimp only
    rw [if_pos rfl]
    refine wpS_bind (wh0 e1 ?_)
    have m':=m.b sb e2 (dn sa e5 vb (c.lt_le q))
    rw [<- Array.toList_push] at m'
    by_cases z:(ib + 1 == b.size)=true
    ·rw [if_pos z]
     exact wpS_pure ⟨s2,doneB m' (Nat.le_of_eq (eq_of_beq z).symm)⟩
    ·rw [if_neg z]
     have z':ib + 1 ≠ b.size:=λ e=>z (beq_iff_eq.mpr e)
     by_cases y1:bc + 1 ≥ mg
     ·rw [if_pos y1]
      exact wpS_pure ⟨s2,m',i1,by show ib + 1 < _; omega,by show _<=ia + (ib + 1); omega⟩
     ·rw [if_neg y1]
      exact wpS_pure ⟨s2,rfl,m',i1,by show ib + 1 < _; omega,by show _<=ia + (ib + 1); omega⟩
   | false =>
    dsimp only
    rw [if_neg (by simp)]
    refine wpS_bind (wh0 e4 ?_)
    have m':=m.a sa e5 (dn sb e2 va q)
    rw [<- Array.toList_push] at m'
    by_cases z:(ia + 1 + 1 == a.size)=true
    ·rw [if_pos z]
     exact wpS_pure ⟨s2,lastA m' (eq_of_beq z)⟩
    ·rw [if_neg z]
     have z':ia + 1 + 1 ≠ a.size:=λ e=>z (beq_iff_eq.mpr e)
     by_cases y1:ac + 1 ≥ mg
     ·rw [if_pos y1]
      exact wpS_pure ⟨s2,m',by show ia + 1 + 1 < _; omega,i2,by show _<=ia + 1 + ib; omega⟩
     ·rw [if_neg y1]
      exact wpS_pure ⟨s2,rfl,m',by show ia + 1 + 1 < _; omega,i2,by show _<=ia + 1 + ib; omega⟩
  ·rintro ⟨r,out,ia,ib,ac,bc⟩ st2 ⟨s2,rfl,m,i1,i2,i3⟩
   exact ⟨s2,m,i1,i2,by omega⟩
  ·rintro ⟨r,out,ia,ib,ac,bc⟩ st2 ⟨s2,mm⟩
   dsimp only at mm ⊢
   cases r with
   | some z=>exact wpS_pure ⟨s2,z,rfl,mm⟩
   | none =>
    dsimp only
    refine wpS_bind (wpS_lift (wpAny_rule ⟨rfl,?_⟩))
    refine wpS_bind (wpS_mono (wpS_forRange (λ y (r:Option (Array Keyed) × Array Keyed × Nat × Nat × Nat × Nat × Nat) st'=>Same κ st st' /\ r.1=none /\ Mid lt a.toList b.toList (x + 2) none r.2.1 r.2.2.1 r.2.2.2.1)
     (Q:=λ (r:Option (Array Keyed) × Array Keyed × Nat × Nat × Nat × Nat × Nat) st'=>Same κ st st' /\ Mid lt a.toList b.toList (x + 2) r.1 r.2.1 r.2.2.1 r.2.2.2.1) ?_ ?_ ⟨s2,rfl,mm⟩) ?_)
    ·rintro y ⟨r,out,ia,ib,mg,ac,bc⟩ st3 _ hy ⟨s3,rfl,m,i1,i2,i3⟩
     dsimp only at m i1 i2 i3 ⊢
     have s3':∀ g:Nat,Same κ st (SortSt.mk' (kindOf st3) (arrOf st3) (pendingOf st3) g (failedOf st3)):=λ g=>⟨⟨s3.ok.kd,s3.ok.fl⟩,s3.ar,s3.pe⟩
     obtain ⟨vb,e1,e2,e3⟩:=zi0 (a:=b) i2
     revert mg
     refine xs5 (λ _=>rfl) λ mg=>?_
     refine wpS_bind (wpS_modify ?_)
     refine wpS_bind (wh0 e1 ?_)
     refine wpS_bind (zx1 c (s3' _).ok (byF c ma (by omega) (mb _ e3) sa) (by omega) λ k k1 k2 k3=>?_)
     dsimp only
     have mk:=m.as sa k (by omega) λ i y hi ey=>dn sb e2 y (by
      have q:=k2 i hi
      rw [getD_some ey] at q
      exact (by simpa using q:lt vb y=false))
     have lo:∀ y ∈ a.toList.drop (ia + k),le lt vb y:=by
      intro y hy
      obtain ⟨i,hi,ey⟩:=List.mem_drop_iff_getElem.mp hy
      have q:=k3 (k + i) (by omega) (by omega)
      rw [getD_some (x:=y) (by rw [show ia + (k + i)=ia + k + i by omega,List.getElem?_eq_getElem (by omega)]; exact congrArg some ey)] at q
      exact c.lt_le (by simpa using q)
     by_cases kp:k > 0
     ·rw [if_pos kp]
      have mk':=mk
      rw [<- yy6,<- Array.toList_append] at mk'
      by_cases z:(ia + k + 1 == a.size)=true
      ·rw [if_pos z]
       exact wpS_pure ⟨s3' _,lastA mk' (eq_of_beq z)⟩
      ·rw [if_neg z]
       have z':ia + k + 1 ≠ a.size:=λ e=>z (beq_iff_eq.mpr e)
       by_cases zz:(ia + k == a.size)=true
       ·rw [if_pos zz]
        exact wpS_pure ⟨s3' _,doneA mk' (Nat.le_of_eq (eq_of_beq zz).symm)⟩
       ·rw [if_neg zz]
        have zz':ia + k ≠ a.size:=λ e=>zz (beq_iff_eq.mpr e)
        refine wpS_mono (nxB x k bc _ _ (s3' _) mk' (by omega) i2 (by omega) e1 e2 lo _ ?_) ?_
        ·intro _ _ _; rfl
        ·intro r st' q; cases r <;> exact q
     ·rw [if_neg kp]
      have k0:k=0:=by omega
      subst k0
      rw [List.take_zero,List.append_nil] at mk
      refine wpS_mono (nxB x 0 bc _ _ (s3' _) m (by omega) i2 (by omega) e1 e2 lo _ ?_) ?_
      ·intro _ _ _; rfl
      ·intro r st' q; cases r <;> exact q
    ·rintro ⟨r,out,ia,ib,mg,ac,bc⟩ st3 ⟨s3,rfl,m,i1,i2,i3⟩
     exact ⟨s3,m,i1,i2,i3⟩
    ·rintro ⟨r,out,ia,ib,mg,ac,bc⟩ st3 ⟨s3,mm⟩
     dsimp only at mm ⊢
     cases r with
     | some z=>exact wpS_pure ⟨s3,z,rfl,mm⟩
     | none =>
      dsimp only
      exact wpS_bind (wpS_modify (wpS_pure ⟨⟨⟨s3.ok.kd,s3.ok.fl⟩,s3.ar,s3.pe⟩,rfl,mm⟩))
 ·rintro ⟨r,out,ia,ib,mg⟩ st1 ⟨s1,rfl,m,i1,i2,i3⟩
  exfalso
  dsimp only at i1 i2 i3
  omega
 ·rintro ⟨r,out,ia,ib,mg⟩ st1 ⟨s1,z,e,f⟩
  dsimp only at e ⊢
  subst e
  exact wpS_pure (h z st1 s1 f)
end
end Ts
namespace Ts
open PySem PyProof.Rows
noncomputable def mhi:Array Keyed->Array Keyed->StateT SortSt Sem (Array Keyed):=sortPriv% PySem.Builtin.mergeHi
section
variable {lt:Keyed->Keyed->Bool}
theorem xk0 {α:Type} {l:List α} {i:Nat} {x:α} (h:l[i]?=some x):l.take (i + 1)=l.take i ++ [x]:=by rw [List.take_succ,h]; rfl
theorem yf3 {α:Type} {l:List α} {i n:Nat} {x:α} (h:l[i]?=some x) (hi:i < n):x ∈ l.take n:=List.mem_iff_getElem?.mpr ⟨i,by rw [List.getElem?_take_of_lt hi]; exact h⟩
structure MH (lt:Keyed->Keyed->Bool) (la lb ro:List Keyed) (na nb:Nat):Prop where
 so:ro.Pairwise (le lt)
 xa:∀ x ∈ la.take na,∀ y ∈ ro,le lt x y
 xb:∀ x ∈ lb.take nb,∀ y ∈ ro,le lt x y
 pm:(la.take na ++ (lb.take nb ++ ro)).Perm (la ++ lb)
theorem xb6 {l:List Keyed} (h:l.Pairwise (le lt)) {n:Nat} {x:Keyed} (e:l[n]?=some x):∀ z ∈ l.take n,le lt z x:=by
 intro z hz
 obtain ⟨i,hi,ez⟩:=List.mem_take_iff_getElem.mp hz
 exact wg1 h (by omega) (List.getElem?_eq_some_iff.mpr ⟨by omega,ez⟩) e
theorem MH.a {la lb ro:List Keyed} {n nb:Nat} {x:Keyed} (m:MH lt la lb ro (n + 1) nb) (sa:la.Pairwise (le lt)) (e:la[n]?=some x) (k:∀ y ∈ lb.take nb,le lt y x):MH lt la lb (x :: ro) n nb:=by
 have d:=xk0 e
 refine ⟨List.pairwise_cons.mpr ⟨λ y hy=>m.xa x (yf3 e (by omega)) y hy,m.so⟩,λ z hz y hy=>?_,λ z hz y hy=>?_,?_⟩
 ·rcases List.mem_cons.mp hy with rfl | hy
  ·exact xb6 sa e z hz
  ·exact m.xa z (by rw [d]; exact List.mem_append_left _ hz) y hy
 ·rcases List.mem_cons.mp hy with rfl | hy
  ·exact k z hz
  ·exact m.xb z hz y hy
 ·refine .trans ?_ m.pm
  rw [d,List.append_assoc]
  refine List.Perm.append_left _ ?_
  exact List.perm_middle
theorem MH.b {la lb ro:List Keyed} {na n:Nat} {x:Keyed} (m:MH lt la lb ro na (n + 1)) (sb:lb.Pairwise (le lt)) (e:lb[n]?=some x) (k:∀ y ∈ la.take na,le lt y x):MH lt la lb (x :: ro) na n:=by
 have d:=xk0 e
 refine ⟨List.pairwise_cons.mpr ⟨λ y hy=>m.xb x (yf3 e (by omega)) y hy,m.so⟩,λ z hz y hy=>?_,λ z hz y hy=>?_,?_⟩
 ·rcases List.mem_cons.mp hy with rfl | hy
  ·exact k z hz
  ·exact m.xa z hz y hy
 ·rcases List.mem_cons.mp hy with rfl | hy
  ·exact xb6 sb e z hz
  ·exact m.xb z (by rw [d]; exact List.mem_append_left _ hz) y hy
 ·have p:=m.pm
  rw [d,List.append_assoc] at p
  exact p
theorem MH.as {la lb:List Keyed} {nb:Nat} (sa:la.Pairwise (le lt)) {at_:Nat}:∀ (k:Nat) {ro:List Keyed},MH lt la lb ro (at_ + k) nb->at_ + k<=la.length->(∀ i x,at_<=i->i < at_ + k->la[i]?=some x->∀ y ∈ lb.take nb,le lt y x)->MH lt la lb ((la.take (at_ + k)).drop at_ ++ ro) at_ nb
 | 0,ro,m,_,_=>by
  have e:(la.take (at_ + 0)).drop at_=[]:=List.drop_eq_nil_of_le (by rw [List.length_take]; omega)
  rw [e]
  exact m
 | k + 1,ro,m,h,q=>by
  have e:la[at_ + k]?=some la[at_ + k]:=List.getElem?_eq_getElem (by omega)
  have m2:=MH.a (n:=at_ + k) m sa e (q _ _ (by omega) (by omega) e)
  have r:=MH.as sa k m2 (by omega) λ i x h1 h2=>q i x h1 (by omega)
  have e2:(la.take (at_ + (k + 1))).drop at_=(la.take (at_ + k)).drop at_ ++ [la[at_ + k]]:=by
   rw [show at_ + (k + 1)=at_ + k + 1 from rfl,xk0 e,List.drop_append_of_le_length (by rw [List.length_take]; omega)]
  rw [e2,List.append_assoc]
  exact r
theorem MH.bs {la lb:List Keyed} {na:Nat} (sb:lb.Pairwise (le lt)) {at_:Nat}:∀ (k:Nat) {ro:List Keyed},MH lt la lb ro na (at_ + k)->at_ + k<=lb.length->(∀ i x,at_<=i->i < at_ + k->lb[i]?=some x->∀ y ∈ la.take na,le lt y x)->MH lt la lb ((lb.take (at_ + k)).drop at_ ++ ro) na at_
 | 0,ro,m,_,_=>by
  have e:(lb.take (at_ + 0)).drop at_=[]:=List.drop_eq_nil_of_le (by rw [List.length_take]; omega)
  rw [e]
  exact m
 | k + 1,ro,m,h,q=>by
  have e:lb[at_ + k]?=some lb[at_ + k]:=List.getElem?_eq_getElem (by omega)
  have m2:=MH.b (n:=at_ + k) m sb e (q _ _ (by omega) (by omega) e)
  have r:=MH.bs sb k m2 (by omega) λ i x h1 h2=>q i x h1 (by omega)
  have e2:(lb.take (at_ + (k + 1))).drop at_=(lb.take (at_ + k)).drop at_ ++ [lb[at_ + k]]:=by
   rw [show at_ + (k + 1)=at_ + k + 1 from rfl,xk0 e,List.drop_append_of_le_length (by rw [List.length_take]; omega)]
  rw [e2,List.append_assoc]
  exact r
theorem MH.endA {la lb ro:List Keyed} {nb:Nat} (m:MH lt la lb ro 0 nb) (sb:lb.Pairwise (le lt)):Fin lt la lb (la.take 0 ++ lb.take nb ++ ro):=by
 have p:=m.pm
 rw [List.take_zero,List.nil_append] at p ⊢
 exact ⟨p,List.pairwise_append.mpr ⟨sb.sublist (List.take_sublist _ _),m.so,m.xb⟩⟩
theorem MH.endB {la lb ro:List Keyed} {na:Nat} (m:MH lt la lb ro na 0) (sa:la.Pairwise (le lt)):Fin lt la lb (la.take na ++ lb.take 0 ++ ro):=by
 have p:=m.pm
 rw [List.take_zero,List.nil_append] at p
 rw [List.take_zero,List.append_nil]
 exact ⟨p,List.pairwise_append.mpr ⟨sa.sublist (List.take_sublist _ _),m.so,m.xa⟩⟩
theorem MH.first {la lb ro:List Keyed} {na:Nat} (m:MH lt la lb ro na 1) (sa:la.Pairwise (le lt)) (hb:0 < lb.length) (k:∀ x,lb[0]?=some x->∀ y ∈ la,le lt x y):Fin lt la lb (lb.take 1 ++ la.take na ++ ro):=by
 have e:lb[0]?=some lb[0]:=List.getElem?_eq_getElem hb
 have d:=xk0 e
 rw [List.take_zero,List.nil_append] at d
 refine ⟨?_,?_⟩
 ·refine .trans ?_ m.pm
  rw [<- List.append_assoc]
  exact List.Perm.append_right _ List.perm_append_comm
 ·refine List.pairwise_append.mpr ⟨List.pairwise_append.mpr ⟨?_,sa.sublist (List.take_sublist _ _),λ x hx y hy=>?_⟩,m.so,λ x hx y hy=>?_⟩
  ·rw [d]; exact List.pairwise_singleton _ _
  ·rw [d,List.mem_singleton] at hx
   subst hx
   exact k _ e y (List.mem_of_mem_take hy)
  ·rcases List.mem_append.mp hx with hx | hx
   ·exact m.xb x hx y hy
   ·exact m.xa x hx y hy
noncomputable def MidH (lt:Keyed->Keyed->Bool) (la lb:List Keyed) (n:Nat) (r:Option (Array Keyed)) (na nb:Nat) (out:Array Keyed):Prop:=match r with
 | some z=>Fin lt la lb z.toList
 | none=>MH lt la lb out.toList.reverse na nb /\ 0 < na /\ na<=la.length /\ 1 < nb /\ nb<=lb.length /\ na + nb + n<=la.length + lb.length
end
theorem ext0 (a:Array Keyed) (n:Nat):(a.extract 0 n).toList=a.toList.take n:=by
 rw [Array.toList_extract]
 simp [List.extract]
theorem xy6 (a:Array Keyed) (i n:Nat):(a.extract i n).toList=(a.toList.take n).drop i:=by
 rw [Array.toList_extract,List.extract_eq_drop_take,List.drop_take]
theorem xj1 (u:Array Keyed) (v:Keyed):(u.push v).toList.reverse=v :: u.toList.reverse:=by simp
theorem zc4 (u t:Array Keyed):(u ++ t.reverse).toList.reverse=t.toList ++ u.toList.reverse:=by simp
noncomputable abbrev GH:=Option (Array Keyed) × Nat × Nat × Array Keyed × Nat × Nat × Nat
noncomputable def PstH (κ:SortKind) (lt:Keyed->Keyed->Bool) (a b:Array Keyed) (st:SortSt) (x:Nat):ForInStep GH->SortSt->Prop:=λ r st'=>match r with
 | .done c'=>Same κ st st' /\ MidH lt a.toList b.toList (x + 2) c'.1 c'.2.1 c'.2.2.1 c'.2.2.2.1
 | .yield c'=>Same κ st st' /\ c'.1=none /\ MidH lt a.toList b.toList (x + 2) none c'.2.1 c'.2.2.1 c'.2.2.2.1
noncomputable def galH (a b:Array Keyed) (k1 t:Nat) (u:Array Keyed) (i j g:Nat):StateT SortSt Sem (ForInStep GH) :=
 let nx:Nat->Array Keyed->StateT SortSt Sem (ForInStep GH):=λ m u=>elem' a (i - 1) >>= λ v =>
  if (i - 1 == 0)=true then pure (.done (some (a.extract 0 (i - 1) ++ b.extract 0 m ++ (u.push v).reverse),i - 1,m,u.push v,g,k1,j - t))
  else if (decide (k1 < 7) && decide (j - t < 7))=true then pure (.done (none,i - 1,m,u.push v,g,k1,j - t)) else pure (.yield (none,i - 1,m,u.push v,g,k1,j - t))
 if j - t > 0 then (if (t == 1)=true then pure (.done (some (b.extract 0 t ++ a.extract 0 i ++ (u ++ (b.extract t j).reverse).reverse),i,t,u ++ (b.extract t j).reverse,g,k1,j - t))
  else if (t == 0)=true then pure (.done (some (a.extract 0 i ++ b.extract 0 t ++ (u ++ (b.extract t j).reverse).reverse),i,t,u ++ (b.extract t j).reverse,g,k1,j - t)) else nx t (u ++ (b.extract t j).reverse)) else nx j u
section
variable {prog:Program} {w:World} {A:Around} {E:Value->Shared->Prop} {s:Shared} {κ:SortKind}
variable {lt:Keyed->Keyed->Bool} {M:Keyed->Prop}
theorem xo8 (c:Cm prog w A s κ lt M) {a b:Array Keyed} {st:SortSt} {Q:Array Keyed->SortSt->Prop} (o:Ok κ st) (ma:∀ x ∈ a.toList,M x) (mb:∀ x ∈ b.toList,M x) (sa:a.toList.Pairwise (le lt)) (sb:b.toList.Pairwise (le lt))
    (na:0 < a.toList.length) (nb:0 < b.toList.length) (h0:∀ x y,b.toList[0]?=some x->a.toList[0]?=some y->le lt x y) (hl:∀ x,a.toList[a.toList.length - 1]?=some x->∀ y ∈ b.toList,le lt y x)
    (h:∀ r st',Same κ st st'->Fin lt a.toList b.toList r.toList->Q r st'):wpS (model prog w) A E s (mhi a b) Q st:=by
 refine wpS_bind (wpS_lift (wpAny_rule ⟨rfl,?_⟩))
 have sza:a.toList.length=a.size:=Array.length_toList
 have szb:b.toList.length=b.size:=Array.length_toList
 obtain ⟨vl,el,el',hvl⟩:=zi0 (a:=a) (i:=a.size - 1) (by omega)
 refine wpS_bind (wh0 el ?_)
 dsimp only
 obtain ⟨a0,ea,ea',ha0⟩:=zi0 (a:=a) na
 have up:∀ {l:List Keyed} {x:Keyed} {n:Nat},l.Pairwise (le lt)->l[n]?=some x->∀ z,le lt x z->∀ y ∈ l.take (n + 1),le lt y z:=by
  intro l x n sl e z hz y hy
  rw [xk0 e] at hy
  rcases List.mem_append.mp hy with hy | hy
  ·exact c.le_tr (xb6 sl e y hy) hz
  ·rw [List.mem_singleton] at hy; subst hy; exact hz
 have fb:∀ x,b.toList[0]?=some x->∀ y ∈ a.toList,le lt x y:=by
  intro x ex y hy
  obtain ⟨i,hi,rfl⟩:=List.mem_iff_getElem.mp hy
  have e:=List.getElem?_eq_getElem hi
  have q:=h0 x a0 ex ea'
  by_cases z:i=0
  ·subst z; rw [ea'] at e; cases e; exact q
  ·exact c.le_tr q (wg1 sa (by omega) ea' e)
 have m0:MH lt a.toList b.toList #[vl].toList.reverse (a.size - 1) b.size:=by
  have m:MH lt a.toList b.toList [] (a.size - 1 + 1) b.size:=⟨List.Pairwise.nil,λ _ _ _ h=>(nomatch h),λ _ _ _ h=>(nomatch h),by
   rw [List.take_of_length_le (by omega),List.take_of_length_le (by omega),List.append_nil]⟩
  exact m.a sa el' λ y hy=>hl vl (by rw [sza]; exact el') y (List.mem_of_mem_take hy)
 have doneA:∀ {out:Array Keyed} {j:Nat} {i:Nat},MH lt a.toList b.toList out.toList.reverse i j->i=0->Fin lt a.toList b.toList (a.extract 0 i ++ b.extract 0 j ++ out.reverse).toList:=by
  intro out j i m hi
  subst hi
  rw [Array.toList_append,Array.toList_append,ext0,ext0,Array.toList_reverse]
  exact m.endA sb
 have doneB:∀ {out:Array Keyed} {j:Nat} {i:Nat},MH lt a.toList b.toList out.toList.reverse i j->j=0->Fin lt a.toList b.toList (a.extract 0 i ++ b.extract 0 j ++ out.reverse).toList:=by
  intro out j i m hi
  subst hi
  rw [Array.toList_append,Array.toList_append,ext0,ext0,Array.toList_reverse]
  exact m.endB sa
 have firstB:∀ {out:Array Keyed} {j:Nat} {i:Nat},MH lt a.toList b.toList out.toList.reverse i j->j=1->Fin lt a.toList b.toList (b.extract 0 j ++ a.extract 0 i ++ out.reverse).toList:=by
  intro out j i m hi
  subst hi
  rw [Array.toList_append,Array.toList_append,ext0,ext0,Array.toList_reverse]
  exact m.first sa nb fb
 have nxA:∀ (x k1 k2 g:Nat) (out:Array Keyed) (i j:Nat) (st3:SortSt),Same κ st st3->MH lt a.toList b.toList out.toList.reverse i j->0 < i->i<=a.size->1 < j->j<=b.size->i + j + (x + 1)<=a.size + b.size->(∀ v,a.toList[i - 1]?=some v->∀ y ∈ b.toList.take j,le lt y v) ->
     wpS (model prog w) A E s (elem' a (i - 1) >>= λ v=>if (i - 1 == 0)=true then pure (.done (some (a.extract 0 (i - 1) ++ b.extract 0 j ++ (out.push v).reverse),i - 1,j,out.push v,g,k1,k2))
      else if (decide (k1 < 7) && decide (k2 < 7))=true then pure (.done (none,i - 1,j,out.push v,g,k1,k2)) else pure (.yield (none,i - 1,j,out.push v,g,k1,k2))) (PstH κ lt a b st x) st3:=by
  intro x k1 k2 g out i j st3 s3 m p1 p2 p3 p4 p5 hle
  obtain ⟨n,rfl⟩:∃ n,i=n + 1:=⟨i - 1,by omega⟩
  rw [Nat.add_sub_cancel] at hle ⊢
  obtain ⟨va,e4,e5,e6⟩:=zi0 (a:=a) (i:=n) (by omega)
  refine wpS_bind (wh0 e4 ?_)
  have m':=m.a sa e5 (hle va e5)
  rw [<- xj1] at m'
  by_cases z:(n == 0)=true
  ·rw [if_pos z]
   exact wpS_pure ⟨s3,doneA m' (eq_of_beq z)⟩
  ·rw [if_neg z]
   have z':n ≠ 0:=λ e=>z (beq_iff_eq.mpr e)
   by_cases y1:(decide (k1 < 7) && decide (k2 < 7))=true
   ·rw [if_pos y1]
    exact wpS_pure ⟨s3,m',by show 0 < n; omega,by show n<=_; omega,p3,by show j<=_; omega,by show n + j + (x + 2)<=_; omega⟩
   ·rw [if_neg y1]
    exact wpS_pure ⟨s3,rfl,m',by show 0 < n; omega,by show n<=_; omega,p3,by show j<=_; omega,by show n + j + (x + 2)<=_; omega⟩
 have nxB:∀ (x k bc g:Nat) (out:Array Keyed) {i j:Nat} {st3:SortSt} {vb:Keyed},Same κ st st3->MH lt a.toList b.toList out.toList.reverse i j->0 < i->i<=a.size->1 < j->j<=b.size->i + j + (x + 2)<=a.size + b.size->b[j - 1]?=some vb->b.toList[j - 1]?=some vb->(∀ y ∈ a.toList.take i,le lt y vb) ->
     ∀ (G:Keyed->Keyed->Option Nat->StateT SortSt Sem (ForInStep GH)),(∀ v y t,G v y (some t)=galH a b k t (out.push v) i (j - 1) g) ->
     wpS (model prog w) A E s (elem' b (j - 1) >>= λ v=>if (j - 1 == 1)=true then pure (.done (some (b.extract 0 (j - 1) ++ a.extract 0 i ++ (out.push v).reverse),i,j - 1,out.push v,g,k,bc))
      else elem' a (i - 1) >>= λ y=>gal true y b 0 (j - 1) (j - 1 - 1) >>= G v y) (PstH κ lt a b st x) st3:=by
  intro x k bc g out i j st3 vb s3 m p1 p2 p3 p4 p5 e1 e2 lo G hG
  obtain ⟨n,rfl⟩:∃ n,j=n + 1:=⟨j - 1,by omega⟩
  rw [Nat.add_sub_cancel] at e1 e2 ⊢
  refine wpS_bind (wh0 e1 ?_)
  have m':=m.b sb e2 lo
  rw [<- xj1] at m'
  by_cases z:(n == 1)=true
  ·rw [if_pos z]
   exact wpS_pure ⟨s3,firstB m' (eq_of_beq z)⟩
  ·rw [if_neg z]
   have z':n ≠ 1:=λ e=>z (beq_iff_eq.mpr e)
   obtain ⟨va,e4,e5,e6⟩:=zi0 (a:=a) (i:=i - 1) (by omega)
   refine wpS_bind (wh0 e4 ?_)
   refine wpS_bind (zx1 c s3.ok (byT c mb (by omega) (ma _ e6) sb) (by omega) λ t q1 q2 q3=>?_)
   rw [hG,Nat.add_sub_cancel]
   unfold galH
   dsimp only
   obtain ⟨k2,rfl⟩:∃ k2,n=t + k2:=⟨n - t,by omega⟩
   have mk:=MH.bs sb k2 m' (by omega) λ ii y h1 h2 ey=>by
    have q:=q3 ii h1 h2
    rw [getD_some (x:=y) (by rw [Nat.zero_add]; exact ey)] at q
    have u:=up sa e5 y q
    rw [show i - 1 + 1=i by omega] at u
    exact u
   have lo2:∀ v,a.toList[i - 1]?=some v->∀ y ∈ b.toList.take t,le lt y v:=by
    intro v ev y hy
    rw [e5] at ev
    cases ev
    obtain ⟨ii,hi,ey⟩:=List.mem_take_iff_getElem.mp hy
    have q:=q2 ii (by omega)
    rw [getD_some (x:=y) (by rw [Nat.zero_add]; exact List.getElem?_eq_some_iff.mpr ⟨by omega,ey⟩)] at q
    exact c.lt_le q
   by_cases kp:t + k2 - t > 0
   ·rw [if_pos kp]
    rw [<- xy6,<- zc4] at mk
    by_cases zz:(t == 1)=true
    ·rw [if_pos zz]
     exact wpS_pure ⟨s3,firstB mk (eq_of_beq zz)⟩
    ·rw [if_neg zz]
     have zz':t ≠ 1:=λ e=>zz (beq_iff_eq.mpr e)
     by_cases zy:(t == 0)=true
     ·rw [if_pos zy]
      exact wpS_pure ⟨s3,doneB mk (eq_of_beq zy)⟩
     ·rw [if_neg zy]
      have zy':t ≠ 0:=λ e=>zy (beq_iff_eq.mpr e)
      exact nxA x _ _ _ _ _ _ _ s3 mk p1 p2 (by omega) (by omega) (by omega) lo2
   ·rw [if_neg kp]
    have k0:k2=0:=by omega
    subst k0
    exact nxA x _ _ _ _ _ _ _ s3 m' p1 p2 (by omega) (by omega) (by omega) lo2
 by_cases z1:(a.size - 1 == 0)=true
 ·rw [if_pos z1]
  exact wpS_pure (h _ _ ⟨o,rfl,rfl⟩ (doneA m0 (eq_of_beq z1)))
 rw [if_neg z1]
 by_cases z2:(b.size == 1)=true
 ·rw [if_pos z2]
  exact wpS_pure (h _ _ ⟨o,rfl,rfl⟩ (firstB m0 (eq_of_beq z2)))
 rw [if_neg z2]
 have n1:b.size ≠ 1:=λ e=>z2 (beq_iff_eq.mpr e)
 have n2:a.size - 1 ≠ 0:=λ e=>z1 (beq_iff_eq.mpr e)
 refine wpS_bind (wpS_get ?_)
 refine wpS_bind (wpS_mono (wpS_forRange (λ x (r:Option (Array Keyed) × Nat × Nat × Array Keyed × Nat) st'=>Same κ st st' /\ r.1=none /\ MidH lt a.toList b.toList (x + 1) none r.2.1 r.2.2.1 r.2.2.2.1)
  (Q:=λ (r:Option (Array Keyed) × Nat × Nat × Array Keyed × Nat) st'=>Same κ st st' /\ ∃ z,r.1=some z /\ Fin lt a.toList b.toList z.toList) ?_ ?_ ⟨⟨o,rfl,rfl⟩,rfl,m0,by show 0 < a.size - 1; omega,by show a.size - 1<=_; omega,by show 1 < b.size; omega,by show b.size<=_; omega,by show a.size - 1 + b.size + (0 + 1)<=_; omega⟩) ?_)
 ·rintro x ⟨r,i,j,out,mg⟩ st1 _ hx ⟨s1,rfl,mi⟩
  dsimp only at mi ⊢
  refine wpS_bind (wpS_mono (wpS_forRange (λ y (r:Option (Array Keyed) × Nat × Nat × Array Keyed × Nat × Nat) st'=>Same κ st st' /\ r.1=none /\ MidH lt a.toList b.toList (x + 1 + y) none r.2.1 r.2.2.1 r.2.2.2.1)
   (Q:=λ (r:Option (Array Keyed) × Nat × Nat × Array Keyed × Nat × Nat) st'=>Same κ st st' /\ MidH lt a.toList b.toList (x + 2) r.1 r.2.1 r.2.2.1 r.2.2.2.1) ?_ ?_ ⟨s1,rfl,mi⟩) ?_)
  ·rintro y ⟨r,i,j,out,ac,bc⟩ st2 _ hy ⟨s2,rfl,m,p1,p2,p3,p4,p5⟩
   dsimp only at m p1 p2 p3 p4 p5 ⊢
   obtain ⟨n,rfl⟩:∃ n,i=n + 1:=⟨i - 1,by omega⟩
   obtain ⟨l,rfl⟩:∃ l,j=l + 1:=⟨j - 1,by omega⟩
   simp only [Nat.add_sub_cancel]
   obtain ⟨vb,e1,e2,e3⟩:=zi0 (a:=b) (i:=l) (by omega)
   obtain ⟨va,e4,e5,e6⟩:=zi0 (a:=a) (i:=n) (by omega)
   refine wpS_bind (wh0 e1 (wpS_bind (wh0 e4 (wpS_bind (yl4 c s2.ok (mb _ e3) (ma _ e6) ?_)))))
   cases q:lt vb va with
   | true =>
    dsimp only
    rw [if_pos rfl]
    refine wpS_bind (wh0 e4 ?_)
    have m':=m.a sa e5 (up sb e2 va (c.lt_le q))
    rw [<- xj1] at m'
    by_cases z:(n == 0)=true
    ·rw [if_pos z]
     exact wpS_pure ⟨s2,doneA m' (eq_of_beq z)⟩
    ·rw [if_neg z]
     have z':n ≠ 0:=λ e=>z (beq_iff_eq.mpr e)
     by_cases y1:ac + 1 ≥ mg
     ·rw [if_pos y1]
      exact wpS_pure ⟨s2,m',by show 0 < n; omega,by show n<=_; omega,p3,p4,by show n + (l + 1) + (x + 2)<=_; omega⟩
     ·rw [if_neg y1]
      exact wpS_pure ⟨s2,rfl,m',by show 0 < n; omega,by show n<=_; omega,p3,p4,by show n + (l + 1) + (x + 1 + (y + 1))<=_; omega⟩
   | false =>
    dsimp only
    rw [if_neg (by simp)]
    refine wpS_bind (wh0 e1 ?_)
    have m':=m.b sb e2 (up sa e5 vb q)
    rw [<- xj1] at m'
    by_cases z:(l == 1)=true
    ·rw [if_pos z]
     exact wpS_pure ⟨s2,firstB m' (eq_of_beq z)⟩
    ·rw [if_neg z]
     have z':l ≠ 1:=λ e=>z (beq_iff_eq.mpr e)
     by_cases y1:bc + 1 ≥ mg
     ·rw [if_pos y1]
      exact wpS_pure ⟨s2,m',p1,p2,by show 1 < l; omega,by show l<=_; omega,by show n + 1 + l + (x + 2)<=_; omega⟩
     ·rw [if_neg y1]
      exact wpS_pure ⟨s2,rfl,m',p1,p2,by show 1 < l; omega,by show l<=_; omega,by show n + 1 + l + (x + 1 + (y + 1))<=_; omega⟩
  ·rintro ⟨r,i,j,out,ac,bc⟩ st2 ⟨s2,rfl,m,p1,p2,p3,p4,p5⟩
   exact ⟨s2,m,p1,p2,p3,p4,by dsimp only at p5 ⊢; omega⟩
  ·rintro ⟨r,i,j,out,ac,bc⟩ st2 ⟨s2,mm⟩
   dsimp only at mm ⊢
   cases r with
   | some z=>exact wpS_pure ⟨s2,z,rfl,mm⟩
   | none =>
    dsimp only
    refine wpS_bind (wpS_lift (wpAny_rule ⟨rfl,?_⟩))
    refine wpS_bind (wpS_mono (wpS_forRange (λ y (r:Option (Array Keyed) × Nat × Nat × Array Keyed × Nat × Nat × Nat) st'=>Same κ st st' /\ r.1=none /\ MidH lt a.toList b.toList (x + 2) none r.2.1 r.2.2.1 r.2.2.2.1)
     (Q:=λ (r:Option (Array Keyed) × Nat × Nat × Array Keyed × Nat × Nat × Nat) st'=>Same κ st st' /\ MidH lt a.toList b.toList (x + 2) r.1 r.2.1 r.2.2.1 r.2.2.2.1) ?_ ?_ ⟨s2,rfl,mm⟩) ?_)
    ·rintro y ⟨r,i,j,out,mg,ac,bc⟩ st3 _ hy ⟨s3,rfl,m,p1,p2,p3,p4,p5⟩
     dsimp only at m p1 p2 p3 p4 p5 ⊢
     have s3':∀ g:Nat,Same κ st (SortSt.mk' (kindOf st3) (arrOf st3) (pendingOf st3) g (failedOf st3)):=λ g=>⟨⟨s3.ok.kd,s3.ok.fl⟩,s3.ar,s3.pe⟩
     obtain ⟨vb,e1,e2,e3⟩:=zi0 (a:=b) (i:=j - 1) (by omega)
     revert mg
     refine xs5 (λ _=>rfl) λ mg=>?_
     refine wpS_bind (wpS_modify ?_)
     refine wpS_bind (wh0 e1 ?_)
     refine wpS_bind (zx1 c (s3' _).ok (byF c ma (by omega) (mb _ e3) sa) (by omega) λ t k1 k2 k3=>?_)
     dsimp only
     obtain ⟨k,rfl⟩:∃ k,i=t + k:=⟨i - t,by omega⟩
     have mk:=MH.as sa k m (by omega) λ ii y h1 h2 ey=>by
      have q:=k3 ii h1 h2
      rw [getD_some (x:=y) (by rw [Nat.zero_add]; exact ey)] at q
      have u:=up sb e2 y (c.lt_le (by simpa using q))
      rw [show j - 1 + 1=j by omega] at u
      exact u
     have lo:∀ y ∈ a.toList.take t,le lt y vb:=by
      intro y hy
      obtain ⟨ii,hi,ey⟩:=List.mem_take_iff_getElem.mp hy
      have q:=k2 ii (by omega)
      rw [getD_some (x:=y) (by rw [Nat.zero_add]; exact List.getElem?_eq_some_iff.mpr ⟨by omega,ey⟩)] at q
      exact (by simpa using q:lt vb y=false)
     by_cases kp:t + k - t > 0
     ·rw [if_pos kp]
      rw [<- xy6,<- zc4] at mk
      by_cases z:(t == 0)=true
      ·rw [if_pos z]
       exact wpS_pure ⟨s3' _,doneA mk (eq_of_beq z)⟩
      ·rw [if_neg z]
       have z':t ≠ 0:=λ e=>z (beq_iff_eq.mpr e)
       refine wpS_mono (nxB x _ bc _ _ (s3' _) mk (by omega) (by omega) p3 (by omega) (by omega) e1 e2 lo _ ?_) ?_
       ·intro _ _ _; rfl
       ·intro r st' q; cases r <;> exact q
     ·rw [if_neg kp]
      have k0:k=0:=by omega
      subst k0
      refine wpS_mono (nxB x _ bc _ _ (s3' _) m (by omega) (by omega) p3 (by omega) (by omega) e1 e2 lo _ ?_) ?_
      ·intro _ _ _; rfl
      ·intro r st' q; cases r <;> exact q
    ·rintro ⟨r,i,j,out,mg,ac,bc⟩ st3 ⟨s3,rfl,m,p1,p2,p3,p4,p5⟩
     exact ⟨s3,m,p1,p2,p3,p4,p5⟩
    ·rintro ⟨r,i,j,out,mg,ac,bc⟩ st3 ⟨s3,mm⟩
     dsimp only at mm ⊢
     cases r with
     | some z=>exact wpS_pure ⟨s3,z,rfl,mm⟩
     | none =>
      dsimp only
      exact wpS_bind (wpS_modify (wpS_pure ⟨⟨⟨s3.ok.kd,s3.ok.fl⟩,s3.ar,s3.pe⟩,rfl,mm⟩))
 ·rintro ⟨r,i,j,out,mg⟩ st1 ⟨s1,rfl,m,p1,p2,p3,p4,p5⟩
  exfalso
  dsimp only at p1 p2 p3 p4 p5
  omega
 ·rintro ⟨r,i,j,out,mg⟩ st1 ⟨s1,z,e,f⟩
  dsimp only at e ⊢
  subst e
  exact wpS_pure (h z st1 s1 f)
end
end Ts
namespace Ts
open PySem PyProof.Rows
theorem yi5 {xs:Array Keyed} {U V W:List Keyed} {i j:Nat} (h:xs.toList=U ++ (V ++ W)) (hi:i=U.length) (hj:j=U.length + V.length):(mirror xs i j ((j - i) / 2)).toList=U ++ (V.reverse ++ W):=by
 have hs:xs.size=U.length + (V.length + W.length):=by rw [<- Array.length_toList,h]; simp
 apply List.ext_getElem?
 intro k
 rw [Array.getElem?_toList,getElem?_mirror_all (by omega)]
 simp only [<- Array.getElem?_toList,h]
 by_cases c:i<=k /\ k < j
 ·rw [if_pos c,List.getElem?_append_right (by omega),List.getElem?_append_left (by omega),List.getElem?_append_right (by omega),List.getElem?_append_left (by rw [List.length_reverse]; omega),List.getElem?_reverse (by omega)]
  congr 1
  omega
 ·rw [if_neg c]
  by_cases d:k < i
  ·rw [List.getElem?_append_left (by omega),List.getElem?_append_left (by omega)]
  ·rw [List.getElem?_append_right (by omega),List.getElem?_append_right (by omega),List.getElem?_append_right (by omega),List.getElem?_append_right (by rw [List.length_reverse]; omega),List.length_reverse]
theorem yo5 {xs:Array Keyed} {U V W:List Keyed} {x:Keyed} {i j:Nat} (h:xs.toList=U ++ (V ++ x :: W)) (hi:i=U.length + V.length) (hj:j=U.length):(bubble xs i (i - j)).toList=U ++ x :: (V ++ W):=by
 have hs:xs.size=U.length + (V.length + (W.length + 1)):=by rw [<- Array.length_toList,h]; simp
 apply List.ext_getElem?
 intro k
 rw [Array.getElem?_toList,getElem?_bubble (by omega) (i - j) (by omega),show i - (i - j)=j by omega]
 simp only [<- Array.getElem?_toList,h]
 by_cases c:k=j
 ·rw [if_pos c,List.getElem?_append_right (by omega),List.getElem?_append_right (by omega),List.getElem?_append_right (by omega),show i - U.length - V.length=0 by omega,show k - U.length=0 by omega]
  rfl
 ·rw [if_neg c]
  by_cases d:j < k /\ k<=i
  ·rw [if_pos d,List.getElem?_append_right (by omega),List.getElem?_append_left (by omega),List.getElem?_append_right (by omega),show k - U.length=(k - 1 - U.length) + 1 by omega,List.getElem?_cons_succ,List.getElem?_append_left (by omega)]
  ·rw [if_neg d]
   by_cases f:k < j
   ·rw [List.getElem?_append_left (by omega),List.getElem?_append_left (by omega)]
   ·rw [List.getElem?_append_right (by omega),List.getElem?_append_right (by omega),List.getElem?_append_right (by omega),show k - U.length=(k - 1 - U.length) + 1 by omega,List.getElem?_cons_succ,List.getElem?_append_right (by omega),show k - 1 - U.length + 1 - V.length=(k - 1 - U.length - V.length) + 1 by omega,List.getElem?_cons_succ]
structure At (κ:SortKind) (p:Array (Nat × Nat × Nat)) (st:SortSt) (L:List Keyed):Prop where
 ok:Ok κ st
 pe:pendingOf st=p
 ls:(arrOf st).toList=L
section
variable {prog:Program} {w:World} {A:Around} {E:Value->Shared->Prop} {s:Shared} {κ:SortKind} {p:Array (Nat × Nat × Nat)}
variable {lt:Keyed->Keyed->Bool} {M:Keyed->Prop}
theorem wq2 (c:Cm prog w A s κ lt M) {st:SortSt} {L:List Keyed} {i j:Nat} {x y:Keyed} {Q:Option Bool->SortSt->Prop} (a:At κ p st L) (hM:∀ x ∈ L,M x) (ex:L[i]?=some x) (ey:L[j]?=some y) (h:Q (some (lt x y)) st):wpS (model prog w) A E s (ltAt' i j) Q st:=by
 rw [ltAt'_eq]
 refine wpS_bind (wpS_get ?_)
 refine wpS_bind (wh0 (x:=x) (by rw [<- Array.getElem?_toList,a.ls]; exact ex) (wpS_bind (wh0 (x:=y) (by rw [<- Array.getElem?_toList,a.ls]; exact ey) ?_)))
 exact yl4 c a.ok (hM x (List.mem_of_getElem? ex)) (hM y (List.mem_of_getElem? ey)) h
theorem xd3 {st:SortSt} {U V W:List Keyed} {i j:Nat} {Q:Unit->SortSt->Prop} (a:At κ p st (U ++ (V ++ W))) (hi:i=U.length) (hj:j=U.length + V.length) (h:∀ st',At κ p st' (U ++ (V.reverse ++ W))->Q () st'):wpS (model prog w) A E s (reverseSlice' i j) Q st:=by
 rw [reverseSlice'_eq]
 exact wpS_modify (h _ ⟨⟨a.ok.kd,a.ok.fl⟩,a.pe,yi5 a.ls hi hj⟩)
theorem xn8 {st:SortSt} {U V W:List Keyed} {x:Keyed} {i j:Nat} {Q:Unit->SortSt->Prop} (a:At κ p st (U ++ (V ++ x :: W))) (hi:i=U.length + V.length) (hj:j=U.length) (h:∀ st',At κ p st' (U ++ x :: (V ++ W))->Q () st'):wpS (model prog w) A E s (moveDown' i j) Q st:=by
 rw [moveDown'_eq]
 exact wpS_modify (h _ ⟨⟨a.ok.kd,a.ok.fl⟩,a.pe,yo5 a.ls hi hj⟩)
noncomputable abbrev FA:=Nat->Option (Option Nat) × Nat->StateT SortSt Sem (ForInStep (Option (Option Nat) × Nat))
noncomputable def isA (lo:Nat) (f:FA):Prop:=∀ x n,f x (none,n)=(ltAt' (lo + n) (lo + n - 1) >>= λ r=>match r with
 | some true=>pure (.done (none,n))
 | some false=>pure (.yield (none,n + 1))
 | none=>pure (.done (some none,n)))
theorem ym6 (c:Cm prog w A s κ lt M) {l:List Keyed} {n:Nat} {x y:Keyed} (h:(l.take (n + 1)).Pairwise (le lt)) (ex:l[n]?=some x) (ey:l[n + 1]?=some y) (k:le lt x y):(l.take (n + 2)).Pairwise (le lt):=by
 rw [xk0 ey]
 refine List.pairwise_append.mpr ⟨h,List.pairwise_singleton _ _,λ z hz v hv=>?_⟩
 rw [List.mem_singleton] at hv
 subst hv
 rw [xk0 ex] at h hz
 rcases List.mem_append.mp hz with hz | hz
 ·exact c.le_tr ((List.pairwise_append.mp h).2.2 z hz x (List.mem_singleton.mpr rfl)) k
 ·rw [List.mem_singleton] at hz; subst hz; exact k
theorem xj3 (c:Cm prog w A s κ lt M) {st:SortSt} {P R:List Keyed} {n0 lo:Nat} {f:FA} (hf:isA lo f) (a:At κ p st (P ++ R)) (hM:∀ x ∈ P ++ R,M x) (hlo:lo=P.length) (h1:1<=n0) (h2:n0<=R.length) (so:(R.take n0).Pairwise (le lt)) :
    wpS (model prog w) A E s (forIn [n0:R.length] (none,n0) f) (λ r st'=>st'=st /\ r.1=none /\ n0<=r.2 /\ r.2<=R.length /\ (R.take r.2).Pairwise (le lt) /\ (r.2=R.length \/ ∃ x y,R[r.2]?=some y /\ R[r.2 - 1]?=some x /\ lt y x=true)) st:=by
 refine wpS_forRange (λ x (r:Option (Option Nat) × Nat) st'=>st'=st /\ r=(none,x) /\ n0<=x /\ x<=R.length /\ (R.take x).Pairwise (le lt)) ?_ ?_ ⟨rfl,rfl,Nat.le_refl _,h2,so⟩
 ·rintro x r st' _ hx ⟨rfl,rfl,a1,a2,a3⟩
  rw [hf]
  obtain ⟨n,rfl⟩:∃ n,x=n + 1:=⟨x - 1,by omega⟩
  have ey:R[n + 1]?=some R[n + 1]:=List.getElem?_eq_getElem hx
  have ex:R[n]?=some R[n]:=List.getElem?_eq_getElem (by omega)
  refine wpS_bind (wq2 c a hM (x:=R[n + 1]) (y:=R[n]) (by rw [List.getElem?_append_right (by omega),show lo + (n + 1) - P.length=n + 1 by omega]; exact ey) (by rw [List.getElem?_append_right (by omega),show lo + (n + 1) - 1 - P.length=n by omega]; exact ex) ?_)
  cases q:lt R[n + 1] R[n] with
  | true=>exact wpS_pure ⟨rfl,rfl,a1,a2,a3,.inr ⟨R[n],R[n + 1],ey,ex,q⟩⟩
  | false=>exact wpS_pure ⟨rfl,rfl,by omega,by omega,ym6 c a3 ex ey q⟩
 ·rintro r st' ⟨rfl,rfl,a1,a2,a3⟩
  exact ⟨rfl,rfl,a1,a2,a3,.inl (by show max n0 R.length=_; omega)⟩
theorem fin3 (c:Cm prog w A s κ lt M) {st:SortSt} {P V W:List Keyed} {n N lo:Nat} {f:FA} {g:Option (Option Nat) × Nat->StateT SortSt Sem (Option Nat)} {Q:Option Nat->SortSt->Prop} (hf:isA lo f) (hg:∀ n,g (none,n)=pure (some n)) (a:At κ p st (P ++ (V ++ W))) (hM:∀ x ∈ P ++ (V ++ W),M x) (hlo:lo=P.length)
    (hn:n=V.length) (hN:N=V.length + W.length) (h1:1<=n) (so:V.Pairwise λ x y=>le lt y x) (h:∀ m st' R,At κ p st' (P ++ R)->R.Perm (V ++ W)->1<=m->m<=N->(R.take m).Pairwise (le lt)->Q (some m) st') :
    wpS (model prog w) A E s (reverseSlice' lo (lo + n) >>= λ _=>forIn [n:N] (none,n) f >>= g) Q st:=by
 refine wpS_bind (xd3 a hlo (by omega) λ st1 a1=>?_)
 have e:N=(V.reverse ++ W).length:=by rw [List.length_append,List.length_reverse]; exact hN
 have pm:(V.reverse ++ W).Perm (V ++ W):=List.Perm.append_right _ (List.reverse_perm V)
 subst e
 refine wpS_bind (wpS_mono (xj3 c hf a1 (λ x hx=>hM x (by
  rcases List.mem_append.mp hx with q | q
  ·exact List.mem_append_left _ q
  ·exact List.mem_append_right _ (pm.mem_iff.mp q))) hlo h1 (by rw [List.length_append,List.length_reverse]; omega) ?_) ?_)
 ·rw [hn,List.take_append_of_le_length (by rw [List.length_reverse]; omega),List.take_of_length_le (by rw [List.length_reverse]; omega)]
  exact List.pairwise_reverse.mpr so
 ·rintro ⟨r,m⟩ st2 ⟨rfl,rfl,b1,b2,b3,_⟩
  dsimp only at b1 b2 b3 ⊢
  rw [hg]
  exact wpS_pure (h m _ _ a1 pm (by omega) b2 b3)
noncomputable abbrev FD:=Nat->Option (Option Nat) × Nat × Nat->StateT SortSt Sem (ForInStep (Option (Option Nat) × Nat × Nat))
noncomputable def isD (lo:Nat) (f:FD):Prop:=∀ x n q,f x (none,n,q)=(ltAt' (lo + n) (lo + n - 1) >>= λ r=>match r with
 | some true=>if q > 0 then reverseSlice' (lo + n - (q + 1)) (lo + n) >>= λ _=>pure (.yield (none,n + 1,0)) else pure (.yield (none,n + 1,0))
 | some false=>ltAt' (lo + n - 1) (lo + n) >>= λ r=>match r with
  | some true=>pure (.done (none,n,q))
  | some false=>pure (.yield (none,n + 1,q + 1))
  | none=>pure (.done (some none,n,q))
 | none=>pure (.done (some none,n,q)))
structure Fall (κ:SortKind) (p:Array (Nat × Nat × Nat)) (lt:Keyed->Keyed->Bool) (P R:List Keyed) (st:SortSt) (n q:Nat) (X B W:List Keyed) (b:Keyed):Prop where
 at_:At κ p st (P ++ (X ++ (B ++ b :: W)))
 hn:n=X.length + B.length + 1
 hq:q=B.length
 pm:(X ++ (B ++ b :: W)).Perm R
 dn:(X ++ (B ++ [b])).Pairwise λ x y=>le lt y x
 eq:∀ x ∈ B,le lt x b /\ le lt b x
theorem Fall.low {P R X B W:List Keyed} {st:SortSt} {n q:Nat} {b:Keyed} (F:Fall κ p lt P R st n q X B W b):∀ z ∈ X ++ B,le lt b z:=by
 have d:=F.dn
 rw [<- List.append_assoc] at d
 exact λ z hz=>(List.pairwise_append.mp d).2.2 z hz b (List.mem_singleton.mpr rfl)
theorem Fall.rest {P R X B W:List Keyed} {st:SortSt} {n q:Nat} {b:Keyed} (F:Fall κ p lt P R st n q X B W b) (hx:n < R.length):∃ y W',W=y :: W':=by
 cases W with
 | cons y W'=>exact ⟨y,W',rfl⟩
 | nil =>
  have:=F.pm.length_eq
  rw [List.length_append,List.length_append,List.length_cons,List.length_nil] at this
  have:=F.hn
  omega
theorem xt8 (c:Cm prog w A s κ lt M) {P R X B W:List Keyed} {st:SortSt} {n q:Nat} {b:Keyed} (F:Fall κ p lt P R st n q X B W b):(X ++ (B ++ [b]).reverse).Pairwise λ x y=>le lt y x:=by
 obtain ⟨d1,d2,d3⟩:=List.pairwise_append.mp F.dn
 refine List.pairwise_append.mpr ⟨d1,?_,λ x hx y hy=>d3 x hx y (List.mem_reverse.mp hy)⟩
 have all:∀ x ∈ B ++ [b],le lt x b /\ le lt b x:=λ x hx=>by
  rcases List.mem_append.mp hx with h | h
  ·exact F.eq x h
  ·rw [List.mem_singleton] at h; subst h; exact ⟨c.rf x,c.rf x⟩
 rw [List.pairwise_reverse]
 exact List.Pairwise.imp_of_mem (λ {x y} hx hy _=>c.le_tr (all x hx).1 (all y hy).2) d2
theorem wn8 (c:Cm prog w A s κ lt M) {st:SortSt} {P R X W:List Keyed} {y:Keyed} {n1 lo N:Nat} {f:FD} {g:Option (Option Nat) × Nat × Nat->StateT SortSt Sem (Option Nat)} {Q:Option Nat->SortSt->Prop} (hf:isD lo f)
    (hg:∀ n q,∃ J,g (none,n,q)=(if q > 0 then reverseSlice' (lo + n - (q + 1)) (lo + n) >>= λ _=>J else J) /\ ∀ st' V W,At κ p st' (P ++ (V ++ W))->(V ++ W).Perm R->n=V.length->1<=n->V.Pairwise (λ x y=>le lt y x)->wpS (model prog w) A E s J Q st') (hlo:lo=P.length) (hN:N=R.length) (hR:∀ x ∈ P,M x) (hM:∀ x ∈ R,M x) (hn:n1=X.length) (a:At κ p st (P ++ (X ++ y :: W))) (pm:(X ++ y :: W).Perm R) (dn:(X ++ [y]).Pairwise λ x y=>le lt y x) :
    wpS (model prog w) A E s (forIn [n1 + 1:N] (none,n1 + 1,0) f >>= g) Q st:=by
 have mem:∀ {L:List Keyed},L.Perm R->∀ x ∈ P ++ L,M x:=λ e x hx=>by
  rcases List.mem_append.mp hx with h | h
  ·exact hR x h
  ·exact hM x (e.mem_iff.mp h)
 refine wpS_bind (wpS_mono (wpS_forRange (λ x (r:Option (Option Nat) × Nat × Nat) st'=>∃ q X B W b,r=(none,x,q) /\ Fall κ p lt P R st' x q X B W b) (Q:=λ (r:Option (Option Nat) × Nat × Nat) st'=>∃ n q X B W b,r=(none,n,q) /\ Fall κ p lt P R st' n q X B W b) ?_ ?_ ⟨0,X,[],W,y,rfl,⟨a,by simp [hn],rfl,pm,dn,λ _ h=>nomatch h⟩⟩) ?_)
 ·rintro x r st1 _ hx ⟨q,X,B,W,b,rfl,F⟩
  obtain ⟨v,W',rfl⟩:=F.rest (by omega)
  rw [hf]
  have L:=F.at_
  have hn':=F.hn
  have hq':=F.hq
  have e1:(P ++ (X ++ (B ++ b :: v :: W')))[lo + x]?=some v:=by
   rw [List.getElem?_append_right (by omega),List.getElem?_append_right (by omega),List.getElem?_append_right (by omega),show lo + x - P.length - X.length - B.length=1 by omega]; rfl
  have e2:(P ++ (X ++ (B ++ b :: v :: W')))[lo + x - 1]?=some b:=by
   rw [List.getElem?_append_right (by omega),List.getElem?_append_right (by omega),List.getElem?_append_right (by omega),show lo + x - 1 - P.length - X.length - B.length=0 by omega]; rfl
  refine wpS_bind (wq2 c L (mem F.pm) e1 e2 ?_)
  cases s1:lt v b with
  | true =>
   dsimp only
   have low:∀ z ∈ X ++ (B ++ [b]),le lt v z:=λ z hz=>by
    rw [<- List.append_assoc] at hz
    rcases List.mem_append.mp hz with h | h
    ·exact c.le_tr (c.lt_le s1) (F.low z h)
    ·rw [List.mem_singleton] at h; subst h; exact c.lt_le s1
   by_cases z:q > 0
   ·rw [if_pos z]
    refine wpS_bind (xd3 (U:=P ++ X) (V:=B ++ [b]) (W:=v :: W') (by rw [List.append_assoc,List.append_assoc]; exact L) (by rw [List.length_append]; omega) (by simp only [List.length_append,List.length_cons,List.length_nil]; omega) λ st2 a2=>wpS_pure ⟨0,X ++ (B ++ [b]).reverse,[],W',v,rfl,?_⟩)
    refine ⟨by rw [List.append_assoc] at a2; simpa [List.append_assoc] using a2,by simp only [List.length_append,List.length_reverse,List.length_cons,List.length_nil]; omega,rfl,?_,?_,λ _ h=>nomatch h⟩
    ·refine .trans ?_ F.pm
     rw [List.nil_append,List.append_assoc]
     refine List.Perm.append_left _ (.trans (List.Perm.append_right _ (List.reverse_perm _)) ?_)
     rw [List.append_assoc]
     exact .refl _
    ·rw [List.nil_append]
     refine List.pairwise_append.mpr ⟨xt8 c F,List.pairwise_singleton _ _,λ z1 hz1 y1 hy1=>?_⟩
     rw [List.mem_singleton] at hy1; subst hy1
     refine low z1 ?_
     rcases List.mem_append.mp hz1 with h | h
     ·exact List.mem_append_left _ h
     ·exact List.mem_append_right _ (List.mem_reverse.mp h)
   ·rw [if_neg z]
    have b0:B=[]:=List.eq_nil_of_length_eq_zero (by omega)
    subst b0
    refine wpS_pure ⟨0,X ++ [b],[],W',v,rfl,⟨by simpa [List.append_assoc] using L,by simp only [List.length_append,List.length_cons,List.length_nil] at hn' ⊢; omega,rfl,by simpa [List.append_assoc] using F.pm,?_,λ _ h=>nomatch h⟩⟩
    refine List.pairwise_append.mpr ⟨F.dn,List.pairwise_singleton _ _,λ z1 hz1 y1 hy1=>?_⟩
    rw [List.nil_append,List.mem_singleton] at hy1; subst hy1
    exact low z1 hz1
  | false =>
   dsimp only
   refine wpS_bind (wq2 c L (mem F.pm) e2 e1 ?_)
   cases s2:lt b v with
   | true=>exact wpS_pure ⟨x,q,X,B,v :: W',b,rfl,F⟩
   | false =>
    refine wpS_pure ⟨q + 1,X,B ++ [b],W',v,rfl,⟨by simpa [List.append_assoc] using L,by simp only [List.length_append,List.length_cons,List.length_nil]; omega,by simp only [List.length_append,List.length_cons,List.length_nil]; omega,by simpa [List.append_assoc] using F.pm,?_,?_⟩⟩
    ·rw [<- List.append_assoc]
     refine List.pairwise_append.mpr ⟨F.dn,List.pairwise_singleton _ _,λ z1 hz1 y1 hy1=>?_⟩
     rw [List.mem_singleton] at hy1; subst hy1
     rw [<- List.append_assoc] at hz1
     rcases List.mem_append.mp hz1 with h | h
     ·exact c.le_tr s2 (F.low z1 h)
     ·rw [List.mem_singleton] at h; subst h; exact s2
    ·intro z hz
     rcases List.mem_append.mp hz with h | h
     ·exact ⟨c.le_tr (F.eq z h).1 s1,c.le_tr s2 (F.eq z h).2⟩
     ·rw [List.mem_singleton] at h; subst h; exact ⟨s1,s2⟩
 ·rintro r st1 ⟨q,X,B,W,b,rfl,F⟩
  exact ⟨_,q,X,B,W,b,rfl,F⟩
 ·rintro r st1 ⟨n,q,X,B,W,b,rfl,F⟩
  obtain ⟨J,eJ,hJ⟩:=hg n q
  rw [eJ]
  have hn':=F.hn
  have hq':=F.hq
  by_cases z:q > 0
  ·rw [if_pos z]
   refine wpS_bind (xd3 (U:=P ++ X) (V:=B ++ [b]) (W:=W) (by simpa [List.append_assoc] using F.at_) (by rw [List.length_append]; omega) (by simp only [List.length_append,List.length_cons,List.length_nil]; omega) λ st2 a2=>?_)
   refine hJ st2 (X ++ (B ++ [b]).reverse) W (by rw [List.append_assoc] at a2; rw [List.append_assoc]; exact a2) ?_ (by simp only [List.length_append,List.length_reverse,List.length_cons,List.length_nil]; omega) (by omega) (xt8 c F)
   refine .trans ?_ F.pm
   rw [List.append_assoc]
   refine List.Perm.append_left _ (.trans (List.Perm.append_right _ (List.reverse_perm _)) ?_)
   rw [List.append_assoc]
   exact .refl _
  ·rw [if_neg z]
   exact hJ st1 (X ++ (B ++ [b])) W (by simpa [List.append_assoc] using F.at_) (by simpa [List.append_assoc] using F.pm) (by simp only [List.length_append,List.length_cons,List.length_nil]; omega) (by omega) F.dn
theorem wt8 (c:Cm prog w A s κ lt M) {st:SortSt} {P R:List Keyed} {lo:Nat} {Q:Option Nat->SortSt->Prop} (a:At κ p st (P ++ R)) (hM:∀ x ∈ P ++ R,M x) (hlo:lo=P.length) (h1:1<=R.length)
    (h:∀ m st' R',At κ p st' (P ++ R')->R'.Perm R->1<=m->m<=R.length->(R'.take m).Pairwise (le lt)->Q (some m) st'):wpS (model prog w) A E s (countRun' lo R.length) Q st:=by
 have isa:∀ {f:FA},f=(λ x __s=>(ltAt' (lo + __s.2) (lo + __s.2 - 1) >>= λ r=>match r with
  | some b=>if b=true then pure (.done (none,__s.2)) else pure (.yield (none,__s.2 + 1))
  | x=>pure (.done (some none,__s.2))))->isA lo f:=by
  rintro f rfl x n
  refine congrArg _ (funext λ r=>?_)
  rcases r with _ | _ | _ <;> rfl
 have r0:R[0]?=some R[0]:=List.getElem?_eq_getElem h1
 have fall:∀ {st1:SortSt} {X W:List Keyed} {y:Keyed},At κ p st1 (P ++ (X ++ y :: W))->(X ++ y :: W).Perm R->(X ++ [y]).Pairwise (λ x y=>le lt y x)->∀ {n1:Nat},n1=X.length->∀ {f:FD} {g:Option (Option Nat) × Nat × Nat->StateT SortSt Sem (Option Nat)},isD lo f ->
     (∀ n q,∃ (J:StateT SortSt Sem (Option Nat)) (f:FA) (g':Option (Option Nat) × Nat->StateT SortSt Sem (Option Nat)),g (none,n,q)=(if q > 0 then reverseSlice' (lo + n - (q + 1)) (lo + n) >>= λ _=>J else J) /\ isA lo f /\ (∀ n,g' (none,n)=pure (some n)) /\ J=(reverseSlice' lo (lo + n) >>= λ _=>forIn [n:R.length] (none,n) f >>= g')) ->
     wpS (model prog w) A E s (forIn [n1 + 1:R.length] (none,n1 + 1,0) f >>= g) Q st1:=by
  intro st1 X W y a1 pm dn n1 hn f g hf hg
  refine wn8 c hf (λ n q=>?_) hlo rfl (λ x hx=>hM x (List.mem_append_left _ hx)) (λ x hx=>hM x (List.mem_append_right _ hx)) hn a1 pm dn
  obtain ⟨J,f,g',e1,hf,hg,e⟩:=hg n q
  refine ⟨J,e1,?_⟩
  intro st2 V W a2 pm2 hn2 h2 so
  rw [e]
  have ll:=pm2.length_eq
  rw [List.length_append] at ll
  refine fin3 c hf hg a2 (λ x hx=>?_) hlo hn2 ll.symm h2 so λ m st' R' a3 pm3 m1 m2 so3=>h m st' R' a3 (pm3.trans pm2) m1 m2 so3
  rcases List.mem_append.mp hx with q | q
  ·exact hM x (List.mem_append_left _ q)
  ·exact hM x (List.mem_append_right _ (pm2.mem_iff.mp q))
 refine wpS_bind (wpS_mono (xj3 c (f:=_) (isa rfl) a hM hlo (Nat.le_refl 1) h1 (by rw [xk0 r0]; exact List.pairwise_singleton _ _)) ?_)
 rintro ⟨r,n⟩ st1 ⟨rfl,rfl,b1,b2,b3,b4⟩
 dsimp only at b1 b2 b3 b4 ⊢
 by_cases z:(n == R.length)=true
 ·rw [if_pos z]
  exact wpS_pure (h n _ R a (.refl _) b1 b2 b3)
 rw [if_neg z]
 have z':n ≠ R.length:=λ e=>z (beq_iff_eq.mpr e)
 rcases b4 with b4 | ⟨x,y,ey,ex,q⟩
 ·exact absurd b4 z'
 have d:R=R.take n ++ y :: R.drop (n + 1):=by
  have:=List.take_append_drop n R
  rw [yr0 ey] at this
  exact this.symm
 by_cases n1:n > 1
 ·rw [if_pos n1]
  refine wpS_bind (wq2 c a hM (x:=R[0]) (y:=x) (by rw [List.getElem?_append_right (by omega),show lo - P.length=0 by omega]; exact r0) (by rw [List.getElem?_append_right (by omega),show lo + n - 1 - P.length=n - 1 by omega]; exact ex) ?_)
  cases q2:lt R[0] x with
  | true=>exact wpS_pure (h n _ R a (.refl _) b1 b2 b3)
  | false =>
   dsimp only
   rw [if_neg (by simp)]
   have all:∀ u ∈ R.take n,le lt u x /\ le lt x u:=by
    have e0:(R.take n)[0]?=some R[0]:=by rw [List.getElem?_take_of_lt (by omega)]; exact r0
    have el:(R.take n)[n - 1]?=some x:=by rw [List.getElem?_take_of_lt (by omega)]; exact ex
    intro u hu
    obtain ⟨i,hi⟩:=List.mem_iff_getElem?.mp hu
    have li:i < n:=by
     have:=(List.getElem?_eq_some_iff.mp hi).1
     rw [List.length_take] at this
     omega
    constructor
    ·by_cases e:i=n - 1
     ·subst e; rw [el] at hi; cases hi; exact c.rf _
     ·exact wg1 b3 (by omega) hi el
    ·by_cases e:i=0
     ·subst e; rw [e0] at hi; cases hi; exact q2
     ·exact c.le_tr q2 (wg1 b3 (by omega) e0 hi)
   have lt1:(R.take n).length=n:=by rw [List.length_take]; omega
   refine wpS_bind (xd3 (U:=P) (V:=R.take n) (W:=y :: R.drop (n + 1)) (by rw [<- d]; exact a) hlo (by omega) λ st2 a2=>?_)
   refine wpS_bind (wpS_lift (wpAny_rule ⟨rfl,?_⟩))
   refine fall a2 ?_ ?_ (by rw [List.length_reverse]; exact lt1.symm) ?_ ?_
   ·refine .trans (List.Perm.append_right _ (List.reverse_perm _)) ?_
    rw [<- d]
   ·refine List.pairwise_append.mpr ⟨?_,List.pairwise_singleton _ _,λ u hu v hv=>?_⟩
    ·rw [List.pairwise_reverse]
     exact b3
    ·rw [List.mem_singleton] at hv; subst hv
     exact c.le_tr (c.lt_le q) (all u (List.mem_reverse.mp hu)).2
   ·intro x n q
    refine congrArg _ (funext λ r=>?_)
    rcases r with _ | _ | _
    ·rfl
    ·dsimp only
     rw [if_neg (by simp)]
     refine congrArg _ (funext λ r=>?_)
     rcases r with _ | _ | _ <;> rfl
    ·rfl
   ·intro n q
    exact ⟨_,_,_,rfl,isa rfl,λ _=>rfl,rfl⟩
 ·rw [if_neg n1]
  have e1:n=1:=by omega
  subst e1
  refine wpS_bind (wpS_lift (wpAny_rule ⟨rfl,?_⟩))
  have t1:=xk0 r0
  rw [List.take_zero,List.nil_append] at t1
  have ex0:x=R[0]:=by rw [show 1 - 1=0 from rfl,r0] at ex; cases ex; rfl
  rw [show (0:Nat) + 1=1 from rfl] at t1
  rw [t1] at d
  refine fall (X:=[R[0]]) (y:=y) (W:=R.drop (1 + 1)) (by rw [<- d]; exact a) (by rw [<- d]) ?_ rfl ?_ ?_
  ·refine List.pairwise_append.mpr ⟨List.pairwise_singleton _ _,List.pairwise_singleton _ _,λ u hu v hv=>?_⟩
   rw [List.mem_singleton] at hu hv
   subst hu hv
   rw [<- ex0]
   exact c.lt_le q
  ·intro x n q
   refine congrArg _ (funext λ r=>?_)
   rcases r with _ | _ | _
   ·rfl
   ·dsimp only
    rw [if_neg (by simp)]
    refine congrArg _ (funext λ r=>?_)
    rcases r with _ | _ | _ <;> rfl
   ·rfl
  ·intro n q
   exact ⟨_,_,_,rfl,isa rfl,λ _=>rfl,rfl⟩
end
end Ts
namespace Ts
open PySem PyProof.Rows
section
variable {prog:Program} {w:World} {A:Around} {E:Value->Shared->Prop} {s:Shared} {κ:SortKind} {p:Array (Nat × Nat × Nat)}
variable {lt:Keyed->Keyed->Bool} {M:Keyed->Prop}
theorem wu4 (c:Cm prog w A s κ lt M) {st:SortSt} {P R:List Keyed} {lo n ok:Nat} {Q:Bool->SortSt->Prop} (a:At κ p st (P ++ R)) (hM:∀ x ∈ P ++ R,M x) (hlo:lo=P.length) (h1:1<=ok) (h2:ok<=n) (h3:n<=R.length) (so:(R.take ok).Pairwise (le lt))
    (h:∀ st' R',At κ p st' (P ++ R')->R'.Perm R->(R'.take n).Pairwise (le lt)->Q true st'):wpS (model prog w) A E s (binarySort' lo n ok) Q st:=by
 refine wpS_bind (wpS_mono (wpS_forRange (λ x (r:Option Bool × Unit) st'=>r=(none,()) /\ ∃ R',At κ p st' (P ++ R') /\ R'.Perm R /\ (R'.take x).Pairwise (le lt)) (Q:=λ (r:Option Bool × Unit) st'=>r=(none,()) /\ ∃ R',At κ p st' (P ++ R') /\ R'.Perm R /\ (R'.take n).Pairwise (le lt)) ?_ ?_ ⟨rfl,R,a,.refl _,by rw [show max ok 1=ok by omega]; exact so⟩) ?_)
 ·rintro k r st1 hk0 hk ⟨rfl,R',a1,pm,so1⟩
  have ll:=pm.length_eq
  have hM1:∀ x ∈ P ++ R',M x:=λ x hx=>by
   rcases List.mem_append.mp hx with q | q
   ·exact hM x (List.mem_append_left _ q)
   ·exact hM x (List.mem_append_right _ (pm.mem_iff.mp q))
  have ev:R'[k]?=some R'[k]:=List.getElem?_eq_getElem (by omega)
  have at':∀ {m:Nat} {x:Keyed},R'[m]?=some x->m < k->(R'.take k)[m]?=some x:=λ e l=>by rw [List.getElem?_take_of_lt l]; exact e
  dsimp only
  refine wpS_bind (wpS_mono (wpS_forRange (λ y (r:Option Bool × Nat × Nat) st'=>st'=st1 /\ r.1=none /\ r.2.1<=r.2.2 /\ r.2.2<=k /\ r.2.2 - r.2.1<=k - y /\ (∀ i x,i < r.2.1->R'[i]?=some x->le lt x R'[k]) /\ ∀ i x,r.2.2<=i->i < k->R'[i]?=some x->le lt R'[k] x)
   (Q:=λ (r:Option Bool × Nat × Nat) st'=>st'=st1 /\ r.1=none /\ r.2.1<=k /\ (∀ i x,i < r.2.1->R'[i]?=some x->le lt x R'[k]) /\ ∀ i x,r.2.1<=i->i < k->R'[i]?=some x->le lt R'[k] x) ?_ ?_ ⟨rfl,rfl,Nat.zero_le _,Nat.le_refl _,Nat.le_refl _,λ i x hi=>absurd hi (Nat.not_lt_zero _),λ i x h1 h2=>absurd h2 (by show ¬ i < k; exact Nat.not_lt.mpr h1)⟩) ?_)
  ·rintro y ⟨r,l,u⟩ st2 _ hy ⟨rfl,rfl,b1,b2,b3,b4,b5⟩
   dsimp only at b1 b2 b3 b4 b5 ⊢
   by_cases z:l ≥ u
   ·rw [if_pos z]
    have:l=u:=by omega
    subst this
    exact wpS_pure ⟨rfl,rfl,b2,b4,b5⟩
   ·rw [if_neg z]
    have em:R'[(l + u) / 2]?=some R'[(l + u) / 2]:=List.getElem?_eq_getElem (by omega)
    refine wpS_bind (wq2 c a1 hM1 (x:=R'[k]) (y:=R'[(l + u) / 2]) (by rw [List.getElem?_append_right (by omega),show lo + k - P.length=k by omega]; exact ev) (by rw [List.getElem?_append_right (by omega),show lo + (l + u) / 2 - P.length=(l + u) / 2 by omega]; exact em) ?_)
    cases q:lt R'[k] R'[(l + u) / 2] with
    | true =>
     refine wpS_pure ⟨rfl,rfl,by show l<=(l + u) / 2; omega,by show (l + u) / 2<=k; omega,by show (l + u) / 2 - l<=_; omega,b4,λ i x h1 h2 ex=>?_⟩
     by_cases e:i=(l + u) / 2
     ·subst e; rw [em] at ex; cases ex; exact c.lt_le q
     ·have h1':(l + u) / 2<=i:=h1
      exact c.le_tr (c.lt_le q) (wg1 so1 (show (l + u) / 2 < i by omega) (at' em (by omega)) (at' ex h2))
    | false =>
     refine wpS_pure ⟨rfl,rfl,by show (l + u) / 2 + 1<=u; omega,b2,by show u - ((l + u) / 2 + 1)<=_; omega,λ i x h1 ex=>?_,b5⟩
     have h1':i < (l + u) / 2 + 1:=h1
     by_cases e:i=(l + u) / 2
     ·subst e; rw [em] at ex; cases ex; exact q
     ·exact c.le_tr (wg1 so1 (show i < (l + u) / 2 by omega) (at' ex (by omega)) (at' em (by omega))) q
  ·rintro ⟨r,l,u⟩ st2 ⟨rfl,rfl,b1,b2,b3,b4,b5⟩
   dsimp only at b1 b2 b3 b4 b5 ⊢
   have:l=u:=by have:u - l<=k - max 0 k:=b3; omega
   subst this
   exact ⟨rfl,rfl,b2,b4,b5⟩
  ·rintro ⟨r,l,u⟩ st2 ⟨rfl,rfl,b2,b4,b5⟩
   dsimp only at b2 b4 b5 ⊢
   have d:R'=R'.take l ++ ((R'.take k).drop l ++ R'[k] :: R'.drop (k + 1)):=by
    have e1:=List.take_append_drop k R'
    rw [yr0 ev] at e1
    have e2:=List.take_append_drop l (R'.take k)
    rw [List.take_take,show min l k=l by omega] at e2
    rw [<- List.append_assoc,e2]
    exact e1.symm
   have t1:(R'.take l).length=l:=by rw [List.length_take]; omega
   have t2:((R'.take k).drop l).length=k - l:=by rw [List.length_drop,List.length_take]; omega
   refine wpS_bind (xn8 (U:=P ++ R'.take l) (V:=(R'.take k).drop l) (x:=R'[k]) (W:=R'.drop (k + 1)) (by rw [List.append_assoc,<- d]; exact a1) (by rw [List.length_append]; omega) (by rw [List.length_append]; omega) λ st3 a3=>wpS_pure ⟨rfl,R'.take l ++ R'[k] :: ((R'.take k).drop l ++ R'.drop (k + 1)),by rw [List.append_assoc] at a3; exact a3,?_,?_⟩)
   ·refine .trans ?_ pm
    conv=>rhs; rw [d]
    exact List.Perm.append_left _ List.perm_middle.symm
   ·have e:(R'.take l ++ R'[k] :: ((R'.take k).drop l ++ R'.drop (k + 1))).take (k + 1)=R'.take l ++ R'[k] :: (R'.take k).drop l:=by
      rw [<- List.cons_append,<- List.append_assoc]
      exact List.take_left' (by simp only [List.length_append,List.length_cons]; omega)
    rw [e]
    have m1:∀ z ∈ R'.take l,le lt z R'[k]:=λ z hz=>by
     obtain ⟨i,hi,ez⟩:=List.mem_take_iff_getElem.mp hz
     exact b4 i z (by omega) (List.getElem?_eq_some_iff.mpr ⟨by omega,ez⟩)
    have m2:∀ z ∈ (R'.take k).drop l,le lt R'[k] z:=λ z hz=>by
     obtain ⟨i,hi,ez⟩:=List.mem_drop_iff_getElem.mp hz
     have hi':i + l < k:=by rw [List.length_take] at hi; omega
     rw [List.getElem_take] at ez
     exact b5 (l + i) z (by omega) (by omega) (List.getElem?_eq_some_iff.mpr ⟨by omega,ez⟩)
    have so2:=so1
    have e2:=List.take_append_drop l (R'.take k)
    rw [List.take_take,show min l k=l by omega] at e2
    rw [<- e2] at so2
    obtain ⟨p1,p2,p3⟩:=List.pairwise_append.mp so2
    refine List.pairwise_append.mpr ⟨p1,List.pairwise_cons.mpr ⟨m2,p2⟩,λ z hz v hv=>?_⟩
    rcases List.mem_cons.mp hv with rfl | hv
    ·exact m1 z hz
    ·exact p3 z hz v hv
 ·rintro r st1 ⟨rfl,R',a1,pm,so1⟩
  exact ⟨rfl,R',a1,pm,by rw [show max (max ok 1) n=n by omega] at so1; exact so1⟩
 ·rintro r st1 ⟨rfl,R',a1,pm,so1⟩
  exact wpS_pure (h st1 R' a1 pm so1)
end
end Ts
namespace Ts
open PySem PyProof.Rows
theorem wb (s:Nat):∀ (m V U W:List Keyed) (arr:Array Keyed) (o:Nat),arr.toList=U ++ (V ++ W)->V.length=m.length->U.length=s + o ->
    ((m.zipIdx o).foldl (λ (a:Array Keyed) (x:Keyed × Nat)=>match x with | (q,j)=>a.setIfInBounds (s + j) q) arr).toList=U ++ (m ++ W)
 | [],V,U,W,arr,o,h,l,_=>by
  have e:V=[]:=List.eq_nil_of_length_eq_zero l
  subst e
  exact h
 | v :: m,V,U,W,arr,o,h,l,hu=>by
  cases V with
  | nil=>simp at l
  | cons u V =>
   rw [List.zipIdx_cons,List.foldl_cons]
   have:=wb s m V (U ++ [v]) W (arr.setIfInBounds (s + o) v) (o + 1) (by
    rw [Array.toList_setIfInBounds,h,List.set_append_right _ _ (by omega),show s + o - U.length=0 by omega]
    simp) (by simpa using l) (by simp; omega)
   rw [List.append_assoc] at this
   exact this
section
variable {prog:Program} {w:World} {A:Around} {E:Value->Shared->Prop} {s:Shared} {κ:SortKind} {p:Array (Nat × Nat × Nat)}
variable {lt:Keyed->Keyed->Bool} {M:Keyed->Prop}
theorem wz5 {σ:Type} {Md:Model} {s':σ} {Q:PUnit->σ->Prop} {st:σ} (h:Q ⟨⟩ s'):wpS Md A E s (set s':StateT σ Sem PUnit) Q st:=by
 unfold wpS; rw [StateT.run_set]; exact wpAny_pure ⟨rfl,h⟩
theorem wb3 {arr:Array Keyed} {P r S:List Keyed} {b i:Nat} (h:arr.toList=P ++ (r ++ S)) (hb:b=P.length) (hi:i < r.length):arr[b + i]?=some r[i]:=by
 rw [<- Array.getElem?_toList,h,List.getElem?_append_right (by omega),List.getElem?_append_left (by omega),show b + i - P.length=i by omega]
 exact List.getElem?_eq_getElem hi
theorem bsF (c:Cm prog w A s κ lt M) {arr:Array Keyed} {P r S:List Keyed} {b:Nat} {key:Keyed} (h:arr.toList=P ++ (r ++ S)) (hb:b=P.length) (hM:∀ x ∈ r,M x) (mk:M key) (so:r.Pairwise (le lt)):By lt M false key arr b r.length (λ i=>!lt key (r.getD i key)) where
 ky:=mk
 it:=λ i hi=>⟨r[i],wb3 h hb hi,hM _ (List.getElem_mem hi),by rw [getD_some (List.getElem?_eq_getElem hi),if_neg (by simp)]⟩
 mono:=λ i j hij hj q=>by
  by_cases z:i=j
  ·subst z; exact q
  have e1:=List.getElem?_eq_getElem (l:=r) (i:=i) (by omega)
  have e2:=List.getElem?_eq_getElem hj
  have l:=wg1 so (show i < j by omega) e1 e2
  rw [getD_some e2] at q
  rw [getD_some e1]
  have h':le lt r[j] key:=(by simpa using q:lt key r[j]=false)
  have z:lt key r[i]=false:=c.le_tr l h'
  simpa using z
theorem bsT (c:Cm prog w A s κ lt M) {arr:Array Keyed} {P r S:List Keyed} {b:Nat} {key:Keyed} (h:arr.toList=P ++ (r ++ S)) (hb:b=P.length) (hM:∀ x ∈ r,M x) (mk:M key) (so:r.Pairwise (le lt)):By lt M true key arr b r.length (λ i=>lt (r.getD i key) key) where
 ky:=mk
 it:=λ i hi=>⟨r[i],wb3 h hb hi,hM _ (List.getElem_mem hi),by rw [getD_some (List.getElem?_eq_getElem hi),if_pos rfl]⟩
 mono:=λ i j hij hj q=>by
  by_cases z:i=j
  ·subst z; exact q
  have e1:=List.getElem?_eq_getElem (l:=r) (i:=i) (by omega)
  have e2:=List.getElem?_eq_getElem hj
  have l:=wg1 so (show i < j by omega) e1 e2
  rw [getD_some e2] at q
  rw [getD_some e1]
  rcases c.ng r[j] r[i] key q with z | z
  ·rw [show lt r[j] r[i]=false from l] at z; cases z
  ·exact z
theorem yo8 (c:Cm prog w A s κ lt M) {st:SortSt} {P r1 r2 S:List Keyed} {i sa na pw sb nb pw2:Nat} {Q:Bool->SortSt->Prop} (a:At κ p st (P ++ (r1 ++ (r2 ++ S)))) (hM:∀ x ∈ r1 ++ r2,M x) (e1:p[i]?=some (sa,na,pw)) (e2:p[i + 1]?=some (sb,nb,pw2)) (hsa:sa=P.length) (hna:na=r1.length) (hsb:sb=P.length + r1.length) (hnb:nb=r2.length)
    (n1:0 < r1.length) (n2:0 < r2.length) (s1:r1.Pairwise (le lt)) (s2:r2.Pairwise (le lt)) (h:∀ st' m,At κ ((p.setIfInBounds i (sa,na + nb,pw)).eraseIdxIfInBounds (i + 1)) st' (P ++ (m ++ S))->m.Perm (r1 ++ r2)->m.Pairwise (le lt)->Q true st') :
    wpS (model prog w) A E s (mergeAt' i) Q st:=by
 refine wpS_bind (wpS_get ?_)
 obtain rfl:=a.pe
 have ls:=a.ls
 rw [e1,e2]
 dsimp only
 have M1:∀ x ∈ r1,M x:=λ x hx=>hM x (List.mem_append_left _ hx)
 have M2:∀ x ∈ r2,M x:=λ x hx=>hM x (List.mem_append_right _ hx)
 have ls2:(arrOf st).toList=(P ++ r1) ++ (r2 ++ S):=by rw [List.append_assoc]; exact ls
 have hsb':sb=(P ++ r1).length:=by rw [List.length_append]; exact hsb
 have k0:r2[0]?=some r2[0]:=List.getElem?_eq_getElem n2
 have kl:r1[r1.length - 1]?=some r1[r1.length - 1]:=List.getElem?_eq_getElem (by omega)
 have fin:∀ {st':SortSt},Ok κ st'->arrOf st'=arrOf st->pendingOf st'=((pendingOf st).setIfInBounds i (sa,na + nb,pw)).eraseIdxIfInBounds (i + 1)->(∀ x ∈ r1,∀ y ∈ r2,le lt x y)->Q true st':=λ o ea ep hx =>
  h _ (r1 ++ r2) ⟨o,ep,by rw [ea,ls,List.append_assoc]⟩ (.refl _) (List.pairwise_append.mpr ⟨s1,s2,hx⟩)
 refine wpS_bind (wz5 ?_)
 refine wpS_bind (wh0 (x:=r2[0]) (by have:=wb3 (i:=0) ls2 hsb' n2; exact this) ?_)
 subst hna hnb
 refine wpS_bind (zx1 c ⟨a.ok.kd,a.ok.fl⟩ (bsF c ls hsa M1 (M2 _ (List.getElem_mem n2)) s1) n1 λ k k1 k2 k3=>?_)
 dsimp only
 have lowA:∀ i x,i < k->r1[i]?=some x->le lt x r2[0]:=λ i x hi ex=>by
  have q:=k2 i hi
  rw [getD_some ex] at q
  exact (by simpa using q:lt r2[0] x=false)
 have highA:∀ i x,k<=i->r1[i]?=some x->le lt r2[0] x:=λ i x hi ex=>by
  have q:=k3 i hi (List.getElem?_eq_some_iff.mp ex).1
  rw [getD_some ex] at q
  exact c.lt_le (by simpa using q)
 have first2:∀ y ∈ r2,le lt r2[0] y:=λ y hy=>by
  obtain ⟨j,hj,rfl⟩:=List.mem_iff_getElem.mp hy
  by_cases z:j=0
  ·subst z; exact c.rf _
  ·exact wg1 s2 (by omega) k0 (List.getElem?_eq_getElem hj)
 have last1:∀ x ∈ r1,le lt x r1[r1.length - 1]:=λ x hx=>by
  obtain ⟨j,hj,rfl⟩:=List.mem_iff_getElem.mp hx
  by_cases z:j=r1.length - 1
  ·subst z; exact c.rf _
  ·exact wg1 s1 (by omega) (List.getElem?_eq_getElem hj) kl
 by_cases z:(r1.length - k == 0)=true
 ·rw [if_pos z]
  have z':r1.length - k=0:=eq_of_beq z
  refine wpS_pure (fin ⟨a.ok.kd,a.ok.fl⟩ rfl rfl λ x hx y hy=>?_)
  obtain ⟨j,hj,rfl⟩:=List.mem_iff_getElem.mp hx
  exact c.le_tr (lowA j _ (by omega) (List.getElem?_eq_getElem hj)) (first2 y hy)
 rw [if_neg z]
 have z':r1.length - k ≠ 0:=λ e=>z (beq_iff_eq.mpr e)
 refine wpS_bind (wh0 (x:=r1[r1.length - 1]) (by
  have:=wb3 (i:=r1.length - 1) ls hsa (by omega)
  rw [show sa + k + (r1.length - k) - 1=sa + (r1.length - 1) by omega]
  exact this) ?_)
 refine wpS_bind (zx1 c ⟨a.ok.kd,a.ok.fl⟩ (bsT c ls2 hsb' M2 (M1 _ (List.getElem_mem _)) s2) (by omega) λ t t1 t2 t3=>?_)
 dsimp only
 have lowB:∀ i y,i < t->r2[i]?=some y->le lt y r1[r1.length - 1]:=λ i y hi ey=>by
  have q:=t2 i hi
  rw [getD_some ey] at q
  exact c.lt_le q
 have highB:∀ i y,t<=i->r2[i]?=some y->le lt r1[r1.length - 1] y:=λ i y hi ey=>by
  have q:=t3 i hi (List.getElem?_eq_some_iff.mp ey).1
  rw [getD_some ey] at q
  exact q
 by_cases zt:(t == 0)=true
 ·rw [if_pos zt]
  have zt':t=0:=eq_of_beq zt
  refine wpS_pure (fin ⟨a.ok.kd,a.ok.fl⟩ rfl rfl λ x hx y hy=>?_)
  obtain ⟨j,hj,rfl⟩:=List.mem_iff_getElem.mp hy
  exact c.le_tr (last1 x hx) (highB j _ (by omega) (List.getElem?_eq_getElem hj))
 rw [if_neg zt]
 have zt':t ≠ 0:=λ e=>zt (beq_iff_eq.mpr e)
 have xs:((arrOf st).extract (sa + k) sb).toList=r1.drop k:=by
  rw [xy6,ls2,List.take_append_of_le_length (by omega),List.take_of_length_le (by omega),List.drop_append,show sa + k - P.length=k by omega,List.drop_eq_nil_of_le (by omega),List.nil_append]
 have ys:((arrOf st).extract sb (sb + t)).toList=r2.take t:=by
  rw [yy6,ls2,List.drop_left' hsb'.symm,List.take_append_of_le_length (by omega)]
 have dx:∀ x ∈ r1.drop k,∃ j,k<=j /\ r1[j]?=some x:=λ x hx=>by
  obtain ⟨j,hj,rfl⟩:=List.mem_drop_iff_getElem.mp hx
  exact ⟨k + j,by omega,List.getElem?_eq_getElem (by omega)⟩
 have dy:∀ y ∈ r2.take t,∃ j,j < t /\ r2[j]?=some y:=λ y hy=>by
  obtain ⟨j,hj,rfl⟩:=List.mem_take_iff_getElem.mp hy
  exact ⟨j,by omega,List.getElem?_eq_getElem (by omega)⟩
 have done:∀ (mg:Array Keyed) (st2:SortSt),Same κ (SortSt.mk' (kindOf st) (arrOf st) (((pendingOf st).setIfInBounds i (sa,r1.length + r2.length,pw)).eraseIdxIfInBounds (i + 1)) (gallopOf st) (failedOf st)) st2->Fin lt (r1.drop k) (r2.take t) mg.toList ->
     ∀ (f:SortSt->SortSt),(∀ u,f u=setArr u (mg.toList.zipIdx.foldl (λ (a:Array Keyed) (x:Keyed × Nat)=>match x with | (q,j)=>a.setIfInBounds (sa + k + j) q) (arrOf u)))->wpS (model prog w) A E s (modify f >>= λ _=>get >>= λ u=>pure (failedOf u).isNone) Q st2:=by
  intro mg st2 sm F f hf
  refine wpS_bind (wpS_modify (wpS_bind (wpS_get ?_)))
  rw [hf]
  have e:(failedOf (setArr st2 (mg.toList.zipIdx.foldl (λ (a:Array Keyed) (x:Keyed × Nat)=>match x with | (q,j)=>a.setIfInBounds (sa + k + j) q) (arrOf st2)))).isNone=true:=by
   show (failedOf st2).isNone=true
   rw [sm.ok.fl]; rfl
  rw [e]
  have l1:(r1.take k).length=k:=by rw [List.length_take]; omega
  have l2:mg.toList.length=(r1.drop k ++ r2.take t).length:=F.1.length_eq
  have wbk:=wb (sa + k) mg.toList (r1.drop k ++ r2.take t) (P ++ r1.take k) (r2.drop t ++ S) (arrOf st2) 0 (by
   rw [sm.ar]
   show (arrOf st).toList=_
   rw [ls]
   simp only [List.append_assoc]
   rw [<- List.append_assoc (r1.take k),List.take_append_drop,<- List.append_assoc (r2.take t),List.take_append_drop]) l2.symm (by rw [List.length_append]; omega)
  refine wpS_pure (h _ (r1.take k ++ mg.toList ++ r2.drop t) ⟨⟨sm.ok.kd,sm.ok.fl⟩,sm.pe,?_⟩ ?_ ?_)
  ·refine wbk.trans ?_
   simp only [List.append_assoc]
  ·have q:=F.1
   refine .trans (List.Perm.append_right _ (List.Perm.append_left _ q)) ?_
   rw [<- List.append_assoc (r1.take k),List.take_append_drop,List.append_assoc,List.take_append_drop]
  ·have mem:∀ v ∈ mg.toList,v ∈ r1.drop k \/ v ∈ r2.take t:=λ v hv=>List.mem_append.mp (F.1.mem_iff.mp hv)
   have lowk:∀ x ∈ r1.take k,le lt x r2[0]:=λ x hx=>by
    obtain ⟨j,hj,rfl⟩:=List.mem_take_iff_getElem.mp hx
    exact lowA j _ (by omega) (List.getElem?_eq_getElem (by omega))
   have s1':=s1
   rw [<- List.take_append_drop k r1] at s1'
   have s2':=s2
   rw [<- List.take_append_drop t r2] at s2'
   have hd:∀ y ∈ r2.drop t,le lt r1[r1.length - 1] y:=λ y hy=>by
    obtain ⟨j,hj,rfl⟩:=List.mem_drop_iff_getElem.mp hy
    exact highB (t + j) _ (by omega) (List.getElem?_eq_getElem (by omega))
   refine List.pairwise_append.mpr ⟨List.pairwise_append.mpr ⟨(List.pairwise_append.mp s1').1,F.2,λ x hx v hv=>?_⟩,(List.pairwise_append.mp s2').2.1,λ x hx y hy=>?_⟩
   ·rcases mem v hv with q | q
    ·exact (List.pairwise_append.mp s1').2.2 x hx v q
    ·exact c.le_tr (lowk x hx) (first2 v (List.mem_of_mem_take q))
   ·rcases List.mem_append.mp hx with q | q
    ·exact c.le_tr (lowk x q) (first2 y (List.mem_of_mem_drop hy))
    ·rcases mem x q with q | q
     ·exact c.le_tr (last1 x (List.mem_of_mem_drop q)) (hd y hy)
     ·exact (List.pairwise_append.mp s2').2.2 x q y hy
 have pre1:∀ x ∈ ((arrOf st).extract (sa + k) sb).toList,M x:=λ x hx=>M1 x (by rw [xs] at hx; exact List.mem_of_mem_drop hx)
 have pre2:∀ x ∈ ((arrOf st).extract sb (sb + t)).toList,M x:=λ x hx=>M2 x (by rw [ys] at hx; exact List.mem_of_mem_take hx)
 have pre3:((arrOf st).extract (sa + k) sb).toList.Pairwise (le lt):=by rw [xs]; exact s1.sublist (List.drop_sublist _ _)
 have pre4:((arrOf st).extract sb (sb + t)).toList.Pairwise (le lt):=by rw [ys]; exact s2.sublist (List.take_sublist _ _)
 have pre5:0 < ((arrOf st).extract (sa + k) sb).toList.length:=by rw [xs,List.length_drop]; omega
 have pre6:0 < ((arrOf st).extract sb (sb + t)).toList.length:=by rw [ys,List.length_take]; omega
 have pre7:∀ x y,((arrOf st).extract sb (sb + t)).toList[0]?=some x->((arrOf st).extract (sa + k) sb).toList[0]?=some y->le lt x y:=λ x y hx hy=>by
  rw [ys,List.getElem?_take_of_lt (by omega),k0] at hx
  cases hx
  rw [xs] at hy
  obtain ⟨j,hj,ej⟩:=dx y (List.mem_of_getElem? hy)
  exact highA j y hj ej
 have pre8:∀ x,((arrOf st).extract (sa + k) sb).toList[((arrOf st).extract (sa + k) sb).toList.length - 1]?=some x->∀ y ∈ ((arrOf st).extract sb (sb + t)).toList,le lt y x:=λ x hx y hy=>by
  rw [xs,List.length_drop,List.getElem?_drop,show k + (r1.length - k - 1)=r1.length - 1 by omega,kl] at hx
  cases hx
  rw [ys] at hy
  obtain ⟨j,hj,ej⟩:=dy y hy
  exact lowB j y hj ej
 by_cases g:r1.length - k<=t
 ·rw [if_pos g]
  refine wpS_bind (zn8 c ⟨a.ok.kd,a.ok.fl⟩ pre1 pre2 pre3 pre4 pre5 pre6 pre7 pre8 λ mg st2 sm F=>?_)
  rw [xs,ys] at F
  refine done mg st2 sm F _ ?_
  intro u; rfl
 ·rw [if_neg g]
  refine wpS_bind (xo8 c ⟨a.ok.kd,a.ok.fl⟩ pre1 pre2 pre3 pre4 pre5 pre6 pre7 pre8 λ mg st2 sm F=>?_)
  rw [xs,ys] at F
  refine done mg st2 sm F _ ?_
  intro u; rfl
end
end Ts
namespace Ts
open PySem PyProof.Rows
noncomputable def pos:Nat->List (List Keyed)->List (Nat × Nat)
 | _,[]=>[]
 | o,r :: rs=>(o,r.length) :: pos (o + r.length) rs
theorem wb2:∀ (o:Nat) (X Y:List (List Keyed)),pos o (X ++ Y)=pos o X ++ pos (o + X.flatten.length) Y
 | o,[],Y=>by simp [pos]
 | o,r :: X,Y=>by
  show (o,r.length) :: pos (o + r.length) (X ++ Y)=_
  rw [wb2]
  simp [pos,Nat.add_assoc]
theorem wt2:∀ (o:Nat) (X:List (List Keyed)),(pos o X).length=X.length
 | _,[]=>rfl
 | o,r :: X=>by show (pos _ X).length + 1=X.length + 1; rw [wt2]
noncomputable abbrev pn (t:Nat × Nat × Nat):Nat × Nat:=(t.1,t.2.1)
structure Lay (κ:SortKind) (lt:Keyed->Keyed->Bool) (L0:List Keyed) (p:Array (Nat × Nat × Nat)) (st:SortSt) (rs:List (List Keyed)) (rest:List Keyed):Prop where
 at_:At κ p st (rs.flatten ++ rest)
 po:p.toList.map pn=pos 0 rs
 so:∀ r ∈ rs,0 < r.length /\ r.Pairwise (le lt)
 pm:(rs.flatten ++ rest).Perm L0
theorem Lay.size {κ:SortKind} {lt:Keyed->Keyed->Bool} {L0:List Keyed} {p:Array (Nat × Nat × Nat)} {st:SortSt} {rs:List (List Keyed)} {rest:List Keyed} (l:Lay κ lt L0 p st rs rest):p.size=rs.length:=by
 have:=congrArg List.length l.po
 rw [List.length_map,wt2] at this
 exact this
theorem Lay.many {κ:SortKind} {lt:Keyed->Keyed->Bool} {L0:List Keyed} {p:Array (Nat × Nat × Nat)} {st:SortSt} {rs:List (List Keyed)} {rest:List Keyed} (l:Lay κ lt L0 p st rs rest):rs.length<=rs.flatten.length:=by
 have h:=l.so
 clear l
 induction rs with
 | nil=>simp
 | cons r rs ih =>
  have a:=(h r (.head _)).1
  have b:=ih λ x hx=>h x (.tail _ hx)
  simp only [List.length_cons,List.flatten_cons,List.length_append]
  omega
section
variable {prog:Program} {w:World} {A:Around} {E:Value->Shared->Prop} {s:Shared} {κ:SortKind} {p:Array (Nat × Nat × Nat)}
variable {lt:Keyed->Keyed->Bool} {M:Keyed->Prop}
theorem Lay.merge (c:Cm prog w A s κ lt M) {L0:List Keyed} {st:SortSt} {rs:List (List Keyed)} {rest:List Keyed} {i:Nat} {Q:Bool->SortSt->Prop} (hM:∀ x ∈ L0,M x) (l:Lay κ lt L0 p st rs rest) (hi:i + 1 < rs.length)
    (h:∀ st' p' rs',Lay κ lt L0 p' st' rs' rest->rs'.length + 1=rs.length->rs'.flatten.length=rs.flatten.length->Q true st'):wpS (model prog w) A E s (mergeAt' i) Q st:=by
 obtain ⟨X,r1,r2,Y,rfl,hX⟩:∃ X r1 r2 Y,rs=X ++ r1 :: r2 :: Y /\ X.length=i:=by
  refine ⟨rs.take i,rs[i],rs[i + 1],rs.drop (i + 2),?_,by rw [List.length_take]; omega⟩
  rw [<- List.drop_eq_getElem_cons,<- List.drop_eq_getElem_cons,List.take_append_drop]
 have po:=l.po
 rw [wb2] at po
 obtain ⟨px,pr,e1,e2,e3⟩:=List.map_eq_append_iff.mp po
 obtain ⟨t1,pr1,e4,e5,e6⟩:=List.map_eq_cons_iff.mp e3
 obtain ⟨t2,py,e7,e8,e9⟩:=List.map_eq_cons_iff.mp e6
 subst e4 e7
 obtain ⟨sa,na,pw⟩:=t1
 obtain ⟨sb,nb,pw2⟩:=t2
 have lp:px.length=i:=by have:=congrArg List.length e2; rw [List.length_map,wt2] at this; omega
 injection e5 with f1 f2
 injection e8 with f3 f4
 dsimp only at f1 f2 f3 f4
 rw [Nat.zero_add] at f1 f3 e9
 have g1:p[i]?=some (sa,na,pw):=by rw [<- Array.getElem?_toList,e1,List.getElem?_append_right (by omega),show i - px.length=0 by omega]; rfl
 have g2:p[i + 1]?=some (sb,nb,pw2):=by rw [<- Array.getElem?_toList,e1,List.getElem?_append_right (by omega),show i + 1 - px.length=1 by omega]; rfl
 have a:=l.at_
 have fl:(X ++ r1 :: r2 :: Y).flatten ++ rest=X.flatten ++ (r1 ++ (r2 ++ (Y.flatten ++ rest))):=by simp
 rw [fl] at a
 have pm:=l.pm
 rw [fl] at pm
 have s1:=l.so r1 (by simp)
 have s2:=l.so r2 (by simp)
 refine yo8 c a (λ x hx=>hM x (pm.mem_iff.mp ?_)) g1 g2 f1 f2 f3 f4 s1.1 s2.1 s1.2 s2.2 λ st' m a' pm' so'=>?_
 ·rcases List.mem_append.mp hx with q | q
  ·exact List.mem_append_right _ (List.mem_append_left _ q)
  ·exact List.mem_append_right _ (List.mem_append_right _ (List.mem_append_left _ q))
 ·have lm:=pm'.length_eq
  rw [List.length_append] at lm
  refine h st' ((p.setIfInBounds i (sa,na + nb,pw)).eraseIdxIfInBounds (i + 1)) (X ++ m :: Y) ⟨?_,?_,?_,?_⟩ (by simp; omega) (by simp only [List.flatten_append,List.flatten_cons,List.length_append]; omega)
  ·have fl2:(X ++ m :: Y).flatten ++ rest=X.flatten ++ (m ++ (Y.flatten ++ rest)):=by simp
   rw [fl2]
   exact a'
  ·have pl:((p.setIfInBounds i (sa,na + nb,pw)).eraseIdxIfInBounds (i + 1)).toList=px ++ (sa,na + nb,pw) :: py:=by
     rw [Array.toList_eraseIdxIfInBounds,Array.toList_setIfInBounds,e1,List.set_append_right _ _ (by omega),show i - px.length=0 by omega,List.set_cons_zero,List.eraseIdx_append_of_length_le (by omega),show i + 1 - px.length=1 by omega]
     rfl
   rw [pl,List.map_append,e2,wb2,List.map_cons]
   refine congrArg _ ?_
   show (sa,na + nb) :: _=(0 + X.flatten.length,m.length) :: pos _ Y
   rw [Nat.zero_add,f1,show na + nb=m.length by omega,e9,show X.flatten.length + m.length=X.flatten.length + r1.length + r2.length by omega]
  ·intro r hr
   rcases List.mem_append.mp hr with q | q
   ·exact l.so r (List.mem_append_left _ q)
   ·rcases List.mem_cons.mp q with rfl | q
    ·exact ⟨by omega,so'⟩
    ·exact l.so r (List.mem_append_right _ (.tail _ (.tail _ q)))
  ·refine .trans ?_ pm
   have fl2:(X ++ m :: Y).flatten ++ rest=X.flatten ++ (m ++ (Y.flatten ++ rest)):=by simp
   rw [fl2]
   refine List.Perm.append_left _ ?_
   rw [<- List.append_assoc r1]
   exact List.Perm.append_right _ pm'
theorem xl7 (c:Cm prog w A s κ lt M) {st:SortSt} {L0:List Keyed} {Q:Unit->SortSt->Prop} (a:At κ #[] st L0) (hM:∀ x ∈ L0,M x) (h2:2<=L0.length) (h:∀ st' p L,At κ p st' L->L.Perm L0->L.Pairwise (le lt)->Q () st') :
    wpS (model prog w) A E s sortRuns' Q st:=by
 refine wpS_bind (wpS_get ?_)
 dsimp only
 have sz:(arrOf st).size=L0.length:=by rw [<- Array.length_toList,a.ls]
 generalize hsz:(arrOf st).size=size at *
 have hs:size=L0.length:=sz
 generalize ((sortPriv% PySem.Builtin.minRun):Nat->Nat->Nat->Nat) size size 0=mr
 have st0:Lay κ lt L0 #[] st [] L0:=⟨by simpa using a,rfl,λ _ h=>(nomatch h),by simp⟩
 have llen:∀ {p:Array (Nat × Nat × Nat)} {st':SortSt} {rs:List (List Keyed)} {rest:List Keyed},Lay κ lt L0 p st' rs rest->rs.flatten.length + rest.length=size:=λ l=>by
  have:=l.pm.length_eq
  rw [List.length_append] at this
  omega
 have push:∀ {p:Array (Nat × Nat × Nat)} {st':SortSt} {rs:List (List Keyed)} {rest:List Keyed} {lo n:Nat},Lay κ lt L0 p st' rs rest->lo=rs.flatten.length->1<=n->n<=rest.length->(rest.take n).Pairwise (le lt) ->
     Lay κ lt L0 (p.push (lo,n,0)) (setPending st' ((pendingOf st').push (lo,n,0))) (rs ++ [rest.take n]) (rest.drop n):=by
  intro p st' rs rest lo n l hlo h1 h2 so
  have e:(rs ++ [rest.take n]).flatten ++ rest.drop n=rs.flatten ++ rest:=by simp
  have lt1:(rest.take n).length=n:=by rw [List.length_take]; omega
  refine ⟨by rw [e]; exact ⟨⟨l.at_.ok.kd,l.at_.ok.fl⟩,by show (pendingOf st').push _=_; rw [l.at_.pe],l.at_.ls⟩,?_,?_,by rw [e]; exact l.pm⟩
  ·rw [Array.toList_push,List.map_append,l.po,wb2]
   refine congrArg _ ?_
   show [(lo,n)]=[(0 + rs.flatten.length,(rest.take n).length)]
   rw [Nat.zero_add,lt1,hlo]
  ·intro r hr
   rcases List.mem_append.mp hr with q | q
   ·exact l.so r q
   ·rw [List.mem_singleton] at q; subst q; exact ⟨by omega,so⟩
 refine wpS_bind (wpS_mono (wpS_forRange (λ x (r:Option Unit × Nat) st'=>r.1=none /\ x<=r.2 /\ ∃ p rs rest,Lay κ lt L0 p st' rs rest /\ r.2=rs.flatten.length) (Q:=λ (r:Option Unit × Nat) st'=>r.1=none /\ ∃ p rs,Lay κ lt L0 p st' rs []) ?_ ?_ ⟨rfl,Nat.zero_le _,#[],[],L0,st0,rfl⟩) ?_)
 ·rintro x ⟨r,lo⟩ st1 _ hx ⟨rfl,b1,p1,rs,rest,l,hlo⟩
  dsimp only at b1 hlo ⊢
  have ln:=llen l
  by_cases z:lo ≥ size
  ·rw [if_pos z]
   have e:rest=[]:=List.eq_nil_of_length_eq_zero (by omega)
   subst e
   exact wpS_pure ⟨rfl,p1,rs,l⟩
  ·rw [if_neg z]
   have hr:size - lo=rest.length:=by omega
   rw [hr]
   refine wpS_bind (wt8 c l.at_ (λ x hx=>hM x (l.pm.mem_iff.mp hx)) hlo (by omega) λ m st2 R2 a2 pm2 m1 m2 so2=>?_)
   have l2:Lay κ lt L0 p1 st2 rs R2:=⟨a2,l.po,l.so,(List.Perm.append_left _ pm2).trans l.pm⟩
   have r2l:=pm2.length_eq
   have jp:∀ (n:Nat) (st3:SortSt) (R3:List Keyed),Lay κ lt L0 p1 st3 rs R3->1<=n->n<=R3.length->(R3.take n).Pairwise (le lt)->∀ (G:SortSt->StateT SortSt Sem (ForInStep (Option Unit × Nat))) (J:StateT SortSt Sem (ForInStep (Option Unit × Nat))),
       (∀ (q:Array (Nat × Nat × Nat)) (st4:SortSt) rs4,Lay κ lt L0 q st4 rs4 R3->rs4.flatten.length=lo->wpS (model prog w) A E s J (λ r st'=>match r with
        | .done c'=>c'.1=none /\ ∃ p rs,Lay κ lt L0 p st' rs []
        | .yield c'=>c'.1=none /\ x + 1<=c'.2 /\ ∃ p rs rest,Lay κ lt L0 p st' rs rest /\ c'.2=rs.flatten.length) st4) ->
       ((pendingOf st3).back?=none->G st3=J)->(∀ s1 n1 o1,(pendingOf st3).back?=some (s1,n1,o1)->∃ (pw:Nat) (f:Nat->Option Unit × Unit->StateT SortSt Sem (ForInStep (Option Unit × Unit))) (g:Option Unit × Unit->StateT SortSt Sem (ForInStep (Option Unit × Nat))),G st3=(forIn [0:size] (none,()) f >>= g) ∧
        (∀ y,f y (none,())=(get >>= λ u=>match (if (pendingOf u).size > 1 then (pendingOf u)[(pendingOf u).size - 2]? else none) with
         | some (_,_,older)=>if older<=pw then pure (.done (none,())) else mergeAt' ((pendingOf u).size - 2) >>= λ b=>if (!b)=true then pure (.done (some (),())) else pure (.yield (none,()))
         | none=>pure (.done (none,())))) ∧
        g (none,())=(modify (λ u=>setPending u ((pendingOf u).modify ((pendingOf u).size - 1) λ t=>(t.1,t.2.1,pw))) >>= λ _=>J)) ->
       wpS (model prog w) A E s (get >>= G) (λ r st'=>match r with
        | .done c'=>c'.1=none /\ ∃ p rs,Lay κ lt L0 p st' rs []
        | .yield c'=>c'.1=none /\ x + 1<=c'.2 /\ ∃ p rs rest,Lay κ lt L0 p st' rs rest /\ c'.2=rs.flatten.length) st3:=by
    intro n st3 R3 l3 h1 h2 so3 G J hJ hG1 hG2
    refine wpS_bind (wpS_get ?_)
    cases hb:(pendingOf st3).back? with
    | none =>
     rw [hG1 hb]
     exact hJ _ st3 rs l3 hlo.symm
    | some t =>
     obtain ⟨s1,n1,o1⟩:=t
     obtain ⟨pw,f,g,e1,e2,e3⟩:=hG2 s1 n1 o1 hb
     rw [e1]
     refine wpS_bind (wpS_mono (wpS_forRange (λ y (r:Option Unit × Unit) st'=>r=(none,()) /\ ∃ q rs4,Lay κ lt L0 q st' rs4 R3 /\ rs4.flatten.length=lo) (Q:=λ (r:Option Unit × Unit) st'=>r=(none,()) /\ ∃ q rs4,Lay κ lt L0 q st' rs4 R3 /\ rs4.flatten.length=lo) ?_ (λ _ _ q=>q) ⟨rfl,p1,rs,l3,hlo.symm⟩) ?_)
     ·rintro y r st4 _ _ ⟨rfl,q,rs4,l4,hl4⟩
      rw [e2]
      refine wpS_bind (wpS_get ?_)
      have pe:=l4.at_.pe
      have ps:=l4.size
      by_cases c1:(pendingOf st4).size > 1
      ·rw [if_pos c1]
       cases c2:(pendingOf st4)[(pendingOf st4).size - 2]? with
       | none=>exact wpS_pure ⟨rfl,q,rs4,l4,hl4⟩
       | some t =>
        obtain ⟨_,_,older⟩:=t
        dsimp only
        by_cases c3:older<=pw
        ·rw [if_pos c3]
         exact wpS_pure ⟨rfl,q,rs4,l4,hl4⟩
        ·rw [if_neg c3]
         refine wpS_bind (l4.merge c hM (by rw [pe] at c1 ⊢; omega) λ st5 p5 rs5 l5 _ hl5=>?_)
         rw [if_neg (by simp)]
         exact wpS_pure ⟨rfl,p5,rs5,l5,by omega⟩
      ·rw [if_neg c1]
       exact wpS_pure ⟨rfl,q,rs4,l4,hl4⟩
     ·rintro r st4 ⟨rfl,q,rs4,l4,hl4⟩
      rw [e3]
      refine wpS_bind (wpS_modify (hJ (q.modify (q.size - 1) λ t=>(t.1,t.2.1,pw)) _ rs4 ⟨⟨⟨l4.at_.ok.kd,l4.at_.ok.fl⟩,?_,l4.at_.ls⟩,?_,l4.so,l4.pm⟩ hl4))
      ·have pe4:=l4.at_.pe
       subst pe4
       rfl
      ·rw [<- l4.po,Array.toList_modify]
       apply List.ext_getElem?
       intro k
       rw [List.getElem?_map,List.getElem?_map,List.getElem?_modify]
       split
       ·cases q.toList[k]? <;> rfl
       ·cases q.toList[k]? <;> rfl
   have end_:∀ {n:Nat} {R3:List Keyed},1<=n->n<=R3.length->(R3.take n).Pairwise (le lt)->∀ (q:Array (Nat × Nat × Nat)) (st4:SortSt) rs4,Lay κ lt L0 q st4 rs4 R3->rs4.flatten.length=lo->∀ (f:SortSt->SortSt),(∀ u,f u=setPending u ((pendingOf u).push (lo,n,0)))->wpS (model prog w) A E s (modify f >>= λ _=>pure (ForInStep.yield ((none,lo + n):Option Unit × Nat))) (λ r st'=>match r with
         | .done c'=>c'.1=none /\ ∃ p rs,Lay κ lt L0 p st' rs []
         | .yield c'=>c'.1=none /\ x + 1<=c'.2 /\ ∃ p rs rest,Lay κ lt L0 p st' rs rest /\ c'.2=rs.flatten.length) st4:=by
    intro n R3 h1 h2 so3 q st4 rs4 l4 hl4 f hf
    refine wpS_bind (wpS_modify (wpS_pure ?_))
    rw [hf]
    refine ⟨rfl,by show x + 1<=lo + n; omega,_,_,_,push l4 hl4.symm h1 h2 so3,?_⟩
    show lo + n=_
    rw [List.flatten_append,List.length_append]
    simp only [List.flatten_cons,List.flatten_nil,List.append_nil,List.length_take]
    omega
   dsimp only
   by_cases g:m < mr
   ·rw [if_pos g]
    refine wpS_bind (wpS_lift (wpAny_rule ⟨rfl,?_⟩))
    refine wpS_bind (wu4 c a2 (λ x hx=>hM x (l2.pm.mem_iff.mp hx)) hlo m1 (show m<=min rest.length mr by omega) (by omega) so2 λ st3 R3 a3 pm3 so3=>?_)
    rw [if_neg (by simp)]
    have l3:Lay κ lt L0 p1 st3 rs R3:=⟨a3,l.po,l.so,(List.Perm.append_left _ pm3).trans l2.pm⟩
    have r3l:=pm3.length_eq
    refine wpS_mono (jp _ st3 R3 l3 (show 1<=min rest.length mr by omega) (by omega) so3 _ _ (λ q st4 rs4 l4 hl4=>end_ (by omega) (by omega) so3 q st4 rs4 l4 hl4 _ λ _=>rfl) ?_ ?_) ?_
    ·intro hb; rw [hb]
    ·intro s1 n1 o1 hb
     rw [hb]
     refine ⟨_,_,_,rfl,λ y=>?_,rfl⟩
     refine congrArg _ (funext λ u=>?_)
     generalize (if (pendingOf u).size > 1 then (pendingOf u)[(pendingOf u).size - 2]? else none)=o
     rcases o with _ | ⟨_,_,_⟩ <;> rfl
    ·intro r st' q; cases r <;> exact q
   ·rw [if_neg g]
    refine wpS_mono (jp m st2 R2 l2 m1 (by omega) so2 _ _ (λ q st4 rs4 l4 hl4=>end_ m1 (by omega) so2 q st4 rs4 l4 hl4 _ λ _=>rfl) ?_ ?_) ?_
    ·intro hb; rw [hb]
    ·intro s1 n1 o1 hb
     rw [hb]
     refine ⟨_,_,_,rfl,λ y=>?_,rfl⟩
     refine congrArg _ (funext λ u=>?_)
     generalize (if (pendingOf u).size > 1 then (pendingOf u)[(pendingOf u).size - 2]? else none)=o
     rcases o with _ | ⟨_,_,_⟩ <;> rfl
    ·intro r st' q; cases r <;> exact q
 ·rintro ⟨r,lo⟩ st1 ⟨rfl,b1,p1,rs,rest,l,hlo⟩
  dsimp only at b1 hlo
  have ln:=llen l
  have b1':max 0 size<=lo:=b1
  have e:rest=[]:=List.eq_nil_of_length_eq_zero (by omega)
  subst e
  exact ⟨rfl,p1,rs,l⟩
 ·rintro ⟨r,lo⟩ st1 ⟨rfl,p1,rs,l⟩
  dsimp only
  have ln:=llen l
  have mn:=l.many
  refine wpS_bind (wpS_mono (wpS_forRange (λ x (r:Option Unit × Unit) st'=>r=(none,()) /\ ∃ p rs,Lay κ lt L0 p st' rs [] /\ rs.length + x<=size + 1 + (if rs.length<=1 then x else 0)) (Q:=λ (r:Option Unit × Unit) st'=>r=(none,()) /\ ∃ p rs,Lay κ lt L0 p st' rs [] /\ rs.length<=1) ?_ ?_ ⟨rfl,p1,rs,l,by rw [List.length_nil] at ln; omega⟩) ?_)
  ·rintro x r st2 _ hx ⟨rfl,p2,rs2,l2,b⟩
   refine wpS_bind (wpS_get ?_)
   have pe:=l2.at_.pe
   have ps:=l2.size
   have ps':(pendingOf st2).size=rs2.length:=by rw [pe]; exact ps
   by_cases z:(pendingOf st2).size<=1
   ·rw [if_pos z]
    exact wpS_pure ⟨rfl,p2,rs2,l2,by omega⟩
   ·rw [if_neg z]
    refine wpS_bind (l2.merge c hM ?_ λ st3 p3 rs3 l3 hl3 _=>?_)
    ·exact (show ∀ (P:Prop) [Decidable P] (n m:Nat),2<=n->n=m->(if P then n - 2 - 1 else n - 2) + 1 < m by intro P _ n m h1 h2; split <;> omega) _ _ _ (show 2<=(pendingOf st2).size by omega) ps'
    ·rw [if_neg (by simp)]
     refine wpS_pure ⟨rfl,p3,rs3,l3,?_⟩
     rw [if_neg (by omega)] at b
     split <;> omega
  ·rintro r st2 ⟨rfl,p2,rs2,l2,b⟩
   refine ⟨rfl,p2,rs2,l2,?_⟩
   by_cases z:rs2.length<=1
   ·exact z
   ·rw [if_neg z] at b
    omega
  ·rintro r st2 ⟨rfl,p2,rs2,l2,b⟩
   dsimp only
   have pm:=l2.pm
   have a2:=l2.at_
   rw [List.append_nil] at pm a2
   refine wpS_pure (h st2 p2 _ a2 pm ?_)
   match rs2,b,l2.so with
   | [],_,_=>exact List.Pairwise.nil
   | [r],_,so=>simpa using (so r (.head _)).2
   | _ :: _ :: _,b,_=>simp at b
end
end Ts
namespace Ts
open PySem PyProof.Rows PySem.W
theorem zh4 {α β:Type} {f:α->β} {L N:List β} (h:L.Perm N):∀ l:List α,N=l.map f->∃ l':List α,l'.Perm l /\ L=l'.map f:=by
 induction h with
 | nil=>intro l e; exact ⟨l,.refl _,e⟩
 | cons x _ ih =>
  intro l e
  obtain ⟨a,l1,rfl,rfl,e3⟩:=List.map_eq_cons_iff.mp e.symm
  obtain ⟨l',p,e4⟩:=ih l1 e3.symm
  exact ⟨a :: l',p.cons a,by rw [e4]; rfl⟩
 | swap x y t =>
  intro l e
  obtain ⟨a,l1,rfl,rfl,e3⟩:=List.map_eq_cons_iff.mp e.symm
  obtain ⟨b,l2,rfl,rfl,e5⟩:=List.map_eq_cons_iff.mp e3
  exact ⟨b :: a :: l2,.swap a b l2,by rw [<- e5]; rfl⟩
 | trans _ _ ih1 ih2 =>
  intro l e
  obtain ⟨l2,p2,e2⟩:=ih2 l e
  obtain ⟨l1,p1,e1⟩:=ih1 l2 e2
  exact ⟨l1,p1.trans p2,e1⟩
open Classical in
noncomputable def idx (vs:List Value) (x:Keyed):Nat:=if h:∃ i:Nat,vs[i]?=some x.1 then Classical.choose h else 0
theorem wg3 {vs:List Value} {x:Keyed} (h:∃ i:Nat,vs[i]?=some x.1):vs[idx vs x]?=some x.1:=by
 unfold idx
 rw [dif_pos h]
 exact Classical.choose_spec h
section
variable {prog:Program} {w:World} {A:Around} {E:Value->Shared->Prop} {s:Shared} {κ:SortKind}
theorem run_idx {vs:List Value} {lt:Nat->Nat->Bool} (O:Ms.Ord lt) (h2:2<=vs.length) (sm:∀ (i j:Nat) v,vs[i]?=some v->vs[j]?=some v->∀ k,lt i k=lt j k /\ lt k i=lt k j)
    (ask:∀ (i j:Nat) x y,vs[i]?=some x->vs[j]?=some y->∀ C:Bool->Shared->Prop,C (lt i j) s->wpAny (model prog w) A (keyLt' κ x y) C (λ _ _=>False) s) :
    wpS (model prog w) A E s sortRuns' (λ _ st'=>∃ p:Array Nat,p.Perm (List.toArray (List.range vs.length)) /\ Ms.Up lt p vs.length /\ arrOf st'=p.map (kas_item (vs.toArray.zip vs.toArray)) /\ failedOf st'=none) (SortSt.mk' κ (vs.toArray.zip vs.toArray) #[] 7 none):=by
 let M:Keyed->Prop:=λ x=>∃ i:Nat,vs[i]?=some x.1
 let lk:Keyed->Keyed->Bool:=λ x y=>lt (idx vs x) (idx vs y)
 have c:Cm prog w A s κ lk M:=⟨λ x y hx hy C h=>ask _ _ _ _ (wg3 hx) (wg3 hy) C h,λ x=>O.ir _,λ x y z=>O.tr _ _ _,λ x y z=>O.ng _ _ _⟩
 have it:(vs.toArray.zip vs.toArray).toList=(List.range vs.length).map (kas_item (vs.toArray.zip vs.toArray)):=by
  have:=kas_range (vs.toArray.zip vs.toArray)
  have sz:(vs.toArray.zip vs.toArray).size=vs.length:=by simp
  rw [sz] at this
  have e:=congrArg Array.toList this
  simpa using e.symm
 have ki:∀ i,i < vs.length->(kas_item (vs.toArray.zip vs.toArray) i).1=vs.getD i .none:=λ i hi=>by
  show ((vs.toArray.zip vs.toArray).getD i _).1=_
  simp [Array.getD,hi,List.getD_eq_getElem?_getD]
 refine xl7 c (L0:=(vs.toArray.zip vs.toArray).toList) ⟨⟨rfl,rfl⟩,rfl,rfl⟩ (λ x hx=>?_) (by simp; exact h2) λ st' p L a pm so=>?_
 ·rw [it] at hx
  obtain ⟨i,hi,rfl⟩:=List.mem_map.mp hx
  have hi':=List.mem_range.mp hi
  exact ⟨i,by rw [ki i hi',List.getD_eq_getElem?_getD,List.getElem?_eq_getElem hi']; rfl⟩
 ·obtain ⟨l,pl,el⟩:=zh4 pm _ it
  subst el
  refine ⟨l.toArray,Array.perm_iff_toList_perm.mpr pl,?_,Array.toList_inj.mp (by rw [a.ls]; simp),a.ok.fl⟩
  have ll:l.length=vs.length:=by have:=pl.length_eq; simpa using this
  intro x y hxy hy
  show lt (l.toArray.getD y 0) (l.toArray.getD x 0)=false
  have gx:∀ z,z < l.length->l.toArray.getD z 0=l.getD z 0:=λ z hz=>by simp [Array.getD,hz,List.getD_eq_getElem?_getD]
  rw [gx y (by omega),gx x (by omega)]
  by_cases e:x=y
  ·subst e; exact O.ir _
  have ex:l[x]?=some l[x]:=List.getElem?_eq_getElem (by omega)
  have ey:l[y]?=some l[y]:=List.getElem?_eq_getElem (by omega)
  have q:=wg1 so (show x < y by omega) (by rw [List.getElem?_map,ex]; rfl) (by rw [List.getElem?_map,ey]; rfl)
  have rx:l[x] < vs.length:=List.mem_range.mp (pl.mem_iff.mp (List.getElem_mem _))
  have ry:l[y] < vs.length:=List.mem_range.mp (pl.mem_iff.mp (List.getElem_mem _))
  have vx:vs[l[x]]?=some (kas_item (vs.toArray.zip vs.toArray) l[x]).1:=by rw [ki _ rx,List.getD_eq_getElem?_getD,List.getElem?_eq_getElem rx]; rfl
  have vy:vs[l[y]]?=some (kas_item (vs.toArray.zip vs.toArray) l[y]).1:=by rw [ki _ ry,List.getD_eq_getElem?_getD,List.getElem?_eq_getElem ry]; rfl
  have jx:=wg3 (vs:=vs) (x:=kas_item (vs.toArray.zip vs.toArray) l[x]) ⟨_,vx⟩
  have jy:=wg3 (vs:=vs) (x:=kas_item (vs.toArray.zip vs.toArray) l[y]) ⟨_,vy⟩
  have q':lt (idx vs (kas_item (vs.toArray.zip vs.toArray) l[y])) (idx vs (kas_item (vs.toArray.zip vs.toArray) l[x]))=false:=q
  rw [(sm _ _ _ jy vy _).1,(sm _ _ _ jx vx _).2] at q'
  simpa [List.getD_eq_getElem?_getD,ex,ey] using q'
end
end Ts
namespace Pv
open PySem PySem.Spec PySem.W PyProof.Rows L2
noncomputable abbrev T3:=Int × Int × Int
noncomputable def lt3 (a b:T3):Bool:=decide (a.1 < b.1) || (a.1 == b.1 && (decide (a.2.1 < b.2.1) || (a.2.1 == b.2.1 && decide (a.2.2 < b.2.2))))
noncomputable def IsT3 (h:Heap) (v:Value) (t:T3):Prop:=∃ a o t1 t2 t3 n,v=.ref a /\ h.get? a=some o /\ o.cls=.type "tuple" /\ o.data=.seq #[.int t.1 t1,.int t.2.1 t2,.int t.2.2 t3] n
theorem IsT3.one {h:Heap} {v:Value} {t u:T3} (i:IsT3 h v t) (k:IsT3 h v u):t=u:=by
 obtain ⟨a,o,t1,t2,t3,n,rfl,e2,_,e4⟩:=i
 obtain ⟨b,q,u1,u2,u3,m,f1,f2,_,f4⟩:=k
 cases f1
 rw [e2] at f2
 cases f2
 rw [e4] at f4
 obtain ⟨x,y,z⟩:=t
 obtain ⟨x',y',z'⟩:=u
 simp only [Data.seq.injEq,Array.mk.injEq,List.cons.injEq,Value.int.injEq] at f4
 obtain ⟨⟨⟨h1,_⟩,⟨h2,_⟩,⟨h3,_⟩,_⟩,_⟩:=f4
 rw [h1,h2,h3]
theorem zl4 (ts:List T3):Ms.Ord λ i j=>lt3 (ts.getD i (0,0,0)) (ts.getD j (0,0,0)) where
 ir:=λ a=>by simp [lt3]
 tr:=λ a b c h k=>by
  simp only [lt3,Bool.or_eq_true,Bool.and_eq_true,decide_eq_true_eq,beq_iff_eq] at h k ⊢
  omega
 ng:=λ a b c h=>by
  simp only [lt3,Bool.or_eq_true,Bool.and_eq_true,decide_eq_true_eq,beq_iff_eq] at h ⊢
  omega
section
variable {prog:Program} {w:World} {A:Around} {E:Value->Shared->Prop} {s:Shared}
theorem ya9 {x y:Value} {a b:T3} {Q:Bool->Shared->Prop} (hx:IsT3 s.heap x a) (hy:IsT3 s.heap y b) (h:Q (lt3 a b) s):wpAny (model prog w) A (keyLt' (tuples' true) x y) Q E s:=by
 obtain ⟨x,ox,t1,t2,t3,n,rfl,ex,_,dx⟩:=hx
 obtain ⟨y,oy,u1,u2,u3,m,rfl,ey,_,dy⟩:=hy
 obtain ⟨a1,a2,a3⟩:=a
 obtain ⟨b1,b2,b3⟩:=b
 refine kat_lt ex dx ey dy ?_
 refine kat_cons (wpAny_eqBool_int ?_)
 by_cases c1:a1=b1
 ·rw [show (a1 == b1)=true from beq_iff_eq.mpr c1]
  refine kat_yes (kat_cons (wpAny_eqBool_int ?_))
  by_cases c2:a2=b2
  ·rw [show (a2 == b2)=true from beq_iff_eq.mpr c2]
   refine kat_yes (kat_cons (wpAny_eqBool_int ?_))
   by_cases c3:a3=b3
   ·rw [show (a3 == b3)=true from beq_iff_eq.mpr c3]
    refine kat_yes (kat_nil ?_)
    have e:lt3 (a1,a2,a3) (b1,b2,b3)=false:=by subst c1 c2 c3; simp [lt3]
    rw [e] at h
    exact h
   ·rw [show (a3 == b3)=false from by simpa using c3]
    have e:lt3 (a1,a2,a3) (b1,b2,b3)=decide (a3 < b3):=by subst c1 c2; simp [lt3]
    rw [e] at h
    exact kat_no (kat_one _ _ (lt_int h))
  ·rw [show (a2 == b2)=false from by simpa using c2]
   have e:lt3 (a1,a2,a3) (b1,b2,b3)=decide (a2 < b2):=by subst c1; simp [lt3,c2]
   rw [e] at h
   exact kat_no (kat_one _ _ (lt_int h))
 ·rw [show (a1 == b1)=false from by simpa using c1]
  have e:lt3 (a1,a2,a3) (b1,b2,b3)=decide (a1 < b1):=by simp [lt3,c1]
  rw [e] at h
  exact kat_no (oneLt_int h)
noncomputable def T3s (h:Heap):List Value->List T3->Prop
 | [],[]=>True
 | v :: vs,t :: ts=>IsT3 h v t /\ T3s h vs ts
 | _,_=>False
theorem T3s.kept {h h':Heap} (k:∀ b o,h.get? b=some o->o.cls=.type "tuple" -> h'.get? b=some o):∀ {vs:List Value} {ts:List T3},T3s h vs ts->T3s h' vs ts
 | [],[],_=>trivial
 | [],_ :: _,i=>i.elim
 | _ :: _,[],i=>i.elim
 | v :: vs,t :: ts,i=>by
  obtain ⟨⟨a,o,t1,t2,t3,n,e1,e2,e3,e4⟩,r⟩:=i
  exact ⟨⟨a,o,t1,t2,t3,n,e1,k _ _ e2 e3,e3,e4⟩,T3s.kept k r⟩
theorem T3s.get {h:Heap}:∀ {vs:List Value} {ts:List T3},T3s h vs ts->∀ i,i < vs.length->IsT3 h (vs.getD i .none) (ts.getD i (0,0,0))
 | [],[],_,i,hi=>absurd hi (Nat.not_lt_zero _)
 | [],_ :: _,z,_,_=>z.elim
 | _ :: _,[],z,_,_=>z.elim
 | v :: vs,t :: ts,z,0,_=>z.1
 | v :: vs,t :: ts,z,i + 1,hi=>T3s.get z.2 i (Nat.lt_of_succ_lt_succ hi)
theorem T3s.firsts {h:Heap}:∀ {vs:List Value} {ts:List T3},T3s h vs ts->∃ fs,KatTups h vs fs /\ fs.length=vs.length /\ ∀ v ∈ fs,∃ i t,v=Value.int i t
 | [],[],_=>⟨[],trivial,rfl,λ _ hv=>nomatch hv⟩
 | [],_ :: _,z=>z.elim
 | _ :: _,[],z=>z.elim
 | v :: vs,t :: ts,z=>by
  obtain ⟨fs,f1,f2,f3⟩:=T3s.firsts z.2
  obtain ⟨a,o,t1,t2,t3,n,rfl,e2,e3,e4⟩:=z.1
  refine ⟨.int t.1 t1 :: fs,KatTups.cons e2 e3 e4 rfl f1,by rw [List.length_cons,List.length_cons,f2],λ x hx=>?_⟩
  rcases List.mem_cons.mp hx with rfl | hx
  ·exact ⟨_,_,rfl⟩
  ·exact f3 x hx
noncomputable abbrev ltI (ts:List T3):Nat->Nat->Bool:=λ i j=>lt3 (ts.getD i (0,0,0)) (ts.getD j (0,0,0))
noncomputable abbrev outV (vs:List Value) (p:Array Nat):List Value:=p.toList.map λ i=>vs.getD i Value.none
theorem yr3 (vs:List Value):outV vs (List.toArray (List.range vs.length))=vs:=by
 apply List.ext_getElem
 ·simp
 ·intro i h1 h2
  simp [List.getD_eq_getElem?_getD,List.getElem?_eq_getElem h2]
theorem zm9 {vs:Array Value} {n:Nat} {C:Prop} (h:(seqObj "list" vs n).cls=Value.type "tuple"):C:=by
 have h':Value.type "list" = Value.type "tuple" := h
 injection h' with e
 exact absurd e (by decide)
theorem xj5 {a:Addr} {vs:List Value} {ts:List T3} {n:Nat} {P:PySem.Fin->Shared->Prop} (ho:s.heap.get? a=some (seqObj "list" vs.toArray n)) (ht:T3s s.heap vs ts) (hz:vs.length<=sizeLine)
    (h:∀ (p:Array Nat) (h':Heap) (c:Nat),p.Perm (List.toArray (List.range vs.length))->Ms.Up (ltI ts) p vs.length->(∀ b o,b ≠ a->s.heap.get? b=some o->h'.get? b=some o) ->
     h'.get? a=some (seqObj "list" (outV vs p).toArray c)->P (.done (.ret .none)) { s with heap:=h' }) :
    wpAny (model prog w) A (Builtin.«list.sort» ⟨[.ref a],[]⟩) P E s:=by
 have ha:a < s.heap.objs.size:=Heap.lt_size ho
 obtain ⟨e1,ho1⟩:∃ e1,(s.heap.update a (Obj.mapSeq λ _=>(#[]:Array Value))).get? a=some (seqObj "list" #[] e1):=⟨_,get?_update_seq ho λ _=>#[]⟩
 have kp:∀ b o,b ≠ a->s.heap.get? b=some o->(((s.heap.update a (Obj.mapSeq λ _=>(#[]:Array Value))).push (seqObj "tuple" vs.toArray 0)).push (seqObj "list" #[] 0)).get? b=some o:=λ b o hb e =>
  Heap.get?_push_of_some _ (Heap.get?_push_of_some _ (by rw [Heap.get?_update_ne _ _ _ _ hb]; exact e))
 have ht3:=T3s.kept (h':=((s.heap.update a (Obj.mapSeq λ _=>(#[]:Array Value))).push (seqObj "tuple" vs.toArray 0)).push (seqObj "list" #[] 0)) (λ b o e ec=>kp b o (by intro z; subst z; rw [ho] at e; cases e; exact zm9 ec) e) ht
 have hoN:=Heap.get?_push_of_some (seqObj "list" #[] 0) (Heap.get?_push_of_some (seqObj "tuple" vs.toArray 0) ho1)
 generalize hN:((s.heap.update a (Obj.mapSeq λ _=>(#[]:Array Value))).push (seqObj "tuple" vs.toArray 0)).push (seqObj "list" #[] 0)=hp3 at kp ht3 hoN
 have fin:∀ (p:Array Nat),p.Perm (List.toArray (List.range vs.length))->Ms.Up (ltI ts) p vs.length->P (.done (.ret .none)) { s with heap:=hp3.update a (Obj.mapSeq λ _=>(outV vs p).toArray) }:=λ p hp hu=>by
  refine h p _ _ hp hu (λ b o hb e=>by rw [Heap.get?_update_ne _ _ _ _ hb]; exact kp b o hb e) (get?_update_seq hoN λ _=>(outV vs p).toArray)
 have szO:∀ p:Array Nat,p.Perm (List.toArray (List.range vs.length))->(outV vs p).toArray.size<=sizeLine + 1:=λ p hp=>by
  have:=hp.size_eq
  simp at this
  simp
  omega
 rw [list_sort_plain]
 refine wpAny_bind (listItems_at ho rfl (wpAny_bind (listUpdate_at ho rfl ?_ (by simpa using hz) (Nat.zero_le _))))
 refine wpAny_bind (seqEpoch_at ho1 rfl (wpAny_bind (wpAny_newTuple ?_ (by simpa using hz))))
 refine wpAny_bind (wpAny_newList (wpAny_holding ?_) (Nat.zero_le _))
 show wpAny (model prog w) A _ P E { s with heap:=((s.heap.update a (Obj.mapSeq λ _=>(#[]:Array Value))).push (seqObj "tuple" vs.toArray 0)).push (seqObj "list" #[] 0) }
 rw [hN]
 dsimp only
 by_cases c:vs.toArray.size < 2
 ·rw [if_pos c,if_pos c]
  refine wpAny_bind (wpAny_pure ?_)
  rw [StateT.run_pure]
  refine wpAny_bind (wpAny_pure ?_)
  have id1:(arrOf (SortSt.mk' general' (vs.toArray.zip vs.toArray) #[] 7 none)).map (·.2)=(outV vs (List.toArray (List.range vs.length))).toArray:=by
   rw [yr3]
   show (vs.toArray.zip vs.toArray).map (·.2)=vs.toArray
   apply Array.toList_inj.mp
   simp [List.map_snd_zip]
  dsimp only
  rw [id1]
  have pr:=Array.Perm.refl (List.toArray (List.range vs.length))
  refine wpAny_bind (seqEpoch_at hoN rfl (wpAny_bind (listUpdate_at hoN rfl ?_ (Nat.zero_le _) (szO _ pr))))
  simp only [bne_self_eq_false,Bool.false_eq_true,if_false]
  refine wpAny_pure (fin _ pr ?_)
  intro x y hxy hy
  have:x=y:=by simp at c; omega
  subst this
  exact Ms.le_rf (zl4 ts) _
 ·rw [if_neg c,if_neg c]
  have c2:2<=vs.length:=by simp at c; omega
  obtain ⟨fs,f1,f2,f3⟩:=ht3.firsts
  refine wpAny_bind (kat_kind f1 (by omega) (T:=.type "int") (λ v hv=>?_) (by decide) ?_)
  ·obtain ⟨i,t,rfl⟩:=f3 v hv
   exact Looks.of_pure rfl
  show wpAny _ _ _ _ _ _
  rw [show (Value.type "int" != Value.type "tuple")=true by decide]
  refine wpAny_bind (wpAny_mono (Ts.run_idx (vs:=vs) (lt:=ltI ts) (s:={ s with heap:=hp3 }) (κ:=tuples' true) (zl4 ts) c2 (λ i j v e1 e2 k=>?_) λ i j x y e1 e2 C hc=>?_) ?_ λ _ _ z=>z)
  ·have l1:=(List.getElem?_eq_some_iff.mp e1).1
   have l2:=(List.getElem?_eq_some_iff.mp e2).1
   have g1:=ht3.get i l1
   have g2:=ht3.get j l2
   rw [List.getD_eq_getElem?_getD,e1] at g1
   rw [List.getD_eq_getElem?_getD,e2] at g2
   have e:=g1.one g2
   show lt3 (ts.getD i _) _=lt3 (ts.getD j _) _ /\ lt3 _ (ts.getD i _)=lt3 _ (ts.getD j _)
   rw [e]
   exact ⟨rfl,rfl⟩
  ·have g1:=ht3.get i (List.getElem?_eq_some_iff.mp e1).1
   have g2:=ht3.get j (List.getElem?_eq_some_iff.mp e2).1
   rw [List.getD_eq_getElem?_getD,e1] at g1
   rw [List.getD_eq_getElem?_getD,e2] at g2
   exact ya9 g1 g2 hc
  ·rintro ⟨⟨⟩,st'⟩ s' ⟨rfl,p,pp,pu,hp1,hp2⟩
   dsimp only
   rw [kat_snds rfl hp1]
   refine wpAny_bind (seqEpoch_at hoN rfl (wpAny_bind (listUpdate_at hoN rfl ?_ (Nat.zero_le _) (szO _ pp))))
   rw [hp2]
   simp only [bne_self_eq_false,Bool.false_eq_true,if_false]
   exact wpAny_pure (fin _ pp pu)
end
end Pv
namespace Pv
open PySem PySem.Spec PySem.W PyProof.Rows L2
section
variable {prog:Program} {w:World} {A:Around} {E:Value->Shared->Prop} {s:Shared}
end
noncomputable def V3s (K:Fg) (H:Hp):List V->List T3->Prop
 | [],[]=>True
 | v :: vs,t :: ts=>(∃ a,v=.ref a /\ SqT K H a [.int t.1,.int t.2.1,.int t.2.2]) /\ V3s K H vs ts
 | _,_=>False
section
variable {X:Cx}
theorem wx2 {pins:List (Addr × Obj)} {σ:L2.St} {H:Hp} {s:Shared} (I:Inv X pins σ H s):∀ {vs:List V} {ts:List T3} {us:List Value},V3s X.K H vs ts->Vals vs us->T3s s.heap us ts
 | [],[],_,_,.nil=>trivial
 | [],_ :: _,_,z,_=>z.elim
 | _ :: _,[],_,z,_=>z.elim
 | v :: vs,t :: ts,_,z,.cons r rs=>by
  obtain ⟨⟨a,rfl,hq⟩,z⟩:=z
  refine ⟨?_,wx2 I z rs⟩
  cases r
  obtain ⟨its,rv,⟨o,p1,p2,n,p3⟩,_⟩:=I.tuple hq
  cases rv with
  | cons r1 rv =>
   cases rv with
   | cons r2 rv =>
    cases rv with
    | cons r3 rv =>
     cases rv
     obtain ⟨t1,rfl⟩:=r1
     obtain ⟨t2,rfl⟩:=r2
     obtain ⟨t3,rfl⟩:=r3
     exact ⟨a,o,t1,t2,t3,n,rfl,p1,p2,p3⟩
theorem xh2 {vs:List V} {us:List Value} (r:Vals vs us):∀ (l:List Nat),(∀ i ∈ l,i < vs.length)->Vals (l.map λ i=>vs.getD i .non) (l.map λ i=>us.getD i Value.none)
 | [],_=>.nil
 | i :: l,h=>by
  refine .cons ?_ (xh2 r l λ j hj=>h j (List.mem_cons_of_mem _ hj))
  have hi:=h i (List.mem_cons_self ..)
  obtain ⟨u,e,z⟩:=Vals.get r (i:=i) (x:=vs.getD i .non) (by rw [List.getD_eq_getElem?_getD,List.getElem?_eq_getElem hi]; rfl)
  dsimp only
  rw [show us.getD i Value.none=u by rw [List.getD_eq_getElem?_getD,e]; rfl]
  exact z
end
noncomputable def encT (t:T3):D:=.tup [.int t.1,.int t.2.1,.int t.2.2]
theorem xu3 {K:Fg} {H:Hp}:∀ {ts:List T3} {vs:List V},RelDs K H (ts.map encT) vs->V3s K H vs ts
 | [],_,.nil=>trivial
 | t :: ts,_,.cons r rs=>by
  refine ⟨?_,xu3 rs⟩
  cases r with
  | tup hq r2 =>
   cases r2 with
   | cons x r2 =>
    cases r2 with
    | cons y r2 =>
     cases r2 with
     | cons z r2 =>
      cases r2
      cases x
      cases y
      cases z
      exact ⟨_,rfl,hq⟩
theorem wv1 {K:Fg} {H:Hp} {ts:List T3} {vs:List V} (r:RelDs K H (ts.map encT) vs):∀ (l:List Nat),(∀ i ∈ l,i < vs.length)->RelDs K H ((l.map λ i=>ts.getD i (0,0,0)).map encT) (l.map λ i=>vs.getD i .non)
 | [],_=>.nil
 | i :: l,h=>by
  refine .cons ?_ (wv1 r l λ j hj=>h j (List.mem_cons_of_mem _ hj))
  have hi:=h i (List.mem_cons_self ..)
  have hl:=r.length
  rw [List.length_map] at hl
  obtain ⟨v,e,z⟩:=r.get (i:=i) (d:=encT (ts.getD i (0,0,0))) (by rw [List.getElem?_map,List.getD_eq_getElem?_getD,List.getElem?_eq_getElem (by omega)]; rfl)
  dsimp only
  rw [show vs.getD i .non=v by rw [List.getD_eq_getElem?_getD,e]; rfl]
  exact z
noncomputable def le3 (a b:T3):Prop:=lt3 b a=false
theorem xz3 {ts:List T3} {q:Array Nat} (h:q.Perm (List.toArray (List.range ts.length))):(q.toList.map λ i=>ts.getD i (0,0,0)).Perm ts:=by
 have h1:q.toList.Perm (List.range ts.length):=h.toList
 refine (h1.map _).trans (List.Perm.of_eq ?_)
 apply List.ext_getElem
 ·simp
 ·intro i h1 h2
  simp [List.getD_eq_getElem?_getD,List.getElem?_eq_getElem h2]
theorem wg6 {ts:List T3} {q:Array Nat} (h:q.Perm (List.toArray (List.range ts.length))) (u:Ms.Up (ltI ts) q ts.length):(q.toList.map λ i=>ts.getD i (0,0,0)).Pairwise le3:=by
 have sz:q.size=ts.length:=by have:=h.size_eq; simpa using this
 rw [List.pairwise_iff_getElem]
 intro i j hi hj hij
 simp only [List.length_map,Array.length_toList] at hi hj
 have z:=u i j (Nat.le_of_lt hij) (by omega)
 simp only [List.getElem_map,Array.getElem_toList]
 have e1:Ms.at' q i=q[i]:=by show q.getD i 0=_; simp [Array.getD,hi]
 have e2:Ms.at' q j=q[j]:=by show q.getD j 0=_; simp [Array.getD,hj]
 rw [e1,e2] at z
 exact z
section
variable {X:Cx}
end
end Pv
namespace Pv
open PySem PySem.Spec PySem.W PyProof.Rows L2
section
variable {prog:Program} {w:World} {A:Around} {E:Value->Shared->Prop} {s:Shared} {d it:Addr} {es:Array DictEntry} {ep i:Nat}
end
end Pv
namespace Pv
open PySem PySem.Spec PySem.W PyProof.Rows L2
section
variable {prog:Program} {w:World} {A:Around} {E:Value->Shared->Prop} {s:Shared} {d:Addr} {es:Array DictEntry} {ep:Nat}
end
section
variable {X:Cx}
theorem V3s.len {K:Fg} {H:Hp}:∀ {vs:List V} {ts:List T3},V3s K H vs ts->vs.length=ts.length
 | [],[],_=>rfl
 | [],_ :: _,z=>z.elim
 | _ :: _,[],z=>z.elim
 | _ :: vs,_ :: ts,z=>by rw [List.length_cons,List.length_cons,V3s.len z.2]
theorem yd3 {K:Fg} {H:Hp}:∀ {ts:List T3} {vs:List V},V3s K H vs ts->RelDs K H (ts.map encT) vs
 | [],[],_=>.nil
 | [],_ :: _,z=>z.elim
 | _ :: _,[],z=>z.elim
 | t :: ts,v :: vs,z=>by
  obtain ⟨⟨a,rfl,hq⟩,z⟩:=z
  exact .cons (.tup hq (.cons (.int _) (.cons (.int _) (.cons (.int _) .nil)))) (yd3 z)
end
end Pv
namespace Pv
open PySem PySem.Spec PySem.W PyProof.Rows L2
open PySem.AutoSeq1 (wpAny_loadPart')
section
variable {X:Cx} {pos pos':Pos}
end
end Pv
namespace Pv
open PySem PySem.Spec PyProof.Rows L2
open PySem.AutoSeq1 (wpAny_loadPart')
section
variable {prog:Program} {w:World} {A:Around} {R:Result->Shared->Prop} {I:Addr} {fp wr:List Addr} {n:Nat} {P:Nat->Value->Prop} {St:Nat->Heap->Prop}
end
section
variable {prog:Program} {w:World} {A:Around} {E:Value->Shared->Prop} {s:Shared}
end
end Pv
namespace Pv
open PySem PySem.Spec PyProof.Rows L2
section
variable {X:Cx}
end
end Pv
namespace Pv
open PySem
noncomputable abbrev Rise (xs:Array Nat):Prop:=xs.toList.Pairwise (· < ·)
theorem yg1 {xs:Array Nat} (h:Rise xs) {i j a b:Nat} (hi:xs[i]?=some a) (hj:xs[j]?=some b) (l:i < j):a < b:=by
 have h':=List.pairwise_iff_getElem.mp h
 rw [<- Array.getElem?_toList] at hi hj
 obtain ⟨hi1,hi2⟩:=List.getElem?_eq_some_iff.mp hi
 obtain ⟨hj1,hj2⟩:=List.getElem?_eq_some_iff.mp hj
 rw [<- hi2,<- hj2]
 exact h' i j hi1 hj1 l
theorem xk1 (xs:Array Nat) (j:Nat) (h:Rise xs):∀ (fuel lo hi:Nat),hi - lo<=fuel->lo<=hi->hi<=xs.size->(∀ i a,i < lo->xs[i]?=some a->a < j)->(∀ i a,hi<=i->xs[i]?=some a->j<=a) ->
    (∀ i a,xs[i]?=some a->(i < SetTable.below.go xs j fuel lo hi ↔ a < j)) /\ SetTable.below.go xs j fuel lo hi<=xs.size
 | 0,lo,hi,f,l1,l2,a1,a2=>by
  have e:lo=hi:=by omega
  subst e
  unfold SetTable.below.go
  refine ⟨λ i a q=>⟨λ c=>a1 i a c q,λ c=>?_⟩,l2⟩
  by_cases z:i < lo
  ·exact z
  ·have:=a2 i a (by omega) q; omega
 | fuel + 1,lo,hi,f,l1,l2,a1,a2=>by
  unfold SetTable.below.go
  split
  ·next c =>
   have m1:(lo + hi) / 2 < hi:=by omega
   have m2:lo<=(lo + hi) / 2:=by omega
   have hm:xs[(lo + hi) / 2]?=some (xs.getD ((lo + hi) / 2) j):=by
    have:(lo + hi) / 2 < xs.size:=by omega
    simp [Array.getD,this]
   dsimp only
   split
   ·next c2 =>
    refine xk1 xs j h fuel _ _ (by omega) (by omega) l2 (λ i a z q=>?_) a2
    by_cases y:i=(lo + hi) / 2
    ·subst y; rw [hm] at q; cases q; exact c2
    ·exact Nat.lt_trans (yg1 h q hm (by omega)) c2
   ·next c2 =>
    refine xk1 xs j h fuel _ _ (by omega) (by omega) (by omega) a1 (λ i a z q=>?_)
    by_cases y:i=(lo + hi) / 2
    ·subst y; rw [hm] at q; cases q; omega
    ·have:=yg1 h hm q (by omega); omega
  ·next c =>
   have e:lo=hi:=by omega
   subst e
   refine ⟨λ i a q=>⟨λ c=>a1 i a c q,λ c=>?_⟩,l2⟩
   by_cases z:i < lo
   ·exact z
   ·have:=a2 i a (by omega) q; omega
theorem zv0 {xs:Array Nat} (h:Rise xs) (j:Nat) {i a:Nat} (q:xs[i]?=some a):i < SetTable.below xs j ↔ a < j :=
 (xk1 xs j h xs.size 0 xs.size (by omega) (by omega) (Nat.le_refl _) (λ _ _ z=>absurd z (Nat.not_lt_zero _)) (λ i a z q=>by rw [Array.getElem?_eq_none z] at q; cases q)).1 i a q
theorem xf1 {xs:Array Nat} (h:Rise xs) (j:Nat):SetTable.below xs j<=xs.size :=
 (xk1 xs j h xs.size 0 xs.size (by omega) (by omega) (Nat.le_refl _) (λ _ _ z=>absurd z (Nat.not_lt_zero _)) (λ i a z q=>by rw [Array.getElem?_eq_none z] at q; cases q)).2
theorem yf1 {xs:Array Nat} (h:Rise xs) {i j:Nat} (q:xs[i]?=some j):SetTable.below xs j=i:=by
 have h1:=zv0 h j q
 have h2:=xf1 h j
 by_cases c:SetTable.below xs j < i
 ·have hi:=(Array.getElem?_eq_some_iff.mp q).1
  obtain ⟨a,ha⟩:∃ a,xs[SetTable.below xs j]?=some a:=⟨_,Array.getElem?_eq_getElem (by omega)⟩
  have h3:=zv0 h j ha
  have h4:=yg1 h ha q c
  omega
 ·omega
theorem xm2 {xs:Array Nat} {j:Nat} (h:j ∈ xs.toList):∃ i:Nat,xs[i]?=some j:=by
 obtain ⟨i,hi⟩:=List.mem_iff_getElem?.mp h
 exact ⟨i,by rw [<- Array.getElem?_toList]; exact hi⟩
theorem yy1 {xs:Array Nat} {i j:Nat} (h:xs[i]?=some j):j ∈ xs.toList:=List.mem_iff_getElem?.mpr ⟨i,by rw [Array.getElem?_toList]; exact h⟩
theorem xb1 {xs:Array Nat} (h:Rise xs) (j:Nat):SetTable.has xs j=true ↔ j ∈ xs.toList:=by
 unfold SetTable.has
 constructor
 ·intro z; exact yy1 (eq_of_beq z)
 ·intro z
  obtain ⟨i,hi⟩:=xm2 z
  rw [yf1 h hi,hi]
  exact beq_self_eq_true _
theorem xj2 {t:SetTable} (h:Rise t.place) {i j:Nat}:t.slot j=.live i ↔ t.place[i]?=some j:=by
 unfold SetTable.slot
 dsimp only
 constructor
 ·intro z
  split at z
  ·next c=>cases z; exact eq_of_beq c
  ·split at z <;> cases z
 ·intro z
  rw [yf1 h z,z]
  simp
theorem zu1 {t:SetTable} (h:Rise t.place) (hd:Rise t.dummies) {j:Nat} (dj:j ∈ t.dummies.toList->j ∉ t.place.toList):t.slot j=.dummy ↔ j ∈ t.dummies.toList:=by
 unfold SetTable.slot
 dsimp only
 constructor
 ·intro z
  split at z
  ·cases z
  ·split at z
   ·next c=>exact (xb1 hd j).mp c
   ·cases z
 ·intro z
  rw [if_neg,if_pos ((xb1 hd j).mpr z)]
  intro c
  exact dj z (yy1 (eq_of_beq c))
theorem yu1 {t:SetTable} (h:Rise t.place) (hd:Rise t.dummies) {j:Nat}:t.slot j=.empty ↔ j ∉ t.place.toList /\ j ∉ t.dummies.toList:=by
 unfold SetTable.slot
 dsimp only
 constructor
 ·intro z
  split at z
  ·cases z
  ·next c =>
   split at z
   ·cases z
   ·next c2 =>
    refine ⟨λ m=>c ?_,λ m=>c2 ((xb1 hd j).mpr m)⟩
    obtain ⟨i,hi⟩:=xm2 m
    rw [yf1 h hi,hi]
    exact beq_self_eq_true _
 ·rintro ⟨z1,z2⟩
  rw [if_neg (λ c=>z1 (yy1 (eq_of_beq c))),if_neg (λ c=>z2 ((xb1 hd j).mp c))]
noncomputable def mkT (mask:Nat):SetTable:={ SetTable.fresh 0 0 false with mask:=mask }
noncomputable def trS (mask:Nat) (h:Int):Nat->SetTable.Probe
 | 0=>(mkT mask).probeStart h
 | n + 1=>(mkT mask).advance (trS mask h n)
noncomputable abbrev tr (mask:Nat) (h:Int) (n:Nat):Nat:=(trS mask h n).j
theorem xr2 (t:SetTable) (p:SetTable.Probe) (d:Option Nat):t.advance { p with dummy:=d }={ t.advance p with dummy:=d }:=by
 unfold SetTable.advance
 dsimp only
 split <;> rfl
noncomputable def seg (mask i perturb:Nat):SetTable.Probe:={ j:=i,more:=SetTable.runEnd mask i - i,i:=i,perturb:=perturb,dummy:=none }
theorem run9 (mask i:Nat):SetTable.runEnd mask i - i<=9:=by unfold SetTable.runEnd; split <;> omega
theorem zq7 (mask i:Nat):i<=SetTable.runEnd mask i:=by unfold SetTable.runEnd; split <;> omega
theorem wq7 (mask i:Nat) (h:i<=mask):SetTable.runEnd mask i<=mask:=by unfold SetTable.runEnd; split <;> omega
theorem wa2 {mask:Nat} {h:Int} {n i p:Nat} (e:trS mask h n=seg mask i p):∀ k,k<=SetTable.runEnd mask i - i->trS mask h (n + k)={ seg mask i p with j:=i + k,more:=SetTable.runEnd mask i - i - k }
 | 0,_=>e
 | k + 1,hk=>by
  have ih:=wa2 e k (by omega)
  show (mkT mask).advance (trS mask h (n + k))=_
  rw [ih]
  unfold SetTable.advance
  dsimp only [seg]
  rw [if_pos (by omega)]
  congr 1
theorem zi1 {mask:Nat} {h:Int} {n i p:Nat} (e:trS mask h n=seg mask i p):trS mask h (n + (SetTable.runEnd mask i - i) + 1)=seg mask (SetTable.leap mask i p).1 (SetTable.leap mask i p).2:=by
 have ih:=wa2 e _ (Nat.le_refl _)
 show (mkT mask).advance (trS mask h (n + (SetTable.runEnd mask i - i)))=_
 rw [ih]
 unfold SetTable.advance
 dsimp only [seg]
 rw [if_neg (by omega)]
 rfl
noncomputable def lp (mask:Nat):Nat->Nat × Nat->Nat × Nat
 | 0,x=>x
 | k + 1,x=>lp mask k (SetTable.leap mask x.1 x.2)
theorem yt5 {mask:Nat} {h:Int}:∀ (K:Nat) {n i p:Nat},trS mask h n=seg mask i p->∃ m,n<=m /\ m<=n + 10 * K /\ trS mask h m=seg mask (lp mask K (i,p)).1 (lp mask K (i,p)).2
 | 0,n,i,p,e=>⟨n,Nat.le_refl _,Nat.le_refl _,e⟩
 | K + 1,n,i,p,e=>by
  obtain ⟨m,h1,h2,h3⟩:=yt5 K (zi1 e)
  have:=run9 mask i
  exact ⟨m,by omega,by omega,h3⟩
theorem xw5 (mask:Nat):∀ (a b:Nat) (x:Nat × Nat),lp mask (a + b) x=lp mask b (lp mask a x)
 | 0,b,x=>by rw [Nat.zero_add]; rfl
 | a + 1,b,x=>by rw [show a + 1 + b=(a + b) + 1 by omega]; exact xw5 mask a b _
theorem wv5 (mask:Nat):∀ (k:Nat) (x:Nat × Nat),x.2 < 32 ^ k->(lp mask k x).2=0
 | 0,x,h=>by simp at h; exact h
 | k + 1,x,h=>wv5 mask k _ (by show x.2 / 32 < 32 ^ k; rw [Nat.pow_succ] at h; omega)
noncomputable def f0 (mask i:Nat):Nat:=(i * 5 + 1) % (mask + 1)
noncomputable def fN (mask:Nat):Nat->Nat->Nat
 | 0,i=>i
 | k + 1,i=>fN mask k (f0 mask i)
theorem wl4 (mask:Nat):∀ (k i:Nat),lp mask k (i,0)=(fN mask k i,0)
 | 0,i=>rfl
 | k + 1,i=>by
  show lp mask k (SetTable.leap mask i 0)=_
  have:SetTable.leap mask i 0=(f0 mask i,0):=by unfold SetTable.leap f0; simp
  rw [this,wl4 mask k]
  rfl
theorem xo2 (mask:Nat):∀ (a b i:Nat),fN mask (a + b) i=fN mask b (fN mask a i)
 | 0,b,i=>by rw [Nat.zero_add]; rfl
 | a + 1,b,i=>by rw [show a + 1 + b=(a + b) + 1 by omega]; exact xo2 mask a b _
noncomputable def okM:List Nat:=[7,15,31,63,127,255,511,1023,2047,4095]
noncomputable def gs:Nat->Nat
 | 0=>0
 | r + 1=>5 * gs r + 1
theorem zo4:∀ r,5 ^ r=4 * gs r + 1
 | 0=>rfl
 | r + 1=>by rw [Nat.pow_succ,zo4 r]; show _=4 * (5 * gs r + 1) + 1; omega
theorem wo4:∀ a b,gs (a + b)=gs a * 5 ^ b + gs b
 | a,0=>by simp [gs]
 | a,b + 1=>by
  show 5 * gs (a + b) + 1=_
  rw [wo4 a b,Nat.pow_succ]
  show _=gs a * (5 ^ b * 5) + (5 * gs b + 1)
  rw [Nat.mul_add,<- Nat.mul_assoc,Nat.mul_comm 5 (gs a),Nat.mul_assoc (gs a) 5,Nat.mul_comm 5 (5 ^ b)]
  omega
theorem yo4:∀ k,∃ o,gs (2 ^ k)=2 ^ k * (2 * o + 1)
 | 0=>⟨0,rfl⟩
 | k + 1=>by
  obtain ⟨o,e⟩:=yo4 k
  refine ⟨o + (2 * o + 1) * gs (2 ^ k),?_⟩
  have h:gs (2 ^ (k + 1))=gs (2 ^ k) * (4 * gs (2 ^ k) + 2):=by
   rw [show 2 ^ (k + 1)=2 ^ k + 2 ^ k by rw [Nat.pow_succ]; omega,wo4,zo4]
   grind
  rw [h,Nat.pow_succ,e]
  generalize 2 ^ k=P
  grind
theorem wu6 {x e P:Nat} (hP:0 < P) (h:x % P=e % P):x % (P * 2)=e % (P * 2) \/ (x + P) % (P * 2)=e % (P * 2):=by
 rw [Nat.mod_mul,Nat.mod_mul,Nat.mod_mul,h,Nat.add_mod_right,h,Nat.add_div_right _ hP]
 rcases Nat.mod_two_eq_zero_or_one (x / P) with a | a <;> rcases Nat.mod_two_eq_zero_or_one (e / P) with b | b
 ·left; rw [a,b]
 ·right; rw [b,show (x / P + 1) % 2=1 by omega]
 ·right; rw [b,show (x / P + 1) % 2=0 by omega]
 ·left; rw [a,b]
theorem xh3:∀ k e,∃ r,r < 2 ^ k /\ gs r % 2 ^ k=e % 2 ^ k
 | 0,e=>⟨0,by decide,by simp [Nat.mod_one]⟩
 | k + 1,e=>by
  obtain ⟨r,hr,h⟩:=xh3 k e
  have hP:0 < 2 ^ k:=Nat.two_pow_pos k
  rw [Nat.pow_succ]
  rcases wu6 hP h with q | q
  ·exact ⟨r,by omega,q⟩
  ·refine ⟨2 ^ k + r,by omega,?_⟩
   obtain ⟨o,eo⟩:=yo4 k
   rw [wo4,zo4,eo,<- q]
   generalize 2 ^ k=P at *
   have:P * (2 * o + 1) * (4 * gs r + 1) + gs r=(gs r + P) + P * 2 * (o + (2 * o + 1) * (2 * gs r)):=by grind
   rw [this,Nat.add_mul_mod_self_left]
theorem wx6 (mask:Nat):∀ r,fN mask r 0=gs r % (mask + 1)
 | 0=>by show 0=0 % (mask + 1); rw [Nat.zero_mod]
 | r + 1=>by
  rw [xo2 mask r 1 0,wx6 mask r]
  show f0 mask (gs r % (mask + 1))=(5 * gs r + 1) % (mask + 1)
  unfold f0
  rw [Nat.add_mod (gs r % (mask + 1) * 5),Nat.mul_mod,Nat.mod_mod,<- Nat.mul_mod,<- Nat.add_mod,Nat.mul_comm]
theorem zt6:∀ m ∈ okM,∃ k,m + 1=2 ^ k:=by
 intro m hm
 simp only [okM,List.mem_cons,List.not_mem_nil,or_false] at hm
 rcases hm with rfl | rfl | rfl | rfl | rfl | rfl | rfl | rfl | rfl | rfl
 ·exact ⟨3,rfl⟩
 ·exact ⟨4,rfl⟩
 ·exact ⟨5,rfl⟩
 ·exact ⟨6,rfl⟩
 ·exact ⟨7,rfl⟩
 ·exact ⟨8,rfl⟩
 ·exact ⟨9,rfl⟩
 ·exact ⟨10,rfl⟩
 ·exact ⟨11,rfl⟩
 ·exact ⟨12,rfl⟩
theorem zt8 {mask:Nat} (hm:mask ∈ okM) {i e:Nat} (hi:i<=mask) (he:e<=mask):∃ r,r<=mask /\ fN mask r i=e:=by
 obtain ⟨k,hk⟩:=zt6 mask hm
 have h2:fN mask (mask + 1) 0=0:=by
  obtain ⟨o,eo⟩:=yo4 k
  rw [wx6,hk,eo,Nat.mul_mod_right]
 have g:∀ x,x<=mask->∃ r,r<=mask /\ fN mask r 0=x:=λ x hx=>by
  obtain ⟨r,hr,h⟩:=xh3 k x
  refine ⟨r,by omega,?_⟩
  rw [wx6,hk,h,Nat.mod_eq_of_lt (by omega)]
 obtain ⟨a,ha,ea⟩:=g i hi
 obtain ⟨b,hb,eb⟩:=g e he
 by_cases c:a<=b
 ·refine ⟨b - a,by omega,?_⟩
  have:=xo2 mask a (b - a) 0
  rw [show a + (b - a)=b by omega,eb,ea] at this
  exact this.symm
 ·refine ⟨mask + 1 - a + b,by omega,?_⟩
  have h3:=xo2 mask a (mask + 1 - a) 0
  rw [show a + (mask + 1 - a)=mask + 1 by omega,h2,ea] at h3
  rw [xo2,<- h3,eb]
theorem wo8 {mask:Nat}:∀ (k:Nat) (x:Nat × Nat),x.1<=mask->(lp mask k x).1<=mask
 | 0,x,h=>h
 | k + 1,x,_=>wo8 k _ (by show (x.1 * 5 + 1 + x.2 / 32) % (mask + 1)<=mask; have:=Nat.mod_lt (x.1 * 5 + 1 + x.2 / 32) (show mask + 1 > 0 by omega); omega)
theorem wf3 {mask:Nat} (hm:mask ∈ okM) {i p e:Nat} (hi:i<=mask) (hp:p < 2 ^ 64) (he:e<=mask):∃ K,K<=13 + mask /\ (lp mask K (i,p)).1=e:=by
 have h1:=wv5 mask 13 (i,p) (Nat.lt_of_lt_of_le hp (by decide))
 have h2:=wo8 13 (i,p) hi
 obtain ⟨r,hr,er⟩:=zt8 hm h2 he
 refine ⟨13 + r,by omega,?_⟩
 rw [xw5,show lp mask 13 (i,p)=((lp mask 13 (i,p)).1,0) from Prod.ext rfl h1,wl4,er]
theorem zu4 (h:Int):SetTable.bits h < 2 ^ 64:=by
 unfold SetTable.bits
 have:=Int.emod_lt_of_pos h (show (0:Int) < 2 ^ 64 by decide)
 have:=Int.emod_nonneg h (show (2 ^ 64:Int) ≠ 0 by decide)
 omega
theorem wi2 (mask:Nat) (h:Int):trS mask h 0=seg mask (SetTable.bits h % (mask + 1)) (SetTable.bits h):=rfl
theorem zg7 {mask:Nat} (h:Int) (n:Nat):∃ n0 i p k,n=n0 + k /\ trS mask h n0=seg mask i p /\ i<=mask /\ p < 2 ^ 64 /\ k<=SetTable.runEnd mask i - i:=by
 induction n with
 | zero=>exact ⟨0,_,_,0,rfl,wi2 mask h,by have:=Nat.mod_lt (SetTable.bits h) (show mask + 1 > 0 by omega); omega,zu4 h,Nat.zero_le _⟩
 | succ n ih =>
  obtain ⟨n0,i,p,k,e1,e2,e3,e4,e5⟩:=ih
  by_cases c:k + 1<=SetTable.runEnd mask i - i
  ·exact ⟨n0,i,p,k + 1,by omega,e2,e3,e4,c⟩
  ·refine ⟨n0 + (SetTable.runEnd mask i - i) + 1,_,_,0,by omega,zi1 e2,?_,?_,Nat.zero_le _⟩
   ·show (i * 5 + 1 + p / 32) % (mask + 1)<=mask; have:=Nat.mod_lt (i * 5 + 1 + p / 32) (show mask + 1 > 0 by omega); omega
   ·show p / 32 < 2 ^ 64; omega
theorem za6 {mask:Nat} (h:Int) (n:Nat):tr mask h n<=mask:=by
 obtain ⟨n0,i,p,k,e1,e2,e3,e4,e5⟩:=zg7 (mask:=mask) h n
 subst e1
 show (trS mask h (n0 + k)).j<=mask
 rw [wa2 e2 k e5]
 show i + k<=mask
 have:=wq7 mask i e3
 omega
theorem zy2 {mask:Nat} (hm:mask ∈ okM) (h:Int) (n:Nat) {e:Nat} (he:e<=mask):∃ m,n<=m /\ m < n + 10 * SetTable.turns mask /\ tr mask h m=e:=by
 obtain ⟨n0,i,p,k,e1,e2,e3,e4,e5⟩:=zg7 (mask:=mask) h n
 have e6:=zi1 e2
 have l1:(SetTable.leap mask i p).1<=mask:=by show (i * 5 + 1 + p / 32) % (mask + 1)<=mask; have:=Nat.mod_lt (i * 5 + 1 + p / 32) (show mask + 1 > 0 by omega); omega
 obtain ⟨K,hK,eK⟩:=wf3 hm l1 (show (SetTable.leap mask i p).2 < 2 ^ 64 by show p / 32 < 2 ^ 64; omega) he
 obtain ⟨m,h1,h2,h3⟩:=yt5 K e6
 have:=run9 mask i
 refine ⟨m,by omega,by unfold SetTable.turns; omega,?_⟩
 show (trS mask h m).j=e
 rw [h3]
 exact eK
end Pv
namespace Pv
open PySem
noncomputable def Occ (t:SetTable) (j:Nat):Prop:=j ∈ t.place.toList \/ j ∈ t.dummies.toList
structure TOk (t:SetTable) (hs:List Int):Prop where
 ris:Rise t.place
 rid:Rise t.dummies
 dj:∀ j,j ∈ t.dummies.toList->j ∉ t.place.toList
 inP:∀ j,j ∈ t.place.toList->j<=t.mask
 inD:∀ j,j ∈ t.dummies.toList->j<=t.mask
 msk:t.mask ∈ okM
 sz:t.place.size=hs.length
 reach:∀ (i j:Nat) (h:Int),t.place[i]?=some j->hs[i]?=some h->∃ m,tr t.mask h m=j /\ ∀ l,l < m->Occ t (tr t.mask h l)
theorem TOk.occ {t:SetTable} {hs:List Int} (k:TOk t hs) (j:Nat):Occ t j ↔ t.slot j ≠ .empty:=by
 rw [Ne,yu1 k.ris k.rid]
 unfold Occ
 constructor
 ·rintro (z | z) ⟨a,b⟩
  ·exact a z
  ·exact b z
 ·intro z
  by_cases c:j ∈ t.place.toList
  ·exact .inl c
  ·by_cases d:j ∈ t.dummies.toList
   ·exact .inr d
   ·exact absurd ⟨c,d⟩ z
theorem yu5:∀ (M:Nat) (L:List Nat),(∀ e,e < M->e ∈ L)->M<=L.length
 | 0,_,_=>Nat.zero_le _
 | M + 1,L,h=>by
  have h1:=h M (Nat.lt_succ_self _)
  have h2:=yu5 M (L.erase M) λ e he=>(List.mem_erase_of_ne (Nat.ne_of_lt he)).mpr (h e (Nat.lt_succ_of_lt he))
  rw [List.length_erase_of_mem h1] at h2
  have:=List.length_pos_of_mem h1
  omega
theorem TOk.hole {t:SetTable} {hs:List Int} (k:TOk t hs) (r:t.fill<=t.mask):∃ e,e<=t.mask /\ t.slot e=.empty:=by
 refine Classical.byContradiction λ c=>?_
 have:=yu5 (t.mask + 1) (t.place.toList ++ t.dummies.toList) λ e he=>by
  have h1:Occ t e:=(k.occ e).mpr λ z=>c ⟨e,by omega,z⟩
  exact List.mem_append.mpr h1
 rw [List.length_append] at this
 simp only [Array.length_toList] at this
 unfold SetTable.fill at r
 omega
noncomputable def Sk (t:SetTable) (hashAt:Nat->Int) (h:Int) (n m:Nat):Prop:=∀ l,n<=l->l < m->t.slot (tr t.mask h l) ≠ .empty /\ ∀ i,t.slot (tr t.mask h l)=.live i->hashAt i ≠ h
noncomputable def DumOk (t:SetTable) (h:Int) (d:Option Nat) (n:Nat):Prop:=∀ x,d=some x->∃ l,l < n /\ tr t.mask h l=x /\ t.slot x=.dummy
theorem DumOk.up {t:SetTable} {h:Int} {d:Option Nat} {n m:Nat} (k:DumOk t h d n) (l:n<=m):DumOk t h d m:=λ x e=>by
 obtain ⟨a,b,c⟩:=k x e
 exact ⟨a,by omega,c⟩
theorem Sk.cons {t:SetTable} {hashAt:Nat->Int} {h:Int} {n m:Nat} (a:t.slot (tr t.mask h n) ≠ .empty) (b:∀ i,t.slot (tr t.mask h n)=.live i->hashAt i ≠ h) (k:Sk t hashAt h (n + 1) m):Sk t hashAt h n m:=λ l h1 h2=>by
 by_cases c:l=n
 ·subst c; exact ⟨a,b⟩
 ·exact k l (by omega) h2
theorem zv2 (t:SetTable) (hashAt:Nat->Int) (h:Int):∀ (fuel n:Nat) (d:Option Nat),DumOk t h d n->(∃ m,n<=m /\ m < n + fuel /\ t.slot (tr t.mask h m)=.empty) ->
    (∃ m d',SetTable.probe.go t hashAt h fuel { trS t.mask h n with dummy:=d }=some (.empty (tr t.mask h m) d') /\ n<=m /\ t.slot (tr t.mask h m)=.empty /\ Sk t hashAt h n m /\ DumOk t h d' m) ∨
    (∃ m i d',SetTable.probe.go t hashAt h fuel { trS t.mask h n with dummy:=d }=some (.candidate (tr t.mask h m) i { trS t.mask h (m + 1) with dummy:=d' }) /\ n<=m /\ t.slot (tr t.mask h m)=.live i /\ hashAt i=h /\ Sk t hashAt h n m /\ DumOk t h d' m)
 | 0,n,d,k,c=>by obtain ⟨m,a,b,_⟩:=c; omega
 | fuel + 1,n,d,k,c=>by
  have nx:t.slot (tr t.mask h n) ≠ .empty->∃ m,n + 1<=m /\ m < n + 1 + fuel /\ t.slot (tr t.mask h m)=.empty:=λ z=>by
   obtain ⟨m,a,b,e⟩:=c
   refine ⟨m,?_,by omega,e⟩
   by_cases y:m=n
   ·subst y; exact absurd e z
   ·omega
  unfold SetTable.probe.go
  dsimp only
  cases hs:t.slot (tr t.mask h n) with
  | empty=>exact .inl ⟨n,d,rfl,Nat.le_refl _,hs,λ l a b=>by omega,k⟩
  | dummy =>
   dsimp only
   have e1:t.advance { trS t.mask h n with dummy:=some (tr t.mask h n) }={ trS t.mask h (n + 1) with dummy:=some (tr t.mask h n) }:=xr2 t (trS t.mask h n) _
   rw [e1]
   have k':DumOk t h (some (tr t.mask h n)) (n + 1):=λ x e=>by cases e; exact ⟨n,Nat.lt_succ_self _,rfl,hs⟩
   have e2:t.slot (tr t.mask h n) ≠ .empty:=by rw [hs]; intro z; cases z
   have e3:∀ i,t.slot (tr t.mask h n)=.live i->hashAt i ≠ h:=λ i z=>by rw [hs] at z; cases z
   rcases zv2 t hashAt h fuel (n + 1) _ k' (nx e2) with ⟨m,d',a1,a2,a3,a4,a5⟩ | ⟨m,i,d',a1,a2,a3,a4,a5,a6⟩
   ·exact .inl ⟨m,d',a1,by omega,a3,a4.cons e2 e3,a5⟩
   ·exact .inr ⟨m,i,d',a1,by omega,a3,a4,a5.cons e2 e3,a6⟩
  | live i =>
   dsimp only
   have e1:t.advance { trS t.mask h n with dummy:=d }={ trS t.mask h (n + 1) with dummy:=d }:=xr2 t (trS t.mask h n) _
   rw [e1]
   have e2:t.slot (tr t.mask h n) ≠ .empty:=by rw [hs]; intro z; cases z
   by_cases c2:hashAt i=h
   ·rw [if_pos (by simpa using c2)]
    exact .inr ⟨n,i,d,rfl,Nat.le_refl _,hs,c2,λ l a b=>by omega,k⟩
   ·rw [if_neg (by simpa using c2)]
    have e3:∀ i,t.slot (tr t.mask h n)=.live i->hashAt i ≠ h:=λ i' z=>by rw [hs] at z; cases z; exact c2
    rcases zv2 t hashAt h fuel (n + 1) _ (k.up (Nat.le_succ _)) (nx e2) with ⟨m,d',a1,a2,a3,a4,a5⟩ | ⟨m,i,d',a1,a2,a3,a4,a5,a6⟩
    ·exact .inl ⟨m,d',a1,by omega,a3,a4.cons e2 e3,a5⟩
    ·exact .inr ⟨m,i,d',a1,by omega,a3,a4,a5.cons e2 e3,a6⟩
theorem TOk.probe {t:SetTable} {hs:List Int} (k:TOk t hs) (r:t.fill<=t.mask) (hashAt:Nat->Int) (h:Int) (n:Nat) (d:Option Nat) (kd:DumOk t h d n) :
    (∃ m d',t.probe hashAt h { trS t.mask h n with dummy:=d }=some (.empty (tr t.mask h m) d') /\ n<=m /\ t.slot (tr t.mask h m)=.empty /\ Sk t hashAt h n m /\ DumOk t h d' m) ∨
    (∃ m i d',t.probe hashAt h { trS t.mask h n with dummy:=d }=some (.candidate (tr t.mask h m) i { trS t.mask h (m + 1) with dummy:=d' }) /\ n<=m /\ t.slot (tr t.mask h m)=.live i /\ hashAt i=h /\ Sk t hashAt h n m /\ DumOk t h d' m):=by
 obtain ⟨e,he,ee⟩:=k.hole r
 obtain ⟨m,h1,h2,h3⟩:=zy2 k.msk h n he
 exact zv2 t hashAt h _ n d kd ⟨m,h1,h2,by rw [h3]; exact ee⟩
theorem zw1 {α:Type} {xs:List α} {p:Nat} {x:α} {i:Nat} (hp:p<=xs.length) (h:i < p):(xs.take p ++ x :: xs.drop p)[i]?=xs[i]?:=by
 rw [List.getElem?_append_left (by rw [List.length_take]; omega),List.getElem?_take_of_lt h]
theorem xx1 {α:Type} {xs:List α} {p:Nat} {x:α} (hp:p<=xs.length):(xs.take p ++ x :: xs.drop p)[p]?=some x:=by
 rw [List.getElem?_append_right (by rw [List.length_take]; omega),List.length_take,show p - min p xs.length=0 by omega]
 rfl
theorem ww1 {α:Type} {xs:List α} {p:Nat} {x:α} {i:Nat} (hp:p<=xs.length) (h:p<=i):(xs.take p ++ x :: xs.drop p)[i + 1]?=xs[i]?:=by
 rw [List.getElem?_append_right (by rw [List.length_take]; omega),List.length_take,show i + 1 - min p xs.length=(i - p) + 1 by omega,List.getElem?_cons_succ,List.getElem?_drop]
 congr 1
 omega
noncomputable def insL {α:Type} (xs:List α) (p:Nat) (x:α):List α:=xs.take p ++ x :: xs.drop p
theorem zj1 {α:Type} (xs:List α) (p:Nat) (x y:α):y ∈ insL xs p x ↔ y=x \/ y ∈ xs:=by
 have e:xs=xs.take p ++ xs.drop p:=(List.take_append_drop p xs).symm
 unfold insL
 rw [List.mem_append,List.mem_cons]
 constructor
 ·rintro (z | z | z)
  ·exact .inr (List.mem_of_mem_take z)
  ·exact .inl z
  ·exact .inr (List.mem_of_mem_drop z)
 ·rintro (z | z)
  ·exact .inr (.inl z)
  ·rw [e] at z
   rcases List.mem_append.mp z with z | z
   ·exact .inl z
   ·exact .inr (.inr z)
theorem wt0 {α:Type} (xs:List α) (p:Nat) (x:α):(insL xs p x).length=xs.length + 1:=by
 unfold insL
 rw [List.length_append,List.length_cons,List.length_take,List.length_drop]
 omega
theorem zg3 {α β:Type} (f:α->β) (xs:List α) (p:Nat) (x:α):(insL xs p x).map f=insL (xs.map f) p (f x):=by
 unfold insL
 rw [List.map_append,List.map_cons,List.map_take,List.map_drop]
theorem xd5 {xs:Array Nat} (h:Rise xs) {j:Nat} (hn:j ∉ xs.toList):(insL xs.toList (SetTable.below xs j) j).Pairwise (· < ·):=by
 have b:∀ {i a:Nat},xs[i]?=some a->(i < SetTable.below xs j ↔ a < j):=λ q=>zv0 h j q
 have hb:=xf1 h j
 have e:xs.toList=xs.toList.take (SetTable.below xs j) ++ xs.toList.drop (SetTable.below xs j):=(List.take_append_drop _ _).symm
 have h':=h
 unfold Rise at h'
 rw [e] at h'
 obtain ⟨h1,h2,h3⟩:=List.pairwise_append.mp h'
 unfold insL
 refine List.pairwise_append.mpr ⟨h1,List.pairwise_cons.mpr ⟨λ x hx=>?_,h2⟩,λ x hx y hy=>?_⟩
 ·obtain ⟨i,hi⟩:=List.mem_iff_getElem?.mp hx
  rw [List.getElem?_drop,Array.getElem?_toList] at hi
  have:=b hi
  have ne:x ≠ j:=λ z=>hn (by subst z; exact yy1 hi)
  omega
 ·have hxl:x < j:=by
    obtain ⟨i,hi⟩:=List.mem_iff_getElem?.mp hx
    have hlt:i < SetTable.below xs j:=by
     have:=(List.getElem?_eq_some_iff.mp hi).1
     rw [List.length_take] at this
     omega
    rw [List.getElem?_take_of_lt hlt,Array.getElem?_toList] at hi
    exact (b hi).mp hlt
  rcases List.mem_cons.mp hy with rfl | hy
  ·exact hxl
  ·exact h3 x hx y hy
theorem zy6 {xs:Array Nat} (h:Rise xs) {p j:Nat} (hp:xs[p]?=some j) (x:Nat):x ∈ (SetTable.eraseAt xs p).toList ↔ x ∈ xs.toList /\ x ≠ j:=by
 have hpl:=(Array.getElem?_eq_some_iff.mp hp).1
 have e:(SetTable.eraseAt xs p).toList=xs.toList.take p ++ xs.toList.drop (p + 1):=by
  simp [SetTable.eraseAt,List.extract_eq_take_drop,List.take_of_length_le]
 rw [e,List.mem_append]
 constructor
 ·rintro (z | z)
  ·obtain ⟨i,hi⟩:=List.mem_iff_getElem?.mp z
   have hlt:i < p:=by
    have:=(List.getElem?_eq_some_iff.mp hi).1
    rw [List.length_take] at this
    omega
   rw [List.getElem?_take_of_lt hlt,Array.getElem?_toList] at hi
   exact ⟨yy1 hi,Nat.ne_of_lt (yg1 h hi hp hlt)⟩
  ·obtain ⟨i,hi⟩:=List.mem_iff_getElem?.mp z
   rw [List.getElem?_drop,Array.getElem?_toList] at hi
   exact ⟨yy1 hi,Nat.ne_of_gt (yg1 h hp hi (by omega))⟩
 ·rintro ⟨z,ne⟩
  obtain ⟨i,hi⟩:=xm2 z
  have hil:=(Array.getElem?_eq_some_iff.mp hi).1
  by_cases c:i < p
  ·exact .inl (List.mem_iff_getElem?.mpr ⟨i,by rw [List.getElem?_take_of_lt c,Array.getElem?_toList]; exact hi⟩)
  ·have:i ≠ p:=λ y=>by subst y; rw [hp] at hi; cases hi; exact ne rfl
   exact .inr (List.mem_iff_getElem?.mpr ⟨i - (p + 1),by rw [List.getElem?_drop,show p + 1 + (i - (p + 1))=i by omega,Array.getElem?_toList]; exact hi⟩)
theorem xe2 (xs:Array Nat) (p:Nat):(SetTable.eraseAt xs p).toList=xs.toList.take p ++ xs.toList.drop (p + 1):=by
 simp [SetTable.eraseAt,List.extract_eq_take_drop,List.take_of_length_le]
theorem yd5 {xs:Array Nat} (h:Rise xs) (p:Nat):Rise (SetTable.eraseAt xs p):=by
 unfold Rise
 rw [xe2]
 have e:xs.toList=xs.toList.take p ++ xs.toList.drop p:=(List.take_append_drop p xs.toList).symm
 refine List.Pairwise.sublist ?_ h
 conv=>rhs; rw [e]
 refine List.Sublist.append (List.Sublist.refl _) ?_
 rw [<- List.drop_drop]
 exact List.drop_sublist _ _
theorem ya1 {t:SetTable} (k:Rise t.dummies) (j x:Nat):x ∈ (t.put j).1.dummies.toList ↔ x ∈ t.dummies.toList /\ x ≠ j:=by
 show x ∈ (if SetTable.has t.dummies j then SetTable.eraseAt t.dummies (SetTable.below t.dummies j) else t.dummies).toList ↔ _
 by_cases c:SetTable.has t.dummies j=true
 ·rw [if_pos c]
  obtain ⟨i,hi⟩:=xm2 ((xb1 k j).mp c)
  rw [yf1 k hi]
  exact zy6 k hi x
 ·rw [if_neg c]
  exact ⟨λ z=>⟨z,λ y=>by subst y; exact c ((xb1 k x).mpr z)⟩,λ z=>z.1⟩
theorem yo0 (t:SetTable) (j:Nat):(t.put j).1.place.toList=insL t.place.toList (SetTable.below t.place j) j:=SetTable.toList_insertAt _ _ _
theorem TOk.put {t:SetTable} {hs:List Int} (k:TOk t hs) {x:Nat} {h:Int} (hx:x ∉ t.place.toList) (hr:∃ m,tr t.mask h m=x /\ ∀ l,l < m->Occ t (tr t.mask h l)) :
    TOk (t.put x).1 (insL hs (SetTable.below t.place x) h):=by
 have hb:=xf1 k.ris x
 have sz:=k.sz
 have oc:∀ j,Occ t j->Occ (t.put x).1 j:=λ j o=>by
  unfold Occ
  rw [yo0,zj1,ya1 k.rid]
  by_cases c:j=x
  ·exact .inl (.inl c)
  ·exact o.elim (λ z=>.inl (.inr z)) λ z=>.inr ⟨z,c⟩
 have hxm:x<=t.mask:=by obtain ⟨m,e,_⟩:=hr; rw [<- e]; exact za6 h m
 refine ⟨?_,?_,λ j a b=>?_,λ j a=>?_,λ j a=>?_,k.msk,?_,λ i j h' a b=>?_⟩
 ·unfold Rise; rw [yo0]; exact xd5 k.ris hx
 ·show Rise (if SetTable.has t.dummies x then SetTable.eraseAt t.dummies (SetTable.below t.dummies x) else t.dummies)
  split
  ·exact yd5 k.rid _
  ·exact k.rid
 ·rw [ya1 k.rid] at a
  rw [yo0,zj1] at b
  rcases b with rfl | b
  ·exact a.2 rfl
  ·exact k.dj j a.1 b
 ·rw [yo0,zj1] at a
  rcases a with rfl | a
  ·exact hxm
  ·exact k.inP j a
 ·rw [ya1 k.rid] at a
  exact k.inD j a.1
 ·rw [<- Array.length_toList,yo0,wt0,wt0,Array.length_toList,sz]
 ·have lp:SetTable.below t.place x<=t.place.toList.length:=by rw [Array.length_toList]; exact hb
  have lh:SetTable.below t.place x<=hs.length:=by rw [<- sz]; exact hb
  rw [<- Array.getElem?_toList,yo0] at a
  show ∃ m,tr t.mask h' m=j /\ ∀ l,l < m->Occ (t.put x).1 (tr t.mask h' l)
  unfold insL at a b
  by_cases c:i < SetTable.below t.place x
  ·rw [zw1 lp c,Array.getElem?_toList] at a
   rw [zw1 lh c] at b
   obtain ⟨m,e,o⟩:=k.reach i j h' a b
   exact ⟨m,e,λ l hl=>oc _ (o l hl)⟩
  ·by_cases c2:i=SetTable.below t.place x
   ·subst c2
    rw [xx1 lp] at a
    rw [xx1 lh] at b
    cases a
    cases b
    obtain ⟨m,e,o⟩:=hr
    exact ⟨m,e,λ l hl=>oc _ (o l hl)⟩
   ·obtain ⟨i',rfl⟩:∃ i',i=i' + 1:=⟨i - 1,by omega⟩
    rw [ww1 lp (by omega),Array.getElem?_toList] at a
    rw [ww1 lh (by omega)] at b
    obtain ⟨m,e,o⟩:=k.reach i' j h' a b
    exact ⟨m,e,λ l hl=>oc _ (o l hl)⟩
theorem ze5 {t:SetTable} {hs:List Int} (k:TOk t hs) {x:Nat}:(t.put x).1.fill<=t.fill + 1:=by
 unfold SetTable.fill
 have h1:(t.put x).1.place.size=t.place.size + 1:=by rw [<- Array.length_toList,yo0,wt0,Array.length_toList]
 have h2:(t.put x).1.dummies.size<=t.dummies.size:=by
  show (if SetTable.has t.dummies x then SetTable.eraseAt t.dummies (SetTable.below t.dummies x) else t.dummies).size<=_
  split
  ·rw [<- Array.length_toList,xe2,List.length_append,List.length_take,List.length_drop,Array.length_toList]; omega
  ·exact Nat.le_refl _
 omega
theorem wq3 {t:SetTable} {hs:List Int} (k:TOk t hs) {x:Nat} (hd:t.slot x=.dummy):(t.put x).1.fill<=t.fill:=by
 unfold SetTable.fill
 have h1:(t.put x).1.place.size=t.place.size + 1:=by rw [<- Array.length_toList,yo0,wt0,Array.length_toList]
 have m:=(zu1 k.ris k.rid (k.dj x)).mp hd
 obtain ⟨i,hi⟩:=xm2 m
 have hil:=(Array.getElem?_eq_some_iff.mp hi).1
 have h2:(t.put x).1.dummies.size + 1<=t.dummies.size:=by
  show (if SetTable.has t.dummies x then SetTable.eraseAt t.dummies (SetTable.below t.dummies x) else t.dummies).size + 1<=_
  rw [if_pos ((xb1 k.rid x).mpr m),yf1 k.rid hi,<- Array.length_toList,xe2,List.length_append,List.length_take,List.length_drop,Array.length_toList]
  omega
 omega
end Pv
namespace Pv
open PySem
theorem wn2 (mask:Nat) (h:Int) (owner:Array (Option Nat)):∀ (fuel n i p:Nat),trS mask h n=seg mask i p->(∃ K,K < fuel /\ owner.getD (lp mask K (i,p)).1 (some 0)=none) ->
    ∃ m,SetTable.layClean.free mask owner fuel i p=some (tr mask h m) /\ n<=m /\ owner.getD (tr mask h m) (some 0)=none /\ ∀ l,n<=l->l < m->owner.getD (tr mask h l) (some 0) ≠ none
 | 0,n,i,p,e,c=>by obtain ⟨K,a,_⟩:=c; omega
 | fuel + 1,n,i,p,e,c=>by
  have trk:∀ k,k<=SetTable.runEnd mask i - i->tr mask h (n + k)=i + k:=λ k hk=>by
   show (trS mask h (n + k)).j=_
   rw [wa2 e k hk]
  have rl:=zq7 mask i
  unfold SetTable.layClean.free
  cases hf:(List.range (SetTable.runEnd mask i + 1 - i)).find? (λ k=>(owner.getD (i + k) (some 0)).isNone) with
  | some k =>
   dsimp only
   obtain ⟨h1,h2,h3⟩:=List.find?_range_eq_some.mp hf
   have h2':k < SetTable.runEnd mask i + 1 - i:=List.mem_range.mp h2
   refine ⟨n + k,by rw [trk k (by omega)],by omega,by rw [trk k (by omega)]; simpa using h1,λ l a b=>?_⟩
   obtain ⟨l',rfl⟩:∃ l',l=n + l':=⟨l - n,by omega⟩
   rw [trk l' (by omega)]
   have:=h3 l' (by omega)
   intro z
   rw [z] at this
   simp at this
  | none =>
   dsimp only
   have h1:=List.find?_range_eq_none.mp hf
   have h1':∀ k,k<=SetTable.runEnd mask i - i->owner.getD (i + k) (some 0) ≠ none:=λ k hk z=>by
    have:=h1 k (by omega)
    rw [z] at this
    simp at this
   have c':∃ K,K < fuel /\ owner.getD (lp mask K (SetTable.leap mask i p)).1 (some 0)=none:=by
    obtain ⟨K,a,b⟩:=c
    cases K with
    | zero=>exact absurd b (h1' 0 (Nat.zero_le _))
    | succ K=>exact ⟨K,by omega,b⟩
   obtain ⟨m,a1,a2,a3,a4⟩:=wn2 mask h owner fuel _ _ _ (zi1 e) c'
   refine ⟨m,a1,by omega,a3,λ l b1 b2=>?_⟩
   by_cases z:l<=n + (SetTable.runEnd mask i - i)
   ·obtain ⟨l',rfl⟩:∃ l',l=n + l':=⟨l - n,by omega⟩
    rw [trk l' (by omega)]
    exact h1' l' (by omega)
   ·exact a4 l (by omega) b2
theorem yx5 {α β:Type} {f:α->Option β}:∀ {L:List α},(∀ j ∈ L,f j ≠ none)->(L.filterMap f).length=L.length
 | [],_=>rfl
 | j :: L,h=>by
  have h1:=h j (List.mem_cons_self ..)
  obtain ⟨b,hb⟩:∃ b,f j=some b:=by cases hq:f j with | none=>exact absurd hq h1 | some b=>exact ⟨b,rfl⟩
  rw [List.filterMap_cons_some hb,List.length_cons,List.length_cons,yx5 λ x hx=>h x (List.mem_cons_of_mem _ hx)]
theorem zd2 {α β:Type} {f g:α->Option β}:∀ {L:List α},(∀ j ∈ L,f j=g j)->L.filterMap f=L.filterMap g
 | [],_=>rfl
 | j :: L,h=>by
  rw [List.filterMap_cons,List.filterMap_cons,h j (List.mem_cons_self ..),zd2 λ x hx=>h x (List.mem_cons_of_mem _ hx)]
theorem xx5 {f g:Nat->Option Nat} {x k:Nat} (e1:f x=none) (e2:g x=some k) (e3:∀ y,y ≠ x->g y=f y):∀ {L:List Nat},L.Nodup->x ∈ L->(L.filterMap g).Perm (k :: L.filterMap f)
 | [],_,h=>by cases h
 | y :: L,nd,h=>by
  obtain ⟨n1,n2⟩:=List.nodup_cons.mp nd
  by_cases c:y=x
  ·subst c
   rw [List.filterMap_cons_some e2,List.filterMap_cons_none e1]
   refine List.Perm.cons _ (List.Perm.of_eq ?_)
   exact zd2 λ j hj=>e3 j λ z=>n1 (z ▸ hj)
  ·have ih:=xx5 e1 e2 e3 n2 (by rcases List.mem_cons.mp h with rfl | h; exact absurd rfl c; exact h)
   have e:=e3 y c
   cases hf:f y with
   | none=>rw [List.filterMap_cons_none (by rw [e,hf]),List.filterMap_cons_none hf]; exact ih
   | some b =>
    rw [List.filterMap_cons_some (by rw [e,hf]),List.filterMap_cons_some hf]
    exact (List.Perm.cons _ ih).trans (List.Perm.swap _ _ _)
structure OwnOk (mask:Nat) (hs:List Int) (owner:Array (Option Nat)):Prop where
 sz:owner.size=mask + 1
 perm:((List.range (mask + 1)).filterMap λ j=>owner.getD j none).Perm (List.range hs.length)
 reach:∀ j k,owner.getD j none=some k->∃ h,hs[k]?=some h /\ ∃ m,tr mask h m=j /\ ∀ l,l < m->owner.getD (tr mask h l) none ≠ none
theorem yd2 {owner:Array (Option Nat)} {j:Nat} (h:j < owner.size) (a b:Option Nat):owner.getD j a=owner.getD j b:=by simp [Array.getD,h]
theorem OwnOk.step {mask:Nat} (hm:mask ∈ okM) {hs:List Int} {owner:Array (Option Nat)} (k:OwnOk mask hs owner) (hl:hs.length<=mask) (h:Int) :
    ∃ x,SetTable.layClean.free mask owner (SetTable.turns mask) (SetTable.bits h % (mask + 1)) (SetTable.bits h)=some x /\ OwnOk mask (hs ++ [h]) (owner.setIfInBounds x (some hs.length)):=by
 have sz:=k.sz
 obtain ⟨e,he,ee⟩:∃ e,e<=mask /\ owner.getD e none=none:=by
  refine Classical.byContradiction λ c=>?_
  have h1:=yx5 (f:=λ j=>owner.getD j none) (L:=List.range (mask + 1)) λ j hj z=>c ⟨j,by have:=List.mem_range.mp hj; omega,z⟩
  rw [k.perm.length_eq,List.length_range,List.length_range] at h1
  omega
 have hi:SetTable.bits h % (mask + 1)<=mask:=by have:=Nat.mod_lt (SetTable.bits h) (show mask + 1 > 0 by omega); omega
 obtain ⟨K,hK,eK⟩:=wf3 hm hi (zu4 h) he
 obtain ⟨m,a1,a2,a3,a4⟩:=wn2 mask h owner (SetTable.turns mask) 0 _ _ (wi2 mask h) ⟨K,by unfold SetTable.turns; omega,by rw [eK,yd2 (by omega) _ none]; exact ee⟩
 have ml:∀ l,tr mask h l < owner.size:=λ l=>by have:=za6 (mask:=mask) h l; omega
 have a3':owner.getD (tr mask h m) none=none:=by rw [yd2 (ml m) _ (some 0)]; exact a3
 have gx:(owner.setIfInBounds (tr mask h m) (some hs.length)).getD (tr mask h m) none=some hs.length:=by
  have:=ml m
  simp [Array.getD,this]
 have gy:∀ y,y ≠ tr mask h m->(owner.setIfInBounds (tr mask h m) (some hs.length)).getD y none=owner.getD y none:=λ y hy=>by
  by_cases c:y < owner.size
  ·simp [Array.getD,c,Array.getElem_setIfInBounds,Ne.symm hy]
  ·simp [Array.getD,c]
 have mono:∀ y,owner.getD y none ≠ none->(owner.setIfInBounds (tr mask h m) (some hs.length)).getD y none ≠ none:=λ y hy=>by
  by_cases c:y=tr mask h m
  ·subst c; rw [gx]; intro z; cases z
  ·rw [gy y c]; exact hy
 refine ⟨tr mask h m,a1,by rw [Array.size_setIfInBounds]; exact sz,?_,λ j q e=>?_⟩
 ·refine (xx5 a3' gx gy List.nodup_range (List.mem_range.mpr (by have:=ml m; omega))).trans ?_
  rw [List.length_append,List.length_singleton]
  exact ((List.Perm.cons _ k.perm).trans (List.perm_append_singleton _ _).symm).trans (List.Perm.of_eq List.range_succ.symm)
 ·by_cases c:j=tr mask h m
  ·subst c
   rw [gx] at e
   cases e
   refine ⟨h,by simp,m,rfl,λ l hl=>mono _ ?_⟩
   have:=a4 l (Nat.zero_le _) hl
   rw [yd2 (ml l) _ none] at this
   exact this
  ·rw [gy j c] at e
   obtain ⟨h',b1,m',b2,b3⟩:=k.reach j q e
   refine ⟨h',?_,m',b2,λ l hl=>mono _ (b3 l hl)⟩
   rw [List.getElem?_append_left (List.getElem?_eq_some_iff.mp b1).1]
   exact b1
theorem yp4 {mask:Nat} (hm:mask ∈ okM):∀ (rest done:List Int) (owner:Array (Option Nat)),OwnOk mask done owner->done.length + rest.length<=mask + 1 ->
    ∃ owner',List.foldl (λ acc h=>do
     let (owner,k) <- acc
     let j <- SetTable.layClean.free mask owner (SetTable.turns mask) (SetTable.bits h % (mask + 1)) (SetTable.bits h)
     pure (owner.setIfInBounds j (some k),k + 1)) (some (owner,done.length)) rest=some (owner',done.length + rest.length) /\ OwnOk mask (done ++ rest) owner'
 | [],done,owner,k,_=>⟨owner,rfl,by rw [List.append_nil]; exact k⟩
 | h :: rest,done,owner,k,hl=>by
  rw [List.length_cons] at hl
  obtain ⟨x,e,k'⟩:=k.step hm (by omega) h
  obtain ⟨o',e',k''⟩:=yp4 hm rest (done ++ [h]) _ k' (by rw [List.length_append,List.length_singleton]; omega)
  refine ⟨o',?_,by rw [List.append_assoc] at k''; exact k''⟩
  rw [List.length_append,List.length_singleton] at e'
  rw [List.foldl_cons,List.length_cons,show done.length + (rest.length + 1)=done.length + 1 + rest.length by omega,<- e']
  simp only [bind,Option.bind,e,pure]
theorem own0 (mask:Nat):OwnOk mask [] (Array.replicate (mask + 1) none):=by
 have g:∀ j,(Array.replicate (mask + 1) (none:Option Nat)).getD j none=none:=λ j=>by
  by_cases c:j < mask + 1 <;> simp [Array.getD,c]
 refine ⟨by simp,?_,λ j k e=>by rw [g] at e; cases e⟩
 rw [List.filterMap_eq_nil_iff.mpr λ j _=>g j]
 exact List.Perm.refl _
theorem wu2 {mask:Nat} (hm:mask ∈ okM) (hs:Array Int) (hl:hs.size<=mask + 1):∃ owner,SetTable.layClean mask hs=some owner /\ OwnOk mask hs.toList owner:=by
 obtain ⟨o,e,k⟩:=yp4 hm hs.toList [] _ (own0 mask) (by simpa using hl)
 refine ⟨o,?_,by simpa using k⟩
 unfold SetTable.layClean
 rw [<- Array.foldl_toList]
 rw [List.length_nil] at e
 rw [e]
 rfl
theorem xw6 {mask:Nat} (hm:mask ∈ okM) (hs:Array Int) (hl:hs.size<=mask + 1) (fi mo:Nat) (le pl:Bool) :
    ∃ t' order,SetTable.laid mask fi mo le pl hs=some (t',order) /\ t'.mask=mask /\ t'.dummies = #[] /\ t'.led=le /\ t'.plain=pl /\ t'.finger=fi /\ t'.moves=mo /\ order.toList.Perm (List.range hs.size) /\ TOk t' (order.toList.map λ k=>hs.getD k 0):=by
 obtain ⟨o,e,k⟩:=wu2 hm hs hl
 unfold SetTable.laid
 rw [e]
 refine ⟨_,_,rfl,rfl,rfl,rfl,rfl,rfl,rfl,?_,?_⟩
 ·have:(((List.range (mask + 1)).filterMap λ j=>(o.getD j none).map (j,·)).map (·.2))=(List.range (mask + 1)).filterMap λ j=>o.getD j none:=by
    rw [List.map_filterMap]
    refine zd2 λ j _=>?_
    cases o.getD j none <;> rfl
  simp only [List.toList_toArray]
  rw [this]
  simpa using k.perm
 ·generalize hlv:((List.range (mask + 1)).filterMap λ j=>(o.getD j none).map (j,·))=live
  have lget:∀ x,x ∈ live->x.1<=mask /\ o.getD x.1 none=some x.2:=λ x hx=>by
   rw [<- hlv] at hx
   obtain ⟨j,hj,ej⟩:=List.mem_filterMap.mp hx
   cases hq:o.getD j none with
   | none=>rw [hq] at ej; cases ej
   | some b=>rw [hq] at ej; cases ej; exact ⟨by have:=List.mem_range.mp hj; show j<=mask; omega,hq⟩
  have lin:∀ j q,j<=mask->o.getD j none=some q->j ∈ live.map (·.1):=λ j q hj eq=>by
   rw [<- hlv]
   exact List.mem_map.mpr ⟨(j,q),List.mem_filterMap.mpr ⟨j,List.mem_range.mpr (by omega),by rw [eq]; rfl⟩,rfl⟩
  have pw:(live.map (·.1)).Pairwise (· < ·):=by
   rw [<- hlv,List.map_filterMap,List.pairwise_filterMap]
   refine List.pairwise_lt_range.imp_of_mem ?_
   ·intro a b ha hb hab x hx y hy
    cases hq:o.getD a none with
    | none=>rw [hq] at hx; cases hx
    | some u =>
     cases hq2:o.getD b none with
     | none=>rw [hq2] at hy; cases hy
     | some v=>rw [hq] at hx; rw [hq2] at hy; cases hx; cases hy; exact hab
  refine ⟨by simpa [Rise] using pw,List.Pairwise.nil,λ j z=>by simp at z,λ j z=>?_,λ j z=>by simp at z,hm,by simp,λ i j h a b=>?_⟩
  ·have z':j ∈ live.map (·.1):=by simpa using z
   obtain ⟨x,hx,rfl⟩:=List.mem_map.mp z'
   exact (lget x hx).1
  ·have a':(live.map (·.1))[i]?=some j:=by simpa using a
   have b':((live.map (·.2)).map λ k=>hs.getD k 0)[i]?=some h:=by simpa using b
   rw [List.getElem?_map] at a' b'
   rw [List.getElem?_map] at b'
   cases hx:live[i]? with
   | none=>rw [hx] at a'; cases a'
   | some x =>
    rw [hx] at a' b'
    have a2:x.1=j:=by simpa using a'
    have b2:hs.getD x.2 0=h:=by simpa using b'
    obtain ⟨g1,g2⟩:=lget x (List.mem_of_getElem? hx)
    obtain ⟨h',c1,m,c2,c3⟩:=k.reach _ _ g2
    have hh:h'=h:=by
     rw [<- b2]
     rw [Array.getElem?_toList] at c1
     obtain ⟨hl1,hl2⟩:=Array.getElem?_eq_some_iff.mp c1
     simp [Array.getD,hl1,hl2]
    subst hh
    refine ⟨m,by rw [c2,a2],λ l hl=>.inl ?_⟩
    have c4:=c3 l hl
    cases hq:o.getD (tr mask h' l) none with
    | none=>exact absurd hq c4
    | some q=>simpa using lin _ q (za6 h' l) hq
theorem zj2:∀ n,n < 512->SetTable.sizeAbove (n * 4) - 1 ∈ okM /\ n * 5 < (SetTable.sizeAbove (n * 4) - 1) * 3 /\ SetTable.sizeAbove (n * 4)<=2048:=by
 have:((List.range 512).all λ n=>decide (SetTable.sizeAbove (n * 4) - 1 ∈ okM /\ n * 5 < (SetTable.sizeAbove (n * 4) - 1) * 3 /\ SetTable.sizeAbove (n * 4)<=2048))=true:=by decide +kernel
 intro n hn
 exact of_decide_eq_true (List.all_eq_true.mp this n (List.mem_range.mpr hn))
end Pv
namespace Pv
open PySem PySem.Spec PySem.W PyProof.Rows L2
noncomputable def kI (t:T3):List Int:=[t.1,t.2.1,t.2.2]
theorem yw5 {a b:T3} (h:kI a=kI b):a=b:=by
 obtain ⟨a1,a2,a3⟩:=a
 obtain ⟨b1,b2,b3⟩:=b
 simp only [kI,List.cons.injEq,and_true] at h
 obtain ⟨rfl,rfl,rfl⟩:=h
 rfl
section
variable {prog:Program} {w:World} {A:Around} {E:Value->Shared->Prop} {s:Shared}
noncomputable abbrev TK (prog:Program) (w:World) (h:Heap) (t:T3) (a:Addr):Prop:=IsTupleKey (intKind prog w) h (kI t) a
noncomputable def hT (prog:Program) (w:World) (t:T3):Int:=tupleKeyHash (intKind prog w) (kI t)
theorem ww6 {k:T3} {b:Addr} {Q:Int->Shared->Prop} (hu:A.units < cLine) (i:TK prog w s.heap k b) (h:∀ tk,Q (hT prog w k) { s with toks:=tk }):wpAny (model prog w) A (pyHash (.ref b)) Q E s:=wpAny_pyHash_tuple hu i (h _)
theorem IsT3.key {h:Heap} {a:Addr} {t:T3} (i:IsT3 h (.ref a) t):TK prog w h t a:=by
 obtain ⟨a',o,t1,t2,t3,n,e1,e2,e3,e4⟩:=i
 cases e1
 exact ⟨o,_,n,e2,e3,e4,.cons (intKind_is ..) (.cons (intKind_is ..) (.cons (intKind_is ..) .nil))⟩
theorem TK.t3 {h:Heap} {a:Addr} {t:T3} (i:TK prog w h t a):IsT3 h (.ref a) t:=by
 obtain ⟨o,items,n,e1,e2,e3,e4⟩:=i
 obtain ⟨it⟩:=items
 dsimp only at e4
 have f:∀ {k:Int} {v:Value},(intKind prog w).is k v=true->∃ tk,v=.int k tk:=λ {k v} z=>by
  cases v <;> simp [intKind,Value.isInt] at z
  exact ⟨_,by rw [z]⟩
 unfold kI at e4
 cases e4 with
 | cons a1 e4 =>
  cases e4 with
  | cons a2 e4 =>
   cases e4 with
   | cons a3 e4 =>
    cases e4
    obtain ⟨t1,rfl⟩:=f a1
    obtain ⟨t2,rfl⟩:=f a2
    obtain ⟨t3,rfl⟩:=f a3
    exact ⟨a,o,t1,t2,t3,n,rfl,e1,e2,e3⟩
theorem TK.kept {h h':Heap} {a:Addr} {t:T3} (k:∀ o,h.get? a=some o->o.cls=.type "tuple" -> h'.get? a=some o) (i:TK prog w h t a):TK prog w h' t a:=by
 obtain ⟨o,items,n,e1,e2,e3⟩:=i
 exact ⟨o,items,n,k o e1 e2,e2,e3⟩
theorem wi1 {a:Addr} {Q:Bool->Shared->Prop} (h:Q true s):wpAny (model prog w) A (isSame (.ref a) (.ref a)) Q E s:=by
 unfold isSame
 dsimp only
 rw [if_pos (beq_self_eq_true a)]
 exact wpAny_pure h
theorem TK.items {h:Heap} {a:Addr} {t:T3} (i:TK prog w h t a):∃ o t1 t2 t3 n,h.get? a=some o /\ o.cls=.type "tuple" /\ o.data=.seq #[.int t.1 t1,.int t.2.1 t2,.int t.2.2 t3] n:=by
 obtain ⟨a',o,t1,t2,t3,n,e1,e2,e3,e4⟩:=i.t3
 cases e1
 exact ⟨o,t1,t2,t3,n,e2,e3,e4⟩
theorem zy5 {t:T3} {a:Addr} {Q:Bool->Shared->Prop} (i:TK prog w s.heap t a) (h:Q false s):wpAny (model prog w) A (ofAClassStatement 8 (.ref a)) Q E s:=by
 have ty:=i.typeIs
 obtain ⟨o,t1,t2,t3,n,e1,e2,e3⟩:=i.items
 unfold ofAClassStatement
 refine wpAny_bind (wpAny_typeOf ty ?_)
 dsimp only
 rw [if_pos (by decide)]
 refine wpAny_bind (wpAny_pure ?_)
 rw [if_neg (by decide)]
 refine wpAny_bind (wpAny_seqItems e1 e3 ?_)
 dsimp only
 refine wpAny_bind ?_
 rw [<- Array.forIn_toList]
 refine wpAny_forIn_list _ (λ rest r s'=>r.1=none /\ s'=s /\ ∀ v ∈ rest,carriedByValue v=true) _ ?_ ?_ _ _ ⟨rfl,rfl,by simp [carriedByValue]⟩
 ·rintro v rest r s' ⟨hr,rfl,hall⟩
  have hv:=hall v List.mem_cons_self
  have hq:ofAClassStatement 7 v=pure false:=by
   cases v with
   | ref a=>simp [carriedByValue] at hv
   | _=>first | rfl | simp [ofAClassStatement] | (unfold ofAClassStatement; rfl)
  rw [hq]
  refine wpAny_bind (wpAny_pure ?_)
  simp only [Bool.false_eq_true,if_false]
  exact wpAny_pure ⟨rfl,rfl,λ u hu'=>hall u (List.mem_cons_of_mem _ hu')⟩
 ·rintro ⟨r1,r2⟩ s' ⟨hr,rfl,_⟩
  simp only at hr
  subst hr
  exact wpAny_pure h
theorem yi6 {k:T3} {b:Addr} {stored:List Value} {Q:Bool->Shared->Prop} (i:TK prog w s.heap k b) (hs:∀ v ∈ stored,∃ t a,v=.ref a /\ TK prog w s.heap t a) (h:Q false s) :
    wpAny (model prog w) A (searchCouldBeSeen (.ref b) stored) Q E s:=by
 unfold searchCouldBeSeen
 refine wpAny_bind ?_
 refine wpAny_forIn_list _ (λ rest r s'=>r.1=none /\ s'=s /\ ∀ v ∈ rest,∃ t a,v=.ref a /\ TK prog w s.heap t a) _ ?_ ?_ _ _ ⟨rfl,rfl,hs⟩
 ·rintro v rest r s' ⟨hr,rfl,hall⟩
  obtain ⟨t,a,rfl,hv⟩:=hall v List.mem_cons_self
  have tl:=λ u hu'=>hall u (List.mem_cons_of_mem _ hu')
  dsimp only
  split
  ·exact wpAny_pure ⟨rfl,rfl,tl⟩
  ·refine wpAny_bind (wpAny_eqIsQuiet_tuple i ?_)
   simp only [Bool.not_true,Bool.false_eq_true,if_false]
   refine wpAny_bind (wpAny_eqIsQuiet_tuple hv ?_)
   simp only [Bool.not_true,Bool.false_eq_true,if_false]
   refine wpAny_bind (zy5 i ?_)
   simp only [Bool.false_eq_true,if_false]
   refine wpAny_bind (zy5 hv ?_)
   simp only [Bool.false_eq_true,if_false]
   exact wpAny_pure ⟨rfl,rfl,tl⟩
 ·rintro ⟨r1,r2⟩ s' ⟨hr,rfl,_⟩
  simp only at hr
  subst hr
  exact wpAny_pure h
theorem xo5 {t:T3} {a:Addr} {Q:Bool->Shared->Prop} (i:TK prog w s.heap t a) (h:Q true s):wpAny (model prog w) A (hashByValue 8 (.ref a)) Q E s:=by
 have ty:=i.typeIs
 obtain ⟨o,t1,t2,t3,n,e1,e2,e3⟩:=i.items
 unfold hashByValue
 refine wpAny_bind (wpAny_specialOf ty F.slot_tuple_hash.lookup ?_)
 show wpAny _ _ (seqItems? (.ref a) >>= _) _ _ s
 refine wpAny_bind (wpAny_seqItems e1 e3 ?_)
 refine wpAny_bind ?_
 show wpAny _ _ (forIn #[Value.int t.1 t1,.int t.2.1 t2,.int t.2.2 t3] _ _) _ _ s
 rw [<- Array.forIn_toList]
 refine wpAny_forIn_list _ (λ rest r s'=>r.1=none /\ s'=s /\ ∀ v ∈ rest,∃ i t,v=Value.int i t) _ ?_ ?_ _ _ ⟨rfl,rfl,by simp⟩
 ·rintro v rest r s' ⟨hr,rfl,hall⟩
  obtain ⟨j,tk,rfl⟩:=hall v List.mem_cons_self
  have hq:hashByValue 7 (.int j tk)=pure true:=by unfold hashByValue; rfl
  rw [hq]
  refine wpAny_bind (wpAny_pure ?_)
  simp only [Bool.not_true,Bool.false_eq_true,if_false]
  exact wpAny_pure ⟨rfl,rfl,λ u hu'=>hall u (List.mem_cons_of_mem _ hu')⟩
 ·rintro ⟨r1,r2⟩ s' ⟨hr,rfl,_⟩
  simp only at hr
  subst hr
  exact wpAny_pure h
end
end Pv
namespace Pv
open PySem PySem.Spec PySem.W PyProof.Rows L2
noncomputable def bT (prog:Program) (w:World):Bool:=(model prog w).w.params.followText "set-order"
noncomputable abbrev ent (hf:T3->Int) (x:T3 × Addr):Int × Value:=(hf x.1,.ref x.2)
structure SetIs (prog:Program) (w:World) (hf:T3->Int) (h:Heap) (a:Addr) (o:Obj) (es:Array (Int × Value)) (ep:Nat) (t:SetTable) (xs:List (T3 × Addr)):Prop where
 ho:h.get? a=some o
 ex:o.ExactSet
 hd:o.data=.set es ep t
 el:es.toList=xs.map (ent hf)
 ks:∀ x ∈ xs,TK prog w h x.1 x.2
 nd:(xs.map (·.1)).Nodup
 ok:TOk t (xs.map λ x=>hf x.1)
 rm:t.fill<=t.mask
 pl:t.plain=true
 le:t.led = !bT prog w
section
variable {prog:Program} {w:World} {A:Around} {E:Value->Shared->Prop} {s:Shared} {a:Addr} {o:Obj} {es:Array (Int × Value)} {ep:Nat} {t:SetTable} {xs:List (T3 × Addr)} {hf:T3->Int}
theorem SetIs.at {h:Heap} (S:SetIs prog w hf h a o es ep t xs) (i:Nat):es[i]?=(xs[i]?).map (ent hf):=by rw [<- Array.getElem?_toList,S.el,List.getElem?_map]
theorem SetIs.size {h:Heap} (S:SetIs prog w hf h a o es ep t xs):es.size=xs.length:=by rw [<- Array.length_toList,S.el,List.length_map]
theorem SetIs.fits {h:Heap} (S:SetIs prog w hf h a o es ep t xs):t.fits es.size=true:=by
 have h1:=S.ok.sz
 have h2:=S.size
 have h3:=S.rm
 rw [List.length_map] at h1
 simp [SetTable.fits,h1,h2,h3]
theorem SetIs.odd {h:Heap} (S:SetIs prog w hf h a o es ep t xs):t.gaveWay=false:=by
 have:∀ m ∈ okM,(m % 2 == 0)=false:=by decide
 exact this _ S.ok.msk
theorem zl2 {f:Nat->Int} {h:Int} {n:Nat} {d:Option Nat} {hs:List Int} {r:Option SetTable.Met} (k:TOk t hs) (rm:t.fill<=t.mask) (kd:DumOk t h d n) (e:t.probe f h { trS t.mask h n with dummy:=d }=r) :
    (∃ m d',r=some (.empty (tr t.mask h m) d') /\ n<=m /\ t.slot (tr t.mask h m)=.empty /\ Sk t f h n m /\ DumOk t h d' m) ∨
    (∃ m i d',r=some (.candidate (tr t.mask h m) i { trS t.mask h (m + 1) with dummy:=d' }) /\ n<=m /\ t.slot (tr t.mask h m)=.live i /\ f i=h /\ Sk t f h n m /\ DumOk t h d' m):=by
 subst e
 exact k.probe rm f h n d kd
noncomputable def Hist (hf:T3->Int) (t:SetTable) (xs:List (T3 × Addr)) (k:T3) (n:Nat):Prop:=∀ l,l < n->t.slot (tr t.mask (hf k) l) ≠ .empty /\ ∀ i,t.slot (tr t.mask (hf k) l)=.live i->∀ x,xs[i]?=some x->x.1 ≠ k
theorem yt2 {k:T3} {b:Addr} {adding:Bool} {Q:SetFound->Shared->Prop} (hu:A.units < cLine) (S:SetIs prog w hf s.heap a o es ep t xs) (hk:TK prog w s.heap k b)
    (found:∀ i b',xs[i]?=some (k,b')->Q (.there (if adding then none else some i)) s)
    (free:∀ sl wd,k ∉ xs.map (·.1)->sl ∉ t.place.toList->(∃ m,tr t.mask (hf k) m=sl /\ ∀ l,l < m->Occ t (tr t.mask (hf k) l))->(wd=true->t.slot sl=.dummy)->Q (.free sl wd) s)
    {fuel n:Nat} {d:Option Nat} {stand:Option SetTable.Probe} (kd:DumOk t (hf k) d n) (hist:Hist hf t xs k n) (st:stand.getD (t.probeStart (hf k))={ trS t.mask (hf k) n with dummy:=d })
    (ih:∀ (n':Nat) (d':Option Nat) (stand':Option SetTable.Probe),n < n'->DumOk t (hf k) d' n'->Hist hf t xs k n'->stand'.getD (t.probeStart (hf k))={ trS t.mask (hf k) n' with dummy:=d' } ->
     wpAny (model prog w) A (setSearchFrom a (.ref b) (hf k) adding fuel stand') Q E s) :
    wpAny (model prog w) A (setSearchFrom a (.ref b) (hf k) adding (fuel + 1) stand) Q E s:=by
 have hist':∀ {f:Nat->Int} {m:Nat},(∀ i,f i=((es[i]?).map (·.1)).getD 0)->Sk t f (hf k) n m->∀ l,l < m->t.slot (tr t.mask (hf k) l) ≠ .empty /\ ∀ i,t.slot (tr t.mask (hf k) l)=.live i->∀ x,xs[i]?=some x->x.1 ≠ k:=λ {f m} hf sk l hl=>by
  by_cases c:l < n
  ·exact hist l c
  ·obtain ⟨b1,b2⟩:=sk l (by omega) hl
   refine ⟨b1,λ i e x hx z=>b2 i e ?_⟩
   rw [hf,S.at,hx,Option.map_some,Option.map_some,Option.getD_some,<- z]
 unfold setSearchFrom
 refine wpAny_bind (wpAny_setState_of S.ho S.hd S.fits ?_)
 dsimp only
 rw [S.odd,st]
 simp only [Bool.false_eq_true,if_false]
 split
 ·next met heq =>
  rcases zl2 S.ok S.rm kd heq with ⟨m,d',e,a1,a2,a3,a4⟩ | ⟨m,i,d',e,a1,a2,a3,a4,a5⟩
  ·cases e
   have H:=hist' (λ _=>rfl) a3
   have nk:k ∉ xs.map (·.1):=λ z=>by
    obtain ⟨x,hx,ek⟩:=List.mem_map.mp z
    obtain ⟨i,hi⟩:=List.mem_iff_getElem?.mp hx
    have hlt:i < t.place.size:=by rw [S.ok.sz,List.length_map]; exact (List.getElem?_eq_some_iff.mp hi).1
    have hp:t.place[i]?=some t.place[i]:=Array.getElem?_eq_getElem hlt
    obtain ⟨m',q1,q2⟩:=S.ok.reach i _ (hf k) hp (by rw [List.getElem?_map,hi]; show some (hf x.1)=_; rw [ek])
    have hl:=(xj2 S.ok.ris).mpr hp
    rw [<- q1] at hl
    by_cases c:m' < m
    ·exact (H m' c).2 i hl x hi ek
    ·by_cases c2:m=m'
     ·subst c2; rw [a2] at hl; cases hl
     ·exact (S.ok.occ _).mp (q2 m (by omega)) a2
   have oc:∀ l,l < m->Occ t (tr t.mask (hf k) l):=λ l hl=>(S.ok.occ _).mpr (H l hl).1
   cases d' with
   | none=>exact wpAny_pure (free _ false nk ((yu1 S.ok.ris S.ok.rid).mp a2).1 ⟨m,rfl,oc⟩ (λ z=>by cases z))
   | some x =>
    obtain ⟨l,b1,b2,b3⟩:=a4 x rfl
    dsimp only
    rw [b3]
    simp only [bne_self_eq_false,Bool.and_false,Bool.false_eq_true,if_false]
    refine wpAny_pure (free x true nk (S.ok.dj x ((zu1 S.ok.ris S.ok.rid (S.ok.dj x)).mp b3)) ⟨l,b2,λ l' hl=>oc l' (by omega)⟩ (λ _=>b3))
  ·cases e
   have H:=hist' (λ _=>rfl) a4
   have hp:=(xj2 S.ok.ris).mp a2
   have hlt:i < xs.length:=by have:=(Array.getElem?_eq_some_iff.mp hp).1; rw [S.ok.sz,List.length_map] at this; exact this
   obtain ⟨x,hx⟩:∃ x,xs[i]?=some x:=⟨_,List.getElem?_eq_getElem hlt⟩
   have he:es[i]?=some (ent hf x):=by rw [S.at,hx]; rfl
   have hkx:=S.ks x (List.mem_of_getElem? hx)
   have sm:t.sameMemory t.moves t.mask=some true:=by unfold SetTable.sameMemory; simp
   have sto:∀ v ∈ List.map (λ x=>x.snd) (Array.filter (λ x=>x.fst == hf k) es).toList,∃ t a,v=.ref a /\ TK prog w s.heap t a:=λ v hv=>by
    obtain ⟨y,hy,rfl⟩:=List.mem_map.mp hv
    have hy':y ∈ es.toList:=by
     rw [Array.toList_filter] at hy
     exact (List.mem_filter.mp hy).1
    rw [S.el] at hy'
    obtain ⟨z,hz,rfl⟩:=List.mem_map.mp hy'
    exact ⟨z.1,z.2,rfl,S.ks z hz⟩
   dsimp only
   split
   ·refine wpAny_bind (yi6 hk sto ?_)
    simp only [Bool.false_eq_true,if_false]
    rw [he]
    dsimp only
    refine wpAny_bind (wpAny_holding (wpAny_eqBool_tuple hu hkx hk ?_))
    refine wpAny_bind (wpAny_setState_of S.ho S.hd S.fits ?_)
    dsimp only
    by_cases c:x.1=k
    ·rw [decide_eq_true (congrArg kI c)]
     have fd:=found i x.2 (by rw [hx,<- c])
     cases adding
     ·rw [sm]
      simp only [Bool.false_and,Bool.false_eq_true,if_false,if_true]
      rw [a2]
      dsimp only
      rw [he]
      dsimp only
      refine wpAny_bind (wi1 (wpAny_bind (wpAny_pure ?_)))
      exact wpAny_pure fd
     ·exact wpAny_pure fd
    ·rw [decide_eq_false (λ z=>c (yw5 z)),sm]
     simp only [Bool.and_false,Bool.false_eq_true,if_false,if_true]
     rw [a2]
     dsimp only
     rw [he]
     dsimp only
     refine wpAny_bind (wi1 (wpAny_bind (wpAny_pure ?_)))
     refine ih (m + 1) d' _ (by omega) (a5.up (Nat.le_succ _)) (λ l hl=>?_) rfl
     by_cases c2:l < m
     ·exact H l c2
     ·have:l=m:=by omega
      subst this
      refine ⟨(by rw [a2]; intro z; cases z),λ i' z y hy=>?_⟩
      rw [a2] at z
      cases z
      rw [hx] at hy
      cases hy
      exact c
   ·rw [he]
    dsimp only
    refine wpAny_bind (wpAny_holding (wpAny_eqBool_tuple hu hkx hk ?_))
    refine wpAny_bind (wpAny_setState_of S.ho S.hd S.fits ?_)
    dsimp only
    by_cases c:x.1=k
    ·rw [decide_eq_true (congrArg kI c)]
     have fd:=found i x.2 (by rw [hx,<- c])
     cases adding
     ·rw [sm]
      simp only [Bool.false_and,Bool.false_eq_true,if_false,if_true]
      rw [a2]
      dsimp only
      rw [he]
      dsimp only
      refine wpAny_bind (wi1 (wpAny_bind (wpAny_pure ?_)))
      exact wpAny_pure fd
     ·exact wpAny_pure fd
    ·rw [decide_eq_false (λ z=>c (yw5 z)),sm]
     simp only [Bool.and_false,Bool.false_eq_true,if_false,if_true]
     rw [a2]
     dsimp only
     rw [he]
     dsimp only
     refine wpAny_bind (wi1 (wpAny_bind (wpAny_pure ?_)))
     refine ih (m + 1) d' _ (by omega) (a5.up (Nat.le_succ _)) (λ l hl=>?_) rfl
     by_cases c2:l < m
     ·exact H l c2
     ·have:l=m:=by omega
      subst this
      refine ⟨(by rw [a2]; intro z; cases z),λ i' z y hy=>?_⟩
      rw [a2] at z
      cases z
      rw [hx] at hy
      cases hy
      exact c
 ·next hne =>
  rcases zl2 S.ok S.rm kd rfl with ⟨m,d',e,a1,a2,a3,a4⟩ | ⟨m,i,d',e,a1,a2,a3,a4,a5⟩
  ·exact (hne _ e).elim
  ·exact (hne _ e).elim
theorem za4 {k:T3} {b:Addr} {adding:Bool} {Q:SetFound->Shared->Prop} (hu:A.units < cLine) (S:SetIs prog w hf s.heap a o es ep t xs) (hk:TK prog w s.heap k b)
    (found:∀ i b',xs[i]?=some (k,b')->Q (.there (if adding then none else some i)) s)
    (free:∀ sl wd,k ∉ xs.map (·.1)->sl ∉ t.place.toList->(∃ m,tr t.mask (hf k) m=sl /\ ∀ l,l < m->Occ t (tr t.mask (hf k) l))->(wd=true->t.slot sl=.dummy)->Q (.free sl wd) s)
    (N:Nat) (hN:t.slot (tr t.mask (hf k) N)=.empty) (r:Nat):∀ (fuel n:Nat) (d:Option Nat) (stand:Option SetTable.Probe),N < n + r->r<=fuel->DumOk t (hf k) d n->Hist hf t xs k n ->
    stand.getD (t.probeStart (hf k))={ trS t.mask (hf k) n with dummy:=d } ->
    wpAny (model prog w) A (setSearchFrom a (.ref b) (hf k) adding fuel stand) Q E s:=by
 induction r with
 | zero =>
  intro fuel n d stand h1 h2 kd hist st
  exact absurd hN (hist N (by omega)).1
 | succ r ih =>
  intro fuel n d stand h1 h2 kd hist st
  cases fuel with
  | zero=>omega
  | succ fuel=>exact yt2 hu S hk found free kd hist st λ n' d' stand' a1 a2 a3 a4=>ih fuel n' d' stand' (by omega) (by omega) a2 a3 a4
end
end Pv
namespace Pv
open PySem PySem.Spec PySem.W PyProof.Rows L2
section
variable {prog:Program} {w:World} {A:Around} {E:Value->Shared->Prop} {s:Shared} {a:Addr} {o:Obj} {es:Array (Int × Value)} {ep:Nat} {t:SetTable} {xs:List (T3 × Addr)} {hf:T3->Int}
theorem zc2:∀ m ∈ okM,7<=m /\ m<=4095:=by decide
theorem wj2 {k:T3} {b:Addr} {adding:Bool} {Q:SetFound->Shared->Prop} (hu:A.units < cLine) (S:SetIs prog w hf s.heap a o es ep t xs) (hk:TK prog w s.heap k b)
    (found:∀ i b',xs[i]?=some (k,b')->Q (.there (if adding then none else some i)) s)
    (free:∀ sl wd,k ∉ xs.map (·.1)->sl ∉ t.place.toList->(∃ m,tr t.mask (hf k) m=sl /\ ∀ l,l < m->Occ t (tr t.mask (hf k) l))->(wd=true->t.slot sl=.dummy)->Q (.free sl wd) s) :
    wpAny (model prog w) A (setSearch a (.ref b) (hf k) adding) Q E s:=by
 obtain ⟨e,he,ee⟩:=S.ok.hole S.rm
 obtain ⟨N,_,h2,h3⟩:=zy2 S.ok.msk (hf k) 0 he
 have hm:=zc2 _ S.ok.msk
 unfold SetTable.turns at h2
 unfold setSearch
 refine za4 hu S hk found free N (by rw [h3]; exact ee) (N + 1) _ 0 none none (by omega) (by omega) (λ x z=>by cases z) (λ l hl=>absurd hl (Nat.not_lt_zero _)) ?_
 rfl
theorem zi6 (b:Addr) (es:Array (Int × Value)):byScan (.ref b) es=false:=by simp [byScan,Value.scannable]
theorem SetIs.store {h:Heap} (S:SetIs prog w hf h a o es ep t xs) {xs':List (T3 × Addr)} {es':Array (Int × Value)} {t':SetTable} (el:es'.toList=xs'.map (ent hf)) (ks:∀ x ∈ xs',TK prog w h x.1 x.2) (nd:(xs'.map (·.1)).Nodup)
    (ok:TOk t' (xs'.map λ x=>hf x.1)) (rm:t'.fill<=t'.mask) (pl:t'.plain=true) (le:t'.led = !bT prog w) :
    SetIs prog w hf (h.update a (Obj.putSet es' t')) a { o with data:=.set es' (ep + 1) t' } es' (ep + 1) t' xs':=by
 have hg:(h.update a (Obj.putSet es' t')).get? a=some { o with data:=.set es' (ep + 1) t' }:=by
  have:=Heap.get?_update_self (Obj.putSet es' t') S.ho (by rw [putSet_of es' t' S.hd]; rfl)
  rw [putSet_of es' t' S.hd] at this; exact this
 refine ⟨hg,S.ex,rfl,el,λ x hx=>(ks x hx).kept λ o' e1 e2=>?_,nd,ok,rm,pl,le⟩
 rw [Heap.get?_update_ne _ _ _ _ (λ z=>?_)]
 ·exact e1
 ·rw [z,S.ho] at e1
  cases e1
  rw [S.ex.1] at e2
  injection e2 with e
  exact absurd e (by decide)
theorem xx8 {α β:Type} {m m':Sem α} {g:α->Sem β} {Q:β->Shared->Prop} (e:m=m') (h:wpAny (model prog w) A (m' >>= g) Q E s):wpAny (model prog w) A (m >>= g) Q E s:=by rw [e]; exact h
theorem wv6 {mk fi mo:Nat} {le pl:Bool} (m1:mk ∈ okM) (hl:xs.length<=mk + 1) (eel:es.toList=xs.map (ent hf)) :
    ∃ t' order,∃ xs':List (T3 × Addr),SetTable.laid mk fi mo le pl (es.map (·.1))=some (t',order) /\ (order.filterMap λ k=>es[k]?).toList=xs'.map (ent hf) /\ xs'.Perm xs /\ (order.filterMap λ k=>es[k]?).size=es.size /\ TOk t' (xs'.map λ x=>hf x.1) /\ t'.mask=mk /\ t'.dummies = #[] /\ t'.led=le /\ t'.plain=pl:=by
 have sz:es.size=xs.length:=by rw [<- Array.length_toList,eel,List.length_map]
 have hat:∀ i:Nat,es[i]?=(xs[i]?).map (ent hf):=λ i=>by rw [<- Array.getElem?_toList,eel,List.getElem?_map]
 obtain ⟨t',order,e1,e2,e3,e4,e5,e6,e7,e8,e9⟩:=xw6 m1 (es.map (·.1)) (by rw [Array.size_map,sz]; omega) fi mo le pl
 rw [Array.size_map,sz] at e8
 have olt:∀ k ∈ order.toList,k < xs.length:=λ k hk=>List.mem_range.mp (e8.mem_iff.mp hk)
 obtain ⟨d⟩:Nonempty (T3 × Addr):=⟨((0,0,0),0)⟩
 have fm:∀ (l:List Nat),(∀ k ∈ l,k < xs.length)->l.filterMap (λ k=>es[k]?)=(l.map λ k=>xs.getD k d).map (ent hf):=λ l=>by
  induction l with
  | nil=>intro _; rfl
  | cons k l ih =>
   intro hl
   have hk:=hl k (List.mem_cons_self ..)
   rw [List.filterMap_cons_some (b:=ent hf (xs.getD k d)),ih λ j hj=>hl j (List.mem_cons_of_mem _ hj),List.map_cons,List.map_cons]
   rw [hat,List.getD_eq_getElem?_getD,List.getElem?_eq_getElem hk]
   simp only [Option.map_some,Option.getD_some]
 have fm':(order.filterMap λ k=>es[k]?).toList=(order.toList.map λ k=>xs.getD k d).map (ent hf):=by rw [Array.toList_filterMap]; exact fm _ olt
 have pm:(order.toList.map λ k=>xs.getD k d).Perm xs:=by
  refine (e8.map _).trans (List.Perm.of_eq ?_)
  apply List.ext_getElem
  ·simp
  ·intro i h1 h2
   simp [List.getD_eq_getElem?_getD,List.getElem?_eq_getElem h2]
 have hz:(order.filterMap λ k=>es[k]?).size=es.size:=by rw [<- Array.length_toList,fm',List.length_map,pm.length_eq,sz]
 have hok:TOk t' ((order.toList.map λ k=>xs.getD k d).map λ x=>hf x.1):=by
  have:(order.toList.map λ k=>(es.map (·.1)).getD k 0)=(order.toList.map λ k=>xs.getD k d).map λ x=>hf x.1:=by
   rw [List.map_map]
   refine List.map_congr_left λ k hk=>?_
   have hl:=olt k hk
   have hl2:k < es.size:=by omega
   have q:es[k]?=some (ent hf (xs.getD k d)):=by
    rw [hat,List.getD_eq_getElem?_getD,List.getElem?_eq_getElem hl]
    simp only [Option.map_some,Option.getD_some]
   rw [Array.getElem?_eq_getElem hl2] at q
   injection q with q
   simp only [Array.getD,Array.size_map,hl2,dite_true,Array.getInternal_eq_getElem,Array.getElem_map,q,Function.comp]
  rw [<- this]
  exact e9
 exact ⟨t',order,_,e1,fm',pm,hz,hok,e2,e3,e4,e5⟩
theorem wc4 {Q:Unit->Shared->Prop} {wd:Nat} (S:SetIs prog w hf s.heap a o es ep t xs) (m1:SetTable.sizeAbove wd - 1 ∈ okM) (m2:xs.length * 5 < (SetTable.sizeAbove wd - 1) * 3) (m3:SetTable.sizeAbove wd<=2048)
    (h:∀ h' o' es' ep' t' xs',Heap.SameBut a s.heap h'->SetIs prog w hf h' a o' es' ep' t' xs'->xs'.Perm xs->t'.fill * 5 < t'.mask * 3->t'.mask=SetTable.sizeAbove wd - 1->t'.dummies = #[]->Q () { s with heap:=h' }) :
    wpAny (model prog w) A (setRelay a wd) Q E s:=by
 have sz:=S.size
 have mm:=zc2 _ m1
 have sl:SetTable.sizeAbove wd<=sizeLine:=by rw [sizeLine_eq]; omega
 obtain ⟨t',order,xs',e1,fm',pm,hz,hok,e2,e3,e4,e5⟩:=wv6 (fi:=t.finger) (mo:=t.movedTo (SetTable.sizeAbove wd - 1)) (le:=t.led) (pl:=t.plain) m1 (by omega) S.el
 have el:t.relaid (es.map (·.1)) wd=some (t',order):=e1
 have rm:t'.fill * 5 < t'.mask * 3:=by
  have h1:=hok.sz
  rw [List.length_map,pm.length_eq] at h1
  unfold SetTable.fill
  rw [h1,e3,e2]
  simpa using m2
 have hm:=zc2 _ hok.msk
 unfold setRelay
 refine wpAny_bind (wpAny_setState_of S.ho S.hd S.fits ?_)
 dsimp only
 rw [if_neg (by omega),el]
 refine xx8 (m':=if ((order.filterMap λ k=>es[k]?).size != es.size)=true then (unsupported "internal:set-table-lost-an-element" >>= λ (_:PUnit)=>pure ((order.filterMap λ k=>es[k]?),t')) else pure ((order.filterMap λ k=>es[k]?),t')) rfl ?_
 rw [hz]
 simp only [bne_self_eq_false,Bool.false_eq_true,if_false]
 refine wpAny_bind (wpAny_pure (wpAny_storeSet_of S.ho S.hd ?_ (by rw [hz,sz,sizeLine_eq]; omega)))
 exact h _ _ _ _ _ _ (Heap.SameBut.update _ a _) (S.store fm' (λ x hx=>S.ks x (pm.mem_iff.mp hx)) ((pm.map _).nodup_iff.mpr S.nd) hok (show t'.fill<=t'.mask by omega) (by rw [e5]; exact S.pl) (by rw [e4]; exact S.le)) pm rm e2 e3
theorem zd5 {Q:Unit->Shared->Prop} {n:Nat} (S:SetIs prog w hf s.heap a o es ep t xs) (hn:xs.length < 512) (en:n=xs.length)
    (h:∀ h' o' es' ep' t' xs',Heap.SameBut a s.heap h'->SetIs prog w hf h' a o' es' ep' t' xs'->xs'.Perm xs->t'.fill * 5 < t'.mask * 3->Q () { s with heap:=h' }) :
    wpAny (model prog w) A (setRelay a (n * 4)) Q E s:=by
 subst en
 obtain ⟨m1,m2,m3⟩:=zj2 _ hn
 exact wc4 S m1 m2 m3 λ h' o' es' ep' t' xs' q1 q2 q3 q4 _ _=>h h' o' es' ep' t' xs' q1 q2 q3 q4
noncomputable def SetG (prog:Program) (w:World) (hf:T3->Int) (h:Heap) (a:Addr) (xs:List (T3 × Addr)):Prop:=∃ o es ep t,SetIs prog w hf h a o es ep t xs /\ t.fill * 5 < t.mask * 3
theorem yw8 {k:T3} {b:Addr} {Q:Bool->Shared->Prop} (hu:A.units < cLine) (S:SetG prog w hf s.heap a xs) (hk:TK prog w s.heap k b) (hn:xs.length + 1 < 512)
    (old:k ∈ xs.map (·.1)->Q false s)
    (new:k ∉ xs.map (·.1)->∀ h' xs',Heap.SameBut a s.heap h'->SetG prog w hf h' a xs'->xs'.Perm ((k,b) :: xs)->Q true { s with heap:=h' }):wpAny (model prog w) A (setAddHashed a (.ref b) (hf k)) Q E s:=by
 obtain ⟨o,es,ep,t,S,rm5⟩:=S
 have hm:=zc2 _ S.ok.msk
 have sz:=S.size
 unfold setAddHashed setAddHashedIn
 refine wpAny_holding (wpAny_bind (wpAny_setState_of S.ho S.hd S.fits ?_))
 dsimp only
 rw [zi6]
 simp only [Bool.false_eq_true,if_false]
 refine wpAny_bind (wj2 hu S hk (λ i b' e=>?_) λ sl wd nk ns rc wdd=>?_)
 ·exact wpAny_pure (old (List.mem_map.mpr ⟨_,List.mem_of_getElem? e,rfl⟩))
 ·dsimp only
  refine wpAny_bind (wpAny_setState_of S.ho S.hd S.fits ?_)
  dsimp only
  have ok':=S.ok.put ns rc
  have f1:=ze5 S.ok (x:=sl)
  have pl':(t.put sl).1.plain=true:=S.pl
  have mk':(t.put sl).1.mask=t.mask:=rfl
  rw [pl']
  simp only [if_true]
  refine wpAny_bind (xo5 hk ?_)
  simp only [if_true]
  have el':(SetTable.insertAt es (t.put sl).2 (hf k,Value.ref b)).toList=(insL xs (SetTable.below t.place sl) (k,b)).map (ent hf):=by
   rw [SetTable.toList_insertAt,zg3,S.el]
   rfl
  have pm:(insL xs (SetTable.below t.place sl) (k,b)).Perm ((k,b) :: xs):=by
   unfold insL
   exact List.perm_middle.trans (List.Perm.cons _ (List.Perm.of_eq (List.take_append_drop _ _)))
  have sz':(SetTable.insertAt es (t.put sl).2 (hf k,Value.ref b)).size=xs.length + 1:=by rw [<- Array.length_toList,el',List.length_map,wt0]
  have S':=S.store el' (λ x hx=>by
   rcases (zj1 _ _ _ _).mp hx with rfl | hx
   ·exact hk
   ·exact S.ks x hx) ((pm.map _).nodup_iff.mpr (List.nodup_cons.mpr ⟨nk,S.nd⟩)) (by rw [zg3]; exact ok') (by rw [mk']; omega) pl' S.le
  refine wpAny_bind (wpAny_storeSet_of S.ho S.hd ?_ (by rw [sz',sizeLine_eq]; omega))
  have sb:=Heap.SameBut.update s.heap a (Obj.putSet (SetTable.insertAt es (t.put sl).2 (hf k,Value.ref b)) (t.put sl).1)
  split
  ·next c =>
   have gr:SetTable.grown (es.size + 1)=(xs.length + 1) * 4:=by unfold SetTable.grown; rw [if_neg (by omega),sz]
   rw [gr]
   refine wpAny_bind (zd5 S' (by rw [wt0]; omega) (by rw [wt0]) λ h' o' es' ep' t' xs' q1 q2 q3 q4=>wpAny_pure ?_)
   exact new nk h' xs' (sb.trans q1) ⟨_,_,_,_,q2,q4⟩ (q3.trans pm)
  ·next c =>
   refine wpAny_pure (new nk _ _ sb ⟨_,_,_,_,S',?_⟩ pm)
   cases wd with
   | true =>
    have f2:=wq3 S.ok (wdd rfl)
    rw [mk']
    omega
   | false =>
    simp only [Bool.not_false,Bool.true_and,SetTable.tooFull,decide_eq_true_eq] at c
    omega
end
end Pv
namespace Pv
open PySem PySem.Spec PySem.W PyProof.Rows L2
noncomputable def Got (P:Nat->Value->Prop) (ks:Nat->T3) (i:Nat) (xs:List (T3 × Addr)):Prop:=(∀ x ∈ xs,∃ j,j < i /\ P j (.ref x.2) /\ ks j=x.1) /\ ∀ j,j < i->ks j ∈ xs.map (·.1)
noncomputable def KpH (h h':Heap):Prop:=∀ b o,h.get? b=some o->h'.get? b=some o
section
variable {prog:Program} {w:World} {A:Around} {E:Value->Shared->Prop} {R:Result->Shared->Prop} {s:Shared} {hf:T3->Int}
theorem SetG.nd {h:Heap} {a:Addr} {xs:List (T3 × Addr)} (S:SetG prog w hf h a xs):(xs.map (·.1)).Nodup:=by
 obtain ⟨o,es,ep,t,S,_⟩:=S
 exact S.nd
theorem SetG.keep {h h':Heap} {a:Addr} {xs:List (T3 × Addr)} (S:SetG prog w hf h a xs) (k1:∀ o,h.get? a=some o->h'.get? a=some o) (k2:∀ x ∈ xs,TK prog w h' x.1 x.2):SetG prog w hf h' a xs:=by
 obtain ⟨o,es,ep,t,S,q⟩:=S
 exact ⟨o,es,ep,t,⟨k1 o S.ho,S.ex,S.hd,S.el,k2,S.nd,S.ok,S.rm,S.pl,S.le⟩,q⟩
theorem Got.len {P:Nat->Value->Prop} {ks:Nat->T3} {i n:Nat} {xs:List (T3 × Addr)} (g:Got P ks i xs) (hi:i<=n) (nd:(xs.map (·.1)).Nodup) (B:∀ l:List T3,l.Nodup->(∀ x ∈ l,∃ j,j < n /\ ks j=x)->l.length < 511):xs.length < 511:=by
 have:=B _ nd λ x hx=>by
  obtain ⟨y,hy,rfl⟩:=List.mem_map.mp hx
  obtain ⟨j,h1,_,h2⟩:=g.1 y hy
  exact ⟨j,by omega,h2⟩
 rwa [List.length_map] at this
theorem xy2 {I S:Addr} {fp wr:List Addr} {n:Nat} {P:Nat->Value->Prop} {St:Nat->Heap->Prop} {h0:Heap} {ks:Nat->T3} (W:Walks prog w A.in1 I fp wr n P St) (hS:S ∉ fp) (ua:A.units + 1 < cLine)
    (low:∀ b ∈ S :: wr,h0.objs.size<=b) (hv:∀ i v,i < n->P i v->∃ b,v=.ref b /\ TK prog w h0 (ks i) b) (B:∀ l:List T3,l.Nodup->(∀ x ∈ l,∃ j,j < n /\ ks j=x)->l.length < 511) :
    ∀ (k i:Nat) (s:Shared) (xs:List (T3 × Addr)),n - i=k->i<=n->St i s.heap->KpH h0 s.heap->SetG prog w (hT prog w) s.heap S xs->Got P ks i xs ->
     (∀ h' tk xs',KpH h0 h'->SetG prog w (hT prog w) h' S xs'->Got P ks n xs'->R (.ok (.ret .none)) { s with heap:=h',toks:=tk }) ->
     codeAny (model prog w) A (.builtin "set.update.loop" ⟨[.ref S,.ref I],[]⟩) R s:=by
 have nw:S ∉ wr:=λ h=>hS (W.sub _ h)
 have nl:∀ {b:Addr} {o:Obj},h0.get? b=some o->b ∉ wr /\ b ≠ S:=λ {b o} e =>
  ⟨λ z=>absurd (Heap.lt_size e) (Nat.not_lt.mpr (low b (List.mem_cons_of_mem _ z))),λ z=>absurd (Heap.lt_size e) (Nat.not_lt.mpr (low b (by rw [z]; exact List.mem_cons_self ..)))⟩
 have tkk:∀ {i:Nat} {xs:List (T3 × Addr)} {h:Heap},i<=n->Got P ks i xs->KpH h0 h->∀ x ∈ xs,TK prog w h x.1 x.2:=λ {i xs h} hi g k x hx=>by
  obtain ⟨j,a1,a2,a3⟩:=g.1 x hx
  obtain ⟨b,e,t⟩:=hv j _ (by omega) a2
  cases e
  rw [<- a3]
  exact t.kept λ o e _=>k _ o e
 intro k
 induction k with
 | zero =>
  intro i s xs hk hi st kp sg g q
  have:i=n:=by omega
  subst this
  refine codeAny_builtin F.entry_set_update_loop ?_
  rw [Around.under_plainId F.plain_set_update_loop _]
  show wpAny _ A.in1 (pyNext (.ref I) >>= _) _ _ s
  refine wpAny_bind (W.done s _ _ st λ h1 tk km=>?_)
  show wpAny _ A.in1 (ret Value.none) _ _ _
  have kp1:KpH h0 h1:=λ b o e=>km b o (nl e).1 (kp b o e)
  exact wpAny_pure (q h1 tk xs kp1 (sg.keep (λ o e=>km S o nw e) (tkk hi g kp1)) g)
 | succ k ih =>
  intro i s xs hk hi st kp sg g q
  have lt:i < n:=by omega
  refine codeAny_builtin F.entry_set_update_loop ?_
  rw [Around.under_plainId F.plain_set_update_loop _]
  show wpAny _ A.in1 (pyNext (.ref I) >>= _) _ _ s
  refine wpAny_bind (W.item i s _ _ lt st λ v h1 tk hP st1 km=>?_)
  obtain ⟨b,rfl,tb0⟩:=hv i v lt hP
  have kp1:KpH h0 h1:=λ b o e=>km b o (nl e).1 (kp b o e)
  have tb:TK prog w h1 (ks i) b:=tb0.kept λ o e _=>kp1 b o e
  have sg1:SetG prog w (hT prog w) h1 S xs:=sg.keep (λ o e=>km S o nw e) (tkk hi g kp1)
  have ln:=g.len hi sg.nd B
  show wpAny _ A.in1 (holding [Value.ref b] (setAdd S (.ref b)) >>= _) _ _ _
  refine wpAny_bind (wpAny_holding ?_)
  unfold setAdd
  refine wpAny_holding ?_
  refine wpAny_bind (ww6 (s:={ s with heap:=h1,toks:=tk }) ua tb λ tk2=>?_)
  refine yw8 (hf:=hT prog w) (s:={ s with heap:=h1,toks:=tk2 }) ua sg1 tb (by omega) (λ old=>?_) (λ new h2 xs2 sb sg2 pm=>?_)
  ·refine wpAny_pure ⟨plainId_quiet F.plain_set_update_loop _,ih (i + 1) { s with heap:=h1,toks:=tk2 } xs (by omega) lt st1 kp1 sg1 ?_ λ h' tk' xs' a b c=>q h' tk' xs' a b c⟩
   refine ⟨λ x hx=>?_,λ j hj=>?_⟩
   ·obtain ⟨j,a1,a2⟩:=g.1 x hx
    exact ⟨j,by omega,a2⟩
   ·by_cases c:j < i
    ·exact g.2 j c
    ·have:j=i:=by omega
     rw [this]; exact old
  ·have kp2:KpH h0 h2:=λ b o e=>by rw [sb.2 b (nl e).2]; exact kp1 b o e
   refine wpAny_pure ⟨plainId_quiet F.plain_set_update_loop _,ih (i + 1) { s with heap:=h2,toks:=tk2 } xs2 (by omega) lt (W.frame _ h1 _ st1 λ b hb o e=>?_) kp2 sg2 ?_ λ h' tk' xs' a b c=>q h' tk' xs' a b c⟩
   ·rw [sb.2 b (λ z=>hS (by rw [<- z]; exact hb))]; exact e
   ·refine ⟨λ x hx=>?_,λ j hj=>?_⟩
    ·rcases List.mem_cons.mp (pm.mem_iff.mp hx) with rfl | hx
     ·exact ⟨i,by omega,hP,rfl⟩
     ·obtain ⟨j,a1,a2⟩:=g.1 x hx
      exact ⟨j,by omega,a2⟩
    ·refine (pm.map (·.1)).mem_iff.mpr ?_
     by_cases c:j < i
     ·exact List.mem_cons_of_mem _ (g.2 j c)
     ·have:j=i:=by omega
      rw [this]; exact List.mem_cons_self ..
noncomputable def nset (b:Bool):Obj:={ cls:=.type "set",dict:=none,data:=.set #[] 0 (.fresh 0 0 b) }
theorem ya4 (v:Value) {Q1:Value->Shared->Prop} (h:Q1 (.ref s.heap.objs.size) { s with heap:=s.heap.push (nset (!bT prog w)) }):codeAny (model prog w) A (.call (.builtin "set.__new__") ⟨[.type "set",v],[]⟩) (wants Q1 E) s:=by
 refine codeAny_of_tree ?_
 show wpAny _ A.in1 (do checkBuiltinCall "set.__new__" ⟨[.type "set",v],[]⟩; again (.builtin "set.__new__" ⟨[.type "set",v],[]⟩)) _ _ s
 refine wpAny_bind (wpAny_of_eq (F.newCall_set_1 v) (wpAny_pure ⟨plainId_quiet F.plain_set_new _,codeAny_builtin F.entry_set_new ?_⟩))
 rw [Around.under_plainId F.plain_set_new _]; unfold Builtin.«set.__new__» Builtin.Frozenset.newClass
 have ss:=sub_set_self
 obtain ⟨hp,g,d,tk,os⟩:=s
 dsimp only; wp_walk
 refine wpAny_askSetting (wpAny_pure ?_); dsimp only; simp only [newObj]
 refine wpAny_bind (wpAny_alloc (wpAny_pure ?_)); exact wpAny_pure h
theorem set0 {h:Heap} {a:Addr} (e:h.get? a=some (nset (!bT prog w))):SetG prog w hf h a []:=by
 refine ⟨_,#[],0,.fresh 0 0 (!bT prog w),⟨e,?_,rfl,rfl,(λ x hx=>nomatch hx),List.nodup_nil,?_,(show 0<=7 by decide),rfl,rfl⟩,(show 0 * 5 < 7 * 3 by decide)⟩
 ·exact ⟨rfl,rfl,rfl⟩
 ·refine ⟨by simp [Rise,SetTable.fresh],by simp [Rise,SetTable.fresh],(λ j h=>by simp [SetTable.fresh] at h),(λ j h=>by simp [SetTable.fresh] at h),(λ j h=>by simp [SetTable.fresh] at h),(show 7 ∈ okM by decide),rfl,(λ i j h z=>by simp [SetTable.fresh] at z)⟩
theorem ws1:isSubtype (.type "tuple") (.type "set")=pure false:=by rw [isSubtype_type]; kernel_rfl
theorem xh1:isSubtype (.type "tuple") (.type "frozenset")=pure false:=by rw [isSubtype_type]; kernel_rfl
theorem za2 {l:Addr} {items:Array Value} {ks:Nat->T3} {Q:Value->Shared->Prop} (hh:A.handled=none) (hu:A.units + 16 < cLine) (hl:s.heap.IsList l items)
    (hi:∀ i v,i < items.size->items[i]?=some v->∃ b,v=.ref b /\ TK prog w s.heap (ks i) b) (B:∀ l:List T3,l.Nodup->(∀ x ∈ l,∃ j,j < items.size /\ ks j=x)->l.length < 511)
    (h:∀ (h':Heap) (tk:Nat) xs,KpH s.heap h'->SetG prog w (hT prog w) h' s.heap.objs.size xs->Got (λ i v=>items[i]?=some v) ks items.size xs->Q (.ref s.heap.objs.size) { s with heap:=h',toks:=tk }) :
    wpAny (model prog w) A (call (.type "set") [.ref l]) Q E s:=by
 obtain ⟨c,tl,emro⟩:=F.called_set.mro
 have e0:=F.called_set.made
 have e1:=F.called_set.sub
 refine wpAny_call (codeAny_of_tree ?_); show wpAny _ _ (callAny (.type "set") _) _ _ _
 refine wpAny_pure ⟨Code.quiet_builtin _ (by decide +kernel),codeAny_builtin F.entry_type_call ?_⟩; rw [Around.under_plain (weight_type_call_type "set" [.ref l] []) rfl]
 have e2:=F.called_set.notType
 have e3:=F.called_set.canCreate
 have e4:=F.typeCall_set_1 (.ref l)
 repeat (any_goals (first | assumption | wp_step))
 refine codeAny_mono (ya4 (.ref l) (E:=E) (Q1:=λ obj s1=>obj=.ref s.heap.objs.size /\ s1={ s with heap:=s.heap.push (nset (!bT prog w)) }) ⟨rfl,rfl⟩) λ r s1 hr=>?_
 cases r with
 | error e=>exact hr
 | ok fl =>
  cases fl with
  | ret obj =>
   obtain ⟨rfl,rfl⟩:=hr
   have gS:(s.heap.push (nset (!bT prog w))).get? s.heap.objs.size=some (nset (!bT prog w)):=Heap.get?_push_size _ rfl
   have tS:Shared.TypeIs { s with heap:=s.heap.push (nset (!bT prog w)) } (.ref s.heap.objs.size) "set" := ⟨_,gS,rfl⟩
   have e5:=F.called_set.init.lookup
   have e6:=F.called_set.init.bind (.ref s.heap.objs.size)
   repeat (any_goals (first | assumption | wp_step))
   refine codeAny_mono (codeAny_call_builtin (R:=wants (λ r s2=>r=.none /\ ∃ h' tk xs,s2={ s with heap:=h',toks:=tk } /\ KpH s.heap h' /\ SetG prog w (hT prog w) h' s.heap.objs.size xs /\ Got (λ i v=>items[i]?=some v) ks items.size xs) E) F.called_set.init.plain F.entry_set_init (check_set_init_1 tS ?_)) λ r2 s2 hr2=>?_
   ·obtain ⟨ol,gl,cl,nl,dl⟩:=hl
    obtain ⟨ocls,odict,odata,oslots⟩:=ol
    simp only at cl dl
    subst cl; subst dl
    have gl':(s.heap.push (nset (!bT prog w))).get? l=some { cls:=.type "list",dict:=odict,data:=.seq items nl,slots:=oslots }:=Heap.get?_push_of_some _ gl
    have f1:=F.sub_list_set
    have f2:=F.sub_list_frozenset
    have f3:(Value.type "list" == Value.type "dict")=false:=by decide
    have il:(s.heap.push (nset (!bT prog w))).IsList l items:=⟨_,gl',rfl,nl,rfl⟩
    unfold Builtin.«set.__init__» noKeywords Builtin.Frozenset.updateFrom
    generalize hPI:pyIter=PI
    wp_walk
    subst hPI; refine wpAny_pyIter_list il ?_; refine wpAny_bind (wpAny_runValue ?_)
    have ls:l < s.heap.objs.size:=Heap.lt_size gl
    have z1:(s.heap.push (nset (!bT prog w))).objs.size=s.heap.objs.size + 1:=Heap.size_push ..
    have ni:l ≠ (s.heap.push (nset (!bT prog w))).objs.size:=by rw [z1]; exact Nat.ne_of_lt (Nat.lt_succ_of_lt ls)
    refine xy2 (A:=A.in1.in1) (h0:=s.heap) (ks:=ks) (Walks.list (show A.in1.in1.in1.handled=none by simp [hh]) _ l ni items) (S:=s.heap.objs.size) ?_ (show A.units + 1 + 1 + 1 < cLine by omega) ?_ (λ i v lt e=>hi i v lt e) B (items.size - 0) 0 _ [] (by omega) (Nat.zero_le _) ?_ ?_ ?_ ?_ ?_
    ·rw [z1]
     intro z
     rcases List.mem_cons.mp z with z | z
     ·exact Nat.ne_of_lt (Nat.lt_succ_self _) z
     ·rcases List.mem_cons.mp z with z | z
      ·exact Nat.ne_of_gt ls z
      ·cases z
    ·intro b hb
     rcases List.mem_cons.mp hb with rfl | hb
     ·exact Nat.le_refl _
     ·rcases List.mem_cons.mp hb with rfl | hb
      ·rw [z1]; exact Nat.le_succ _
      ·cases hb
    ·exact ⟨⟨_,Heap.get?_push_size _ rfl,rfl,rfl⟩,il.push _⟩
    ·exact λ b o e=>Heap.get?_push_of_some _ (Heap.get?_push_of_some _ e)
    ·exact set0 (Heap.get?_push_of_some _ gS)
    ·exact ⟨(λ x hx=>nomatch hx),λ j hj=>absurd hj (Nat.not_lt_zero _)⟩
    ·intro h' tk xs kp sg g
     show wpAny _ _ _ _ _ _
     refine wpAny_pure ?_
     show wpAny _ _ (ret Value.none) _ _ _
     exact wpAny_pure ⟨rfl,h',tk,xs,rfl,kp,sg,g⟩
   ·cases r2 with
    | error e=>exact hr2
    | ok fl2 =>
     cases fl2 with
     | ret r =>
      obtain ⟨rfl,h',tk,xs,rfl,kp,sg,g⟩:=hr2
      repeat (any_goals (first | assumption | wp_step))
      exact h _ _ _ kp sg g
     | _=>exact hr2.elim
  | _=>exact hr.elim
theorem xa4 {l:Addr} {items:Array Value} {ks:Nat->T3} {Q:Value->Shared->Prop} (hh:A.handled=none) (hu:A.units + 16 < cLine) (hl:s.heap.IsTuple l items)
    (hi:∀ i v,i < items.size->items[i]?=some v->∃ b,v=.ref b /\ TK prog w s.heap (ks i) b) (B:∀ l:List T3,l.Nodup->(∀ x ∈ l,∃ j,j < items.size /\ ks j=x)->l.length < 511)
    (h:∀ (h':Heap) (tk:Nat) xs,KpH s.heap h'->SetG prog w (hT prog w) h' s.heap.objs.size xs->Got (λ i v=>items[i]?=some v) ks items.size xs->Q (.ref s.heap.objs.size) { s with heap:=h',toks:=tk }) :
    wpAny (model prog w) A (call (.type "set") [.ref l]) Q E s:=by
 obtain ⟨c,tl,emro⟩:=F.called_set.mro
 have e0:=F.called_set.made
 have e1:=F.called_set.sub
 refine wpAny_call (codeAny_of_tree ?_); show wpAny _ _ (callAny (.type "set") _) _ _ _
 refine wpAny_pure ⟨Code.quiet_builtin _ (by decide +kernel),codeAny_builtin F.entry_type_call ?_⟩; rw [Around.under_plain (weight_type_call_type "set" [.ref l] []) rfl]
 have e2:=F.called_set.notType
 have e3:=F.called_set.canCreate
 have e4:=F.typeCall_set_1 (.ref l)
 repeat (any_goals (first | assumption | wp_step))
 refine codeAny_mono (ya4 (.ref l) (E:=E) (Q1:=λ obj s1=>obj=.ref s.heap.objs.size /\ s1={ s with heap:=s.heap.push (nset (!bT prog w)) }) ⟨rfl,rfl⟩) λ r s1 hr=>?_
 cases r with
 | error e=>exact hr
 | ok fl =>
  cases fl with
  | ret obj =>
   obtain ⟨rfl,rfl⟩:=hr
   have gS:(s.heap.push (nset (!bT prog w))).get? s.heap.objs.size=some (nset (!bT prog w)):=Heap.get?_push_size _ rfl
   have tS:Shared.TypeIs { s with heap:=s.heap.push (nset (!bT prog w)) } (.ref s.heap.objs.size) "set" := ⟨_,gS,rfl⟩
   have e5:=F.called_set.init.lookup
   have e6:=F.called_set.init.bind (.ref s.heap.objs.size)
   repeat (any_goals (first | assumption | wp_step))
   refine codeAny_mono (codeAny_call_builtin (R:=wants (λ r s2=>r=.none /\ ∃ h' tk xs,s2={ s with heap:=h',toks:=tk } /\ KpH s.heap h' /\ SetG prog w (hT prog w) h' s.heap.objs.size xs /\ Got (λ i v=>items[i]?=some v) ks items.size xs) E) F.called_set.init.plain F.entry_set_init (check_set_init_1 tS ?_)) λ r2 s2 hr2=>?_
   ·obtain ⟨ol,gl,cl,nl,dl⟩:=hl
    obtain ⟨ocls,odict,odata,oslots⟩:=ol
    simp only at cl dl
    subst cl; subst dl
    have gl':(s.heap.push (nset (!bT prog w))).get? l=some { cls:=.type "tuple",dict:=odict,data:=.seq items nl,slots:=oslots }:=Heap.get?_push_of_some _ gl
    have f1:=ws1
    have f2:=xh1
    have f3:(Value.type "tuple" == Value.type "dict")=false:=by decide
    have il:(s.heap.push (nset (!bT prog w))).IsTuple l items:=⟨_,gl',rfl,nl,rfl⟩
    unfold Builtin.«set.__init__» noKeywords Builtin.Frozenset.updateFrom
    generalize hPI:pyIter=PI
    wp_walk
    subst hPI; refine wpAny_pyIter_tuple il ?_; refine wpAny_bind (wpAny_runValue ?_)
    have ls:l < s.heap.objs.size:=Heap.lt_size gl
    have z1:(s.heap.push (nset (!bT prog w))).objs.size=s.heap.objs.size + 1:=Heap.size_push ..
    have ni:l ≠ (s.heap.push (nset (!bT prog w))).objs.size:=by rw [z1]; exact Nat.ne_of_lt (Nat.lt_succ_of_lt ls)
    refine xy2 (A:=A.in1.in1) (h0:=s.heap) (ks:=ks) (Walks.tuple (show A.in1.in1.in1.handled=none by simp [hh]) _ l ni items) (S:=s.heap.objs.size) ?_ (show A.units + 1 + 1 + 1 < cLine by omega) ?_ (λ i v lt e=>hi i v lt e) B (items.size - 0) 0 _ [] (by omega) (Nat.zero_le _) ?_ ?_ ?_ ?_ ?_
    ·rw [z1]
     intro z
     rcases List.mem_cons.mp z with z | z
     ·exact Nat.ne_of_lt (Nat.lt_succ_self _) z
     ·rcases List.mem_cons.mp z with z | z
      ·exact Nat.ne_of_gt ls z
      ·cases z
    ·intro b hb
     rcases List.mem_cons.mp hb with rfl | hb
     ·exact Nat.le_refl _
     ·rcases List.mem_cons.mp hb with rfl | hb
      ·rw [z1]; exact Nat.le_succ _
      ·cases hb
    ·exact ⟨⟨_,Heap.get?_push_size _ rfl,rfl,rfl⟩,il.push _⟩
    ·exact λ b o e=>Heap.get?_push_of_some _ (Heap.get?_push_of_some _ e)
    ·exact set0 (Heap.get?_push_of_some _ gS)
    ·exact ⟨(λ x hx=>nomatch hx),λ j hj=>absurd hj (Nat.not_lt_zero _)⟩
    ·intro h' tk xs kp sg g
     show wpAny _ _ _ _ _ _
     refine wpAny_pure ?_
     show wpAny _ _ (ret Value.none) _ _ _
     exact wpAny_pure ⟨rfl,h',tk,xs,rfl,kp,sg,g⟩
   ·cases r2 with
    | error e=>exact hr2
    | ok fl2 =>
     cases fl2 with
     | ret r =>
      obtain ⟨rfl,h',tk,xs,rfl,kp,sg,g⟩:=hr2
      repeat (any_goals (first | assumption | wp_step))
      exact h _ _ _ kp sg g
     | _=>exact hr2.elim
  | _=>exact hr.elim
end
end Pv
namespace Pv
open PySem PySem.Spec PySem.W PyProof.Rows L2
theorem wf5 {α β:Type} {f:α->β} {l m:List β} (p:l.Perm m):∀ xs:List α,m=xs.map f->∃ ys:List α,ys.Perm xs /\ l=ys.map f:=by
 induction p with
 | nil=>intro xs e; cases xs with
  | nil=>exact ⟨[],.nil,rfl⟩
  | cons _ _=>cases e
 | cons a _ ih =>
  intro xs e
  cases xs with
  | nil=>cases e
  | cons x xs =>
   rw [List.map_cons] at e
   injection e with e1 e2
   obtain ⟨ys,p,q⟩:=ih xs e2
   exact ⟨x :: ys,p.cons x,by rw [List.map_cons,e1,q]⟩
 | swap a b l =>
  intro xs e
  match xs,e with
  | x :: y :: xs,e =>
   simp only [List.map_cons,List.cons.injEq] at e
   obtain ⟨e1,e2,e3⟩:=e
   exact ⟨y :: x :: xs,.swap x y xs,by rw [List.map_cons,List.map_cons,e1,e2,e3]⟩
 | trans _ _ i1 i2 =>
  intro xs e
  obtain ⟨ys,p,q⟩:=i2 xs e
  obtain ⟨zs,p',q'⟩:=i1 ys q
  exact ⟨zs,p'.trans p,q'⟩
theorem xi3 {α:Type}:∀ {l:List α} {i:Nat} (h:i < l.length),(l[i] :: l.eraseIdx i).Perm l
 | x :: l,0,_=>List.Perm.refl _
 | x :: l,i + 1,h=>(List.Perm.swap _ _ _).trans ((xi3 (l:=l) (i:=i) (by simpa using h)).cons x)
theorem wg4 {α:Type} (next:Nat->Nat):∀ (fuel k:Nat) (left:List α) (out:Array α),left.length<=fuel->(pickOrder.go next fuel k left out).toList.Perm (out.toList ++ left)
 | 0,k,left,out,h=>by
  have:left=[]:=List.length_eq_zero_iff.mp (by omega)
  subst this
  unfold pickOrder.go
  rw [List.append_nil]
 | fuel + 1,k,left,out,h=>by
  unfold pickOrder.go
  by_cases c:left=[]
  ·subst c
   simp
  ·have lt:next k % left.length < left.length:=Nat.mod_lt _ (List.length_pos_iff.mpr c)
   rw [List.getElem?_eq_getElem lt]
   dsimp only
   refine (wg4 next fuel (k + 1) _ _ (by rw [List.length_eraseIdx_of_lt lt]; omega)).trans ?_
   rw [Array.toList_push,List.append_assoc]
   refine List.Perm.append_left _ ?_
   exact xi3 lt
theorem zg4 {α:Type} (next:Nat->Nat) (xs:Array α):(pickOrder next xs).toList.Perm xs.toList:=by
 have:=wg4 next xs.size 0 xs.toList #[] (by simp)
 simpa [pickOrder] using this
theorem yv8 {xs:Array Nat} (h:Rise xs):SetTable.below xs 0=0:=by
 by_cases c:SetTable.below xs 0=0
 ·exact c
 ·have hl:=xf1 h 0
  have hz:0 < xs.size:=by omega
  have q:xs[0]?=some xs[0]:=Array.getElem?_eq_getElem hz
  have:=(zv0 h 0 q).mp (by omega)
  omega
theorem xv8 {xs:Array Nat} (h:Rise xs) {i j:Nat} (q:xs[i]?=some j):SetTable.below xs (j + 1)=i + 1:=by
 have h1:=(zv0 h (j + 1) q).mpr (by omega)
 have hl:=xf1 h (j + 1)
 by_cases c:i + 1 < SetTable.below xs (j + 1)
 ·have hz:i + 1 < xs.size:=by omega
  have q2:xs[i + 1]?=some xs[i + 1]:=Array.getElem?_eq_getElem hz
  have a:=(zv0 h (j + 1) q2).mp c
  have b:=yg1 h q q2 (by omega)
  omega
 ·omega
theorem zi4:Manifest.owners.lookup (String.ofList "set_iterator".toList.reverse.reverse)=some Manifest.sig_set_iterator:=by kernel_rfl
theorem slot_sit:Slot "set_iterator" "__next__" "set_iterator.__next__" := by
 refine .of (owner := "set_iterator") (n := "__next__") ?_ ?_ ?_ ?_ ?_ ?_
 ·rw [typeLookup_type,builtinLookup_eq_fast]; kernel_rfl
 ·decide +kernel
 ·decide +kernel
 ·decide +kernel
 ·first | exact .inl (by decide +kernel) | exact .inr (by decide +kernel)
 ·rw [isSubtype_type]; kernel_rfl
theorem zb3:Slot "set_iterator" "__iter__" "set_iterator.__iter__" := by
 refine .of (owner := "set_iterator") (n := "__iter__") ?_ ?_ ?_ ?_ ?_ ?_
 ·rw [typeLookup_type,builtinLookup_eq_fast]; kernel_rfl
 ·decide +kernel
 ·decide +kernel
 ·decide +kernel
 ·first | exact .inl (by decide +kernel) | exact .inr (by decide +kernel)
 ·rw [isSubtype_type]; kernel_rfl
theorem wo2:entryFor table "set_iterator.__next__" = some Builtin.«set_iterator.__next__» := by exact entryFor_of_tree (by kernel_rfl)
theorem zq4:entryFor table "set_iterator.__iter__" = some Builtin.«dict_keyiterator.__iter__» := by refine entryFor_alias (id' := "dict_keyiterator.__iter__") (by kernel_rfl) ?_ (by decide +kernel) (by kernel_rfl); first | rfl | decide +kernel | (unfold String.splitOn; simp +decide [String.splitOnAux])
theorem yj3 (a:Value):argsOk "set_iterator.__next__" ⟨[a],[]⟩:=by
 unfold argsOk
 rw [signature?_of (id := "set_iterator.__next__") (n := "__next__".toList.reverse) (o := "set_iterator".toList.reverse) (by kernel_rfl) zi4]
 kernel_rfl
theorem wo5 (a:Value):argsOk "set_iterator.__iter__" ⟨[a],[]⟩:=by
 unfold argsOk
 rw [signature?_of (id := "set_iterator.__iter__") (n := "__iter__".toList.reverse) (o := "set_iterator".toList.reverse) (by kernel_rfl) zi4]
 kernel_rfl
theorem xt3:entryFor table "set.__iter__" = some Builtin.«frozenset.__iter__» := by exact entryFor_alias (id' := "frozenset.__iter__") (by kernel_rfl) rfl (by decide +kernel) (by kernel_rfl)
noncomputable def SIt (h:Heap) (it a:Addr) (sl i n ep:Nat):Prop:=∃ o,h.get? it=some o /\ o.cls=.type "set_iterator" /\ o.data=.fields #[rawInt sl,rawInt i,.ref a,rawInt n,rawInt ep]
theorem SIt.keep {h h':Heap} {it a:Addr} {sl i n ep:Nat} (x:SIt h it a sl i n ep) (k:∀ o,h.get? it=some o->h'.get? it=some o):SIt h' it a sl i n ep:=by
 obtain ⟨o,e1,e2⟩:=x
 exact ⟨o,k o e1,e2⟩
theorem SIt.ty {s:Shared} {it a:Addr} {sl i n ep:Nat} (x:SIt s.heap it a sl i n ep):s.TypeIs (.ref it) "set_iterator" := by
 obtain ⟨o,e1,e2,_⟩:=x
 exact ⟨o,e1,e2⟩
theorem wp4 {h:Heap} {it:Addr} {o:Obj} {vs:Array Value} {c:Value} (e1:h.get? it=some o) (e2:o.cls=c) (e3:o.data=.fields vs) (j:Nat) (x:Value) :
    ∃ o',(h.update it (Obj.mapFields (·.setIfInBounds j x))).get? it=some o' /\ o'.cls=c /\ o'.data=.fields (vs.setIfInBounds j x) :=
 ⟨_,Heap.get?_update_self _ e1 (Obj.isFreed_of_fields (Obj.data_mapFields e3 _)),(Obj.cls_mapFields ..).trans e2,Obj.data_mapFields e3 _⟩
structure SObj (prog:Program) (w:World) (h:Heap) (a:Addr) (o:Obj) (es:Array (Int × Value)) (ep:Nat) (t:SetTable):Prop where
 ho:h.get? a=some o
 ex:o.ExactSet
 hd:o.data=.set es ep t
 fits:t.fits es.size=true
 ris:Rise t.place
 sz:t.place.size=es.size
 pl:t.plain=true
 le:t.led = !bT prog w
theorem SObj.keep {prog:Program} {w:World} {h h':Heap} {a:Addr} {o:Obj} {es:Array (Int × Value)} {ep:Nat} {t:SetTable} (S:SObj prog w h a o es ep t) (k:∀ o,h.get? a=some o->h'.get? a=some o):SObj prog w h' a o es ep t :=
 ⟨k o S.ho,S.ex,S.hd,S.fits,S.ris,S.sz,S.pl,S.le⟩
theorem SetIs.obj {prog:Program} {w:World} {hf:T3->Int} {h:Heap} {a:Addr} {o:Obj} {es:Array (Int × Value)} {ep:Nat} {t:SetTable} {xs:List (T3 × Addr)} (S:SetIs prog w hf h a o es ep t xs):SObj prog w h a o es ep t :=
 ⟨S.ho,S.ex,S.hd,S.fits,S.ok.ris,by have h1:=S.ok.sz; have h2:=S.size; rw [List.length_map] at h1; omega,S.pl,S.le⟩
section
variable {prog:Program} {w:World} {A:Around} {E:Value->Shared->Prop} {s:Shared} {a it:Addr} {o:Obj} {es:Array (Int × Value)} {ep:Nat} {t:SetTable}
theorem zb5 {Q:Value->Shared->Prop} (S:SObj prog w s.heap a o es ep t)
    (q:Q (.ref s.heap.objs.size) { s with heap:=s.heap.push { cls:=.type "set_iterator",data:=.fields #[rawInt (0:Nat),rawInt (0:Nat),.ref a,rawInt es.size,rawInt ep] } }):wpAny (model prog w) A (pyIter (.ref a)) Q E s:=by
 have ty:s.TypeIs (.ref a) "set" := ⟨o,S.ho,S.ex.1⟩
 refine wpAny_pyIter_slot ty F.slot_set_iter (wpAny_call_entry F.slot_set_iter ty xt3 ?_ (F.args_set_iter_1 _))
 unfold Builtin.«frozenset.__iter__» Builtin.Frozenset.slot0 slotArgs
 simp only [List.isEmpty_nil,Bool.not_true,Bool.false_eq_true,↓reduceIte,bind_assoc,List.length_nil,bne_self_eq_false]
 unfold Builtin.Frozenset.addrOf Builtin.Frozenset.sizeOf
 refine wpAny_bind (wpAny_pure ?_)
 try dsimp only
 refine wpAny_bind (wpAny_pure ?_)
 refine wpAny_bind (wpAny_bind (wpAny_setEntries_of S.ho S.hd S.fits (wpAny_pure ?_)))
 have dr:wpAny (model prog w) A.in1 (setDrawn a) (λ b s'=>b=false /\ s'=s) E s:=by
  unfold setDrawn setsByText
  refine wpAny_bind (wpAny_setState_of S.ho S.hd S.fits ?_)
  dsimp only
  refine wpAny_bind (wpAny_bind (wpAny_askSetting (wpAny_pure (wpAny_pure ⟨?_,rfl⟩))))
  show (!_ && (!t.plain && _))=false
  rw [S.pl]
  simp
 refine wpAny_bind (wpAny_mono dr (λ b s' h=>?_) λ _ _ h=>h)
 obtain ⟨rfl,rfl⟩:=h
 simp only [Bool.false_eq_true,if_false]
 refine wpAny_bind (wpAny_pure ?_)
 refine wpAny_bind (wpAny_setEpoch_of S.ho S.hd S.fits ?_)
 refine wpAny_bind (wpAny_newObj_type (wpAny_pure ⟨_,rfl, "set_iterator",_,⟨_,Heap.get?_push_size _ rfl,rfl⟩,slot_sit.lookup,q⟩))
noncomputable def ordS (prog:Program) (w:World) (a:Addr) (ep:Nat) (es:Array (Int × Value)):Array (Int × Value):=if bT prog w=true then pickOrder ((model prog w).w.params.setOrder a ep) es else es
theorem ye3:(ordS prog w a ep es).toList.Perm es.toList:=by
 unfold ordS
 split
 ·exact zg4 _ _
 ·exact List.Perm.refl _
theorem yc2:(ordS prog w a ep es).size=es.size:=by
 have:=(ye3 (prog:=prog) (w:=w) (a:=a) (ep:=ep) (es:=es)).length_eq
 simpa using this
theorem xv1 {Q:Option (Value × Nat)->Shared->Prop} (S:SObj prog w s.heap a o es ep t) {sl i:Nat} (hb:bT prog w=false->SetTable.below t.place sl=i)
    (some':∀ e nx,(ordS prog w a ep es)[i]?=some e->(bT prog w=false->SetTable.below t.place nx=i + 1)->Q (some (e.2,nx)) s) (none':(ordS prog w a ep es)[i]?=none->Q none s) :
    wpAny (model prog w) A (setNext a sl i ep) Q E s:=by
 unfold setNext setsByText
 refine wpAny_bind (wpAny_setState_of S.ho S.hd S.fits ?_)
 dsimp only
 refine wpAny_bind (wpAny_bind (wpAny_askSetting (wpAny_pure ?_)))
 unfold ordS at some' none'
 by_cases c:bT prog w=true
 ·rw [if_pos (show (model prog w).w.params.followText "set-order" = true from c)]
  rw [if_pos c] at some' none'
  rw [if_neg (by simp)]
  refine wpAny_bind ?_
  unfold setWalk setsByText
  refine wpAny_bind (wpAny_setState_of S.ho S.hd S.fits ?_)
  dsimp only
  refine wpAny_bind (wpAny_bind (wpAny_askSetting (wpAny_pure ?_)))
  rw [if_pos (show (model prog w).w.params.followText "set-order" = true from c)]
  refine wpAny_bind (wpAny_askSetting (wpAny_pure (wpAny_pure ?_)))
  show Q (Option.map _ (pickOrder ((model prog w).w.params.setOrder a ep) es)[i]?) s
  cases e:(pickOrder ((model prog w).w.params.setOrder a ep) es)[i]? with
  | none=>exact none' e
  | some v=>exact some' v sl e (λ z=>by rw [c] at z; cases z)
 ·have cf:bT prog w=false:=by simpa using c
  rw [if_neg (show ¬ (model prog w).w.params.followText "set-order" = true from c)]
  rw [if_neg c] at some' none'
  split
  ·next dr =>
   have:(!t.plain && decide (es.size > 1))=true:=dr
   rw [S.pl] at this
   cases this
  ·refine wpAny_bind ?_
   show wpAny _ _ (ite (_=true) _ (pure PUnit.unit)) _ _ _
   rw [if_neg (by rw [S.le,cf]; simp)]
   refine wpAny_pure (wpAny_pure ?_)
   rw [hb cf]
   cases e:es[i]? with
   | none=>exact none' e
   | some v =>
    have hlt:i < t.place.size:=by
     have h1:=S.sz
     have:=(Array.getElem?_eq_some_iff.mp e).1
     omega
    have q:t.place[i]?=some t.place[i]:=Array.getElem?_eq_getElem hlt
    rw [q]
    exact some' v _ e (λ _=>xv8 S.ris q)
theorem yb5 {Q:Option Value->Shared->Prop} (S:SObj prog w s.heap a o es ep t) {sl i:Nat} (hi:SIt s.heap it a sl i es.size ep) (hb:bT prog w=false->SetTable.below t.place sl=i) (lt:i < es.size)
    (q:∀ h' e nx,(ordS prog w a ep es)[i]?=some e->SIt h' it a nx (i + 1) es.size ep->(bT prog w=false->SetTable.below t.place nx=i + 1)->Heap.SameBut it s.heap h'->Q (some e.2) { s with heap:=h' }):wpAny (model prog w) A (pyNext (.ref it)) Q E s:=by
 obtain ⟨oi,a1,a2,a3⟩:=id hi
 have ty:=hi.ty
 unfold pyNext
 refine wpAny_bind (wpAny_attempt (wpAny_callSpecial?_slot (name:=Str.ofString "__next__") ty slot_sit (wpAny_call_entry slot_sit ty wo2 ?a (yj3 _))))
 case a =>
  unfold Builtin.«set_iterator.__next__»
  refine wpAny_bind (m:=slotArgs "__next__" 0 _) (wpAny_pure ?_)
  refine wpAny_bind (wpAny_fieldsOf a1 a3 ?_)
  show wpAny _ _ (setEntries a >>= _) _ _ s
  refine wpAny_bind (wpAny_setEntries_of S.ho S.hd S.fits ?_)
  rw [if_neg (by simp)]
  show wpAny _ _ (setNext a sl i ep >>= _) _ _ s
  refine wpAny_bind (xv1 S hb (λ e nx e1 e2=>?_) λ e=>?_)
  ·show wpAny _ _ (setField (.ref it) 0 (rawInt nx) >>= _) _ _ s
   refine wpAny_bind (wpAny_setField a1 a3 (by simp) ?_)
   obtain ⟨o1,b1,b2,b3⟩:=wp4 a1 a2 a3 0 (rawInt nx)
   show wpAny _ _ (setField (.ref it) 1 (rawInt ((i:Int) + 1)) >>= _) _ _ _
   refine wpAny_bind (wpAny_setField b1 b3 (by simp) ?_)
   obtain ⟨o2,c1,c2,c3⟩:=wp4 b1 b2 b3 1 (rawInt ((i:Int) + 1))
   show wpAny _ _ (ret e.2) _ _ _
   exact wpAny_pure ⟨_,rfl,wpAny_pure (q _ e nx e1 ⟨o2,c1,c2,c3⟩ e2 ((Heap.SameBut.update ..).trans (Heap.SameBut.update ..)))⟩
  ·rw [Array.getElem?_eq_getElem (by rw [yc2]; exact lt)] at e
   cases e
theorem zh6 {Q:Option Value->Shared->Prop} (hh:A.handled=none) (S:SObj prog w s.heap a o es ep t) {sl:Nat} (hi:SIt s.heap it a sl es.size es.size ep) (hb:bT prog w=false->SetTable.below t.place sl=es.size)
    (q:∀ h',Heap.ExtBut it s.heap h'->Q none { s with heap:=h' }):wpAny (model prog w) A (pyNext (.ref it)) Q E s:=by
 obtain ⟨oi,a1,a2,a3⟩:=id hi
 have ty:=hi.ty
 unfold pyNext
 refine wpAny_bind (wpAny_attempt (wpAny_callSpecial?_slot (name:=Str.ofString "__next__") ty slot_sit (wpAny_call_entry slot_sit ty wo2 ?a (yj3 _))))
 case a =>
  unfold Builtin.«set_iterator.__next__»
  refine wpAny_bind (m:=slotArgs "__next__" 0 _) (wpAny_pure ?_)
  refine wpAny_bind (wpAny_fieldsOf a1 a3 ?_)
  show wpAny _ _ (setEntries a >>= _) _ _ s
  refine wpAny_bind (wpAny_setEntries_of S.ho S.hd S.fits ?_)
  rw [if_neg (by simp)]
  show wpAny _ _ (setNext a sl es.size ep >>= _) _ _ s
  refine wpAny_bind (xv1 S hb (λ e nx e1 e2=>?_) λ e=>?_)
  ·rw [Array.getElem?_eq_none (by rw [yc2]; exact Nat.le_refl _)] at e1
   cases e1
  ·show wpAny _ _ (setField (.ref it) 2 .none >>= _) _ _ s; refine wpAny_bind (wpAny_setField a1 a3 (by simp) ?_)
   show wpAny _ _ (newExc (.type "StopIteration") [] >>= _) _ _ _; refine wpAny_bind ?_; simp only [newExc,newTuple]
   refine wpAny_bind (wpAny_newObj_type (wpAny_bind (m:=firstArgMember _ _) (wpAny_of_eq (a:=Value.none) (by first | rfl | (simp only [firstArgMember]; rfl)) (wpAny_newObj_type ?_ (by size_fits)))) (by size_fits))
   simp only [raiseNew]; refine wpAny_bind (wpAny_handled ?_); rw [show A.in1.handled=none from hh]
   refine wpAny_bind (wpAny_pure (wpAny_throw ?_)); refine wpAny_bind (wpAny_isInstance (T := "StopIteration") (b:=true) ⟨_,Heap.get?_push_size _ rfl,rfl⟩ isSubtype_stop ?_)
   exact wpAny_pure (q _ (((Heap.SameBut.update ..).extBut.push _).push _))
theorem xb5 {Q:Value->Shared->Prop} {sl i n:Nat} (hi:SIt s.heap it a sl i n ep) (h:Q (.ref it) s):wpAny (model prog w) A (pyIter (.ref it)) Q E s:=by
 have ty:=hi.ty
 refine wpAny_pyIter_slot ty zb3 (wpAny_call_entry zb3 ty zq4 ?_ (wo5 _))
 show wpAny _ _ (ret (.ref it)) _ _ s
 exact wpAny_pure ⟨_,rfl, "set_iterator",_,ty,slot_sit.lookup,h⟩
theorem wl5 {Q:Bool->Shared->Prop} (ty:s.TypeIs (.ref a) "set") (h:Q false s):wpAny (model prog w) A (Builtin.List.listLengthHint (.ref a)) Q E s:=by
 unfold Builtin.List.listLengthHint
 refine wpAny_bind (wpAny_specialOf ty PySem.F.slot_set_len.lookup ?_); generalize hid:("set.__len__" : String)=id0; wp_delta
 rw [show splitId id0=some ("set", "__len__") from by subst hid; decide +kernel]; subst hid
 refine wpAny_bind (wpAny_isInstance (T := "set") (b:=true) ty (by rw [isSubtype_type]; kernel_rfl) ?_)
 refine wpAny_ite_split (λ c=>absurd c (by decide)) (λ _=>?_); refine wpAny_ite_split (λ _=>?_) (λ c=>absurd (by decide +kernel) c)
 exact wpAny_bind (wpAny_typeOf ty (wpAny_pure h))
theorem wz3 (hh:A.handled=none) (I a:Addr) (ne:a ≠ I):Walks prog w A I [I,a] [I] es.size (λ i v=>∃ e,(ordS prog w a ep es)[i]?=some e /\ v=e.2)
    (λ i h=>∃ sl,SIt h I a sl i es.size ep /\ (bT prog w=false->SetTable.below t.place sl=i) /\ SObj prog w h a o es ep t) where
 sub:=λ b hb=>by simp at hb; simp [hb]
 frame:=λ _ _ _ z hk=>by
  obtain ⟨sl,z1,z2,z3⟩:=z
  exact ⟨sl,z1.keep λ o e=>hk I (by simp) o e,z2,z3.keep λ o e=>hk a (by simp) o e⟩
 item:=λ i s Q E hi z q=>by
  obtain ⟨sl,z1,z2,z3⟩:=z
  refine yb5 z3 z1 z2 hi λ h' e nx a1 a2 a3 a4=>?_
  exact q _ h' s.toks ⟨e,a1,rfl⟩ ⟨nx,a2,a3,z3.keep λ o e=>a4.extBut a o ne e⟩ λ b o hb e=>a4.extBut b o (λ y=>hb (by simp [y])) e
 done:=λ s Q E z q=>by
  obtain ⟨sl,z1,z2,z3⟩:=z
  exact zh6 hh z3 z1 z2 λ h' k=>q h' s.toks λ b o hb e=>k b o (λ y=>hb (by simp [y])) e
 self:=λ _ _ _ _ z q=>by
  obtain ⟨sl,z1,_⟩:=z
  exact xb5 z1 q
theorem wh6:KdlSrc prog w "set" a a es.size (λ i v=>∃ e,(ordS prog w a ep es)[i]?=some e /\ v=e.2) (λ h=>SObj prog w h a o es ep t) where
 type:=λ _ x=>⟨o,x.ho,x.ex.1⟩
 there:=λ _ x=>⟨Heap.lt_size x.ho,Heap.lt_size x.ho⟩
 keep:=λ _ _ x k=>x.keep λ o e=>k a (.inl rfl) o e
 notList:=by decide
 notTuple:=by decide
 hint:=λ _ _ _ _ x q=>wl5 ⟨o,x.ho,x.ex.1⟩ q
 iter:=λ _ s hh x=>by
  have hl:=Heap.lt_size x.ho
  exact ⟨_,_,(λ _ _ q=>zb5 x q),wz3 hh _ a (Nat.ne_of_lt hl),⟨0,⟨_,Heap.get?_push_size _ rfl,rfl,rfl⟩,(λ _=>yv8 x.ris),x.keep λ o e=>Heap.get?_push_of_some _ e⟩⟩
theorem wm4 {acc:Array Value} (h:ItemsOf (λ i v=>∃ e,(ordS prog w a ep es)[i]?=some e /\ v=e.2) acc es.size):acc.toList=(ordS prog w a ep es).toList.map (·.2):=by
 obtain ⟨h1,h2⟩:=h
 have h3:=yc2 (prog:=prog) (w:=w) (a:=a) (ep:=ep) (es:=es)
 apply List.ext_getElem?
 intro i
 rw [List.getElem?_map,Array.getElem?_toList,Array.getElem?_toList]
 by_cases c:i < es.size
 ·obtain ⟨e,e1,e2⟩:=h2 i (acc[i]'(by omega)) (by simp)
  rw [e1,Array.getElem?_eq_getElem (by omega),e2]
  rfl
 ·rw [Array.getElem?_eq_none (by omega),Array.getElem?_eq_none (by omega)]
  rfl
theorem ws5:∀ {h:Heap} {ys:List (T3 × Addr)},(∀ x ∈ ys,TK prog w h x.1 x.2)->T3s h (ys.map λ x=>Value.ref x.2) (ys.map (·.1))
 | _,[],_=>trivial
 | _,x :: ys,k=>⟨(k x (List.mem_cons_self ..)).t3,ws5 λ y hy=>k y (List.mem_cons_of_mem _ hy)⟩
theorem yk3 {xs:List (T3 × Addr)} {hf:T3->Int} {Q:Value->Shared->Prop} (hh:A.handled=none) (S:SetG prog w hf s.heap a xs) (h64:xs.length < 512)
    (h:∀ (ys:List (T3 × Addr)) (p:Array Nat) (h1 h':Heap) (c tk:Nat),ys.Perm xs->p.Perm (List.toArray (List.range ys.length))->Ms.Up (ltI (ys.map (·.1))) p ys.length->(∀ b o,s.heap.get? b=some o->h1.get? b=some o)->(∀ b o,h1.get? b=some o->h'.get? b=some o) ->
     h'.get? h1.objs.size=some (seqObj "list" (outV (ys.map λ x=>Value.ref x.2) p).toArray c)->Q (.ref h1.objs.size) { s with heap:=h',toks:=tk }) :
    wpAny (model prog w) A (call (.builtin "sorted") [.ref a]) Q E s:=by
 obtain ⟨o,es,ep,t,S,_⟩:=S
 have zs:=S.size
 have hz:es.size<=sizeLine:=by rw [sizeLine_eq]; omega
 obtain ⟨ys,py,ey⟩:=wf5 (f:=ent hf) (ye3 (prog:=prog) (w:=w) (a:=a) (ep:=ep) (es:=es)) xs S.el
 refine Calls.call_function_entry kind_sorted plain_sorted entry_sorted (args_sorted1 _) ?_
 unfold Builtin.«sorted»
 refine wpAny_bind (m:=checkCount "sorted" 1 1 _) (wpAny_pure (wpAny_bind (kdu_collect (wh6 (o:=o) (t:=t)) hh S.obj hz λ h1 tk acc k1 ia=>?_)))
 rw [wm4 ia,ey,List.map_map,show ((λ x:Int × Value=>x.2) ∘ ent hf)=(λ x:T3 × Addr=>Value.ref x.2) from rfl]
 have l0:=py.length_eq
 have l1:(ys.map λ x=>Value.ref x.2).length=ys.length:=List.length_map _
 refine wpAny_bind (wpAny_newList ?_ (by rw [l1,l0,<- zs]; exact hz))
 have k2:∀ b o,s.heap.get? b=some o->(h1.push (seqObj "list" (ys.map λ x=>Value.ref x.2).toArray 0)).get? b=some o:=λ b o q=>Heap.get?_push_of_some _ (k1 b o q)
 have zo:(h1.push (seqObj "list" (ys.map λ x=>Value.ref x.2).toArray 0)).get? h1.objs.size=some (seqObj "list" (ys.map λ x=>Value.ref x.2).toArray 0):=Heap.get?_push_size _ rfl
 have tt:=T3s.kept (λ b o e _=>k2 b o e) (ws5 (prog:=prog) (w:=w) (h:=s.heap) (ys:=ys) λ x hx=>S.ks x (py.mem_iff.mp hx))
 show wpAny _ _ _ _ _ { s with heap:=h1.push (seqObj "list" (ys.map λ x=>Value.ref x.2).toArray 0),toks:=tk }
 refine wpAny_bind (wpAny_holding (wpAny_call_entry slot_list_sort ⟨_,zo,rfl⟩ entry_list_sort (xj5 (s:={ s with heap:=h1.push (seqObj "list" (ys.map λ x=>Value.ref x.2).toArray 0),toks:=tk }) zo tt (by rw [l1,l0,sizeLine_eq]; omega) λ p h' c a1 a2 a3 a4=>⟨_,rfl,?_⟩) (args_list_sort _)))
 rw [l1] at a1 a2
 exact wpAny_pure ⟨_,rfl,h ys p h1 h' c tk py a1 a2 k1 (λ b o q=>a3 b o (Nat.ne_of_lt (Heap.lt_size q)) (Heap.get?_push_of_some _ q)) a4⟩
end
end Pv
namespace Pv
open PySem PySem.Spec PySem.W PyProof.Rows L2
noncomputable abbrev vT (t:T3):List V:=[.int t.1,.int t.2.1,.int t.2.2]
noncomputable def SB (ts:List T3):Prop:=∀ l:List T3,l.Nodup->(∀ x ∈ l,x ∈ ts)->l.length < 511
noncomputable abbrev TSt:=L2.St->Hp->(List (T3 × Addr)->Hp->Prop)->Prop
noncomputable def SE (X:Cx) (pins:List (Addr × Obj)) (σ:L2.St) (R:List (T3 × Addr)->Hp->Prop) (u:Value) (s':Shared):Prop :=
 ∃ a xs H',u=.ref a /\ Inv X pins σ H' s' /\ FpOk X pins H' a /\ SetG X.prog X.w (hT X.prog X.w) s'.heap a xs /\ (∀ x ∈ xs,SqT X.K H' x.2 (vT x.1)) /\ xs.length < 511 /\ R xs H'
noncomputable def PSt (X:Cx) (e:Expr) (t:TSt):Prop :=
 ∀ (pins:List (Addr × Obj)) (s:Shared) (σ:L2.St) (H:Hp) (R:List (T3 × Addr)->Hp->Prop),Inv X pins σ H s->t σ H R->wpAny (model X.prog X.w) X.A (eval e X.env) (SE X pins σ R) X.xe s
theorem xt5 {prog:Program} {w:World} {h:Heap}:∀ {us:List Value} {ts:List T3} {i:Nat} {v:Value},T3s h us ts->us[i]?=some v->i < ts.length /\ ∃ b,v=.ref b /\ TK prog w h (ts.getD i (0,0,0)) b
 | [],[],i,v,_,e=>by simp at e
 | [],_ :: _,_,_,z,_=>z.elim
 | _ :: _,[],_,_,z,_=>z.elim
 | u :: us,t :: ts,0,v,z,e=>by
  simp only [List.getElem?_cons_zero,Option.some.injEq] at e
  subst e
  obtain ⟨a,o,t1,t2,t3,n,rfl,e2⟩:=id z.1
  exact ⟨by simp,a,rfl,(show TK prog w h t a from IsT3.key z.1)⟩
 | u :: us,t :: ts,i + 1,v,z,e=>by
  simp only [List.getElem?_cons_succ] at e
  obtain ⟨h1,b,h2,h3⟩:=xt5 (prog:=prog) (w:=w) z.2 e
  exact ⟨by simp only [List.length_cons]; omega,b,h2,h3⟩
theorem zs5 {K:Fg} {H:Hp}:∀ {vs:List V} {ts:List T3} {us:List Value} {i:Nat} {b:Addr},V3s K H vs ts->Vals vs us->us[i]?=some (.ref b)->SqT K H b (vT (ts.getD i (0,0,0)))
 | [],[],_,i,b,_,.nil,e=>by simp at e
 | [],_ :: _,_,_,_,z,_,_=>z.elim
 | _ :: _,[],_,_,_,z,_,_=>z.elim
 | v :: vs,t :: ts,_,0,b,z,.cons r rs,e=>by
  simp only [List.getElem?_cons_zero,Option.some.injEq] at e
  subst e
  obtain ⟨⟨a,rfl,hq⟩,_⟩:=z
  cases r
  exact hq
 | v :: vs,t :: ts,_,i + 1,b,z,.cons r rs,e=>by
  simp only [List.getElem?_cons_succ] at e
  exact (show SqT K H b (vT (ts.getD i (0,0,0))) from zs5 z.2 rs e)
section
variable {X:Cx} {e:Expr} {p p2 pos pos2:Pos}
noncomputable def zx8 (K:Fg) (ta:TA):TSt:=λ σ H R=>ta σ H λ xs H1=>∃ p vs ts,xs=[.ref p] /\ (SqL K H1 p vs \/ SqT K H1 p vs) /\ V3s K H1 vs ts /\ SB ts ∧
 ∀ ys:List (T3 × Addr),(ys.map (·.1)).Nodup->(∀ t,t ∈ ys.map (·.1) ↔ t ∈ ts)->(∀ y ∈ ys,SqT K H1 y.2 (vT y.1))->R ys H1
theorem xx6 {items:List Value} {ts:List T3} {ys:List (T3 × Addr)} {Pr:Nat->Value->Prop} (hl:items.length=ts.length) (g:Got Pr (λ i=>ts.getD i (0,0,0)) items.length ys) (t:T3):t ∈ ys.map (·.1) ↔ t ∈ ts:=by
 constructor
 ·intro h
  obtain ⟨y,hy,rfl⟩:=List.mem_map.mp h
  obtain ⟨j,h1,_,h2⟩:=g.1 y hy
  have h2:ts.getD j (0,0,0)=y.1:=h2
  rw [<- h2,List.getD_eq_getElem?_getD,List.getElem?_eq_getElem (by omega)]
  exact List.getElem_mem _
 ·intro h
  obtain ⟨j,hj,e⟩:=List.getElem_of_mem h
  have:ts.getD j (0,0,0) ∈ _:=g.2 j (by omega)
  rwa [List.getD_eq_getElem?_getD,List.getElem?_eq_getElem hj,Option.getD_some,e] at this
theorem yf4 {ta:TA} (hc:X.calm=true) (hu:X.A.units + 64 < cLine) (hg:Gl X "set") (hm:X.mg "set" = none) (ha:PA X [e] ta) (hs:starEach [e] X.env=[(false,eval e X.env)]:=by rfl) :
    PSt X (.Call (.Name "set" p) [e] [] pos) (zx8 X.K ta):=by
 intro pins s σ H R I h
 refine Call_ (xx0 I hg hm yu8 (PyProof.Rows.callWith_type1 (thn (ha pos pins s σ H _ I h) λ us s1 ⟨vs,H1,I1,r1,q1⟩=>?_) hs rfl))
 obtain ⟨a,ws,ts,e1,hq,h3,hB,k⟩:=q1
 subst e1
 cases r1 with
 | cons r rr =>
  cases rr
  cases r
  have key:∀ {its:List Value},Vals ws its->(∀ l:List T3,l.Nodup->(∀ x ∈ l,∃ j,j < its.toArray.size /\ ts.getD j (0,0,0)=x)->l.length < 511) ∧
      (∀ i v,i < its.toArray.size->its.toArray[i]?=some v->∃ b,v=.ref b /\ TK X.prog X.w s1.heap (ts.getD i (0,0,0)) b) ∧
      ∀ (h':Heap) (tk:Nat) xs,KpH s1.heap h'->SetG X.prog X.w (hT X.prog X.w) h' s1.heap.objs.size xs->Got (λ i v=>its.toArray[i]?=some v) (λ i=>ts.getD i (0,0,0)) its.toArray.size xs->SE X pins σ R (.ref s1.heap.objs.size) { s1 with heap:=h',toks:=tk }:=λ {its} rv=>by
   have l1:=h3.len
   have l2:=rv.length
   have l3:its.toArray.size=its.length:=List.size_toArray
   have B:∀ l:List T3,l.Nodup->(∀ x ∈ l,∃ j,j < its.toArray.size /\ ts.getD j (0,0,0)=x)->l.length < 511:=λ l nd hl=>hB l nd λ x hx=>by
    obtain ⟨j,h1,h2⟩:=hl x hx
    rw [<- h2,List.getD_eq_getElem?_getD,List.getElem?_eq_getElem (by omega)]
    exact List.getElem_mem _
   refine ⟨B,λ i v lt e=>(xt5 (wx2 I1 h3 rv) (by simpa using e)).2,λ h' tk xs kp sg g=>?_⟩
   have sq:∀ x ∈ xs,SqT X.K H1 x.2 (vT x.1):=λ x hx=>?_
   ·exact ⟨_,xs,H1,rfl,I1.kept kp,I1.fpOk (Nat.le_refl _) (I1.hok.fresh (Nat.le_refl _)),sg,sq,g.len (Nat.le_refl _) sg.nd B,k xs sg.nd (xx6 (items:=its) (by omega) (by rw [<- l3]; exact g)) sq⟩
   obtain ⟨j,_,h2,h3'⟩:=g.1 x hx
   have h3':ts.getD j (0,0,0)=x.1:=h3'
   have:=zs5 h3 rv (i:=j) (b:=x.2) (by simpa using h2)
   rwa [h3'] at this
  rcases hq with hq | hq
  ·obtain ⟨its,rv,pl,hz⟩:=I1.list hq
   obtain ⟨k1,k2,k3⟩:=key rv
   exact za2 (I1.ok.hd hc) (by omega) pl.isList k2 k1 k3
  ·obtain ⟨its,rv,pl,hz⟩:=I1.tuple hq
   obtain ⟨k1,k2,k3⟩:=key rv
   exact xa4 (I1.ok.hd hc) (by omega) pl k2 k1 k3
noncomputable def yx8 (K:Fg) (ts:TSt):TE:=λ σ H Q=>ts σ H λ xs H1=>∀ (ys:List (T3 × Addr)),ys.Perm xs->∀ q:Array Nat,q.Perm (List.toArray (List.range ys.length))->Ms.Up (ltI (ys.map (·.1))) q ys.length->V3s K H1 (ys.map λ x=>V.ref x.2) (ys.map (·.1)) ->
 ∀ r,H1 r=none->Q (.ref r) (upd H1 r (.lst (q.toList.map λ i=>(ys.map λ x=>V.ref x.2).getD i .non)))
theorem ys5 {K:Fg} {H:Hp}:∀ {ys:List (T3 × Addr)},(∀ x ∈ ys,SqT K H x.2 (vT x.1))->V3s K H (ys.map λ x=>V.ref x.2) (ys.map (·.1))
 | [],_=>trivial
 | y :: ys,h=>⟨⟨_,rfl,h y (List.mem_cons_self ..)⟩,ys5 λ x hx=>h x (List.mem_cons_of_mem _ hx)⟩
theorem wt3:∀ (ys:List (T3 × Addr)),Vals (ys.map λ x=>V.ref x.2) (ys.map λ x=>Value.ref x.2)
 | []=>.nil
 | y :: ys=>.cons rfl (wt3 ys)
theorem wp6 {ts:TSt} (hc:X.calm=true) (hg:Gl X "sorted") (hm:X.mg "sorted" = none) (hp:PSt X e ts) (hs:starEach [e] X.env=[(false,eval e X.env)]:=by rfl):PE X (.Call (.Name "sorted" p) [e] [] pos) (yx8 X.K ts):=by
 intro pins s σ H Q I h
 refine Call_ (xx0 I hg hm zt4 (PyProof.Rows.callWith_builtin1 ?_ hs rfl))
 rw [hs]
 show wpAny _ _ (spliced ((false,eval e X.env) :: backTo pos (starEach [] X.env))) _ _ s
 refine Calls.spliced_cons ?_
 refine thn (hp pins s σ H _ I h) λ u s1 q=>?_
 obtain ⟨a,xs,H1,rfl,I1,fp,sg,sq,ln,k⟩:=q
 refine Calls.spliced_nil ?_
 refine yk3 (I1.ok.hd hc) sg (by omega) λ ys q h1 h' c tk py a1 a2 a3 a4 a5=>?_
 have I2:Inv X pins σ H1 { s1 with heap:=h1,toks:=tk }:=I1.kept a3
 have sz:q.toList.length=ys.length:=by have:=a1.size_eq; simpa using this
 have l0:=py.length_eq
 have lt':∀ i ∈ q.toList,i < (ys.map λ x=>V.ref x.2).length:=λ i hi=>by
  have e:i ∈ List.toArray (List.range ys.length):=a1.mem_iff.mp (by simpa using hi)
  rw [List.length_map]
  simpa using e
 refine ⟨.ref _,_,I2.laid (t':=tk) a4 (Nat.le_refl _) (show ObjOk X.prog X.w _ h' _ (.lst (q.toList.map λ i=>(ys.map λ x=>V.ref x.2).getD i .non)) from ⟨by rw [List.length_map,sz,sizeLine_eq]; omega,_,c,xh2 (wt3 ys) _ lt',a5⟩),rfl,?_⟩
 exact k ys py q a1 a2 (ys5 λ x hx=>sq x (py.mem_iff.mp hx)) _ (I2.hok.fresh (Nat.le_refl _))
end
noncomputable abbrev TSt3:=St3->Mu->(List T3->Mu->Prop)->Prop
noncomputable def RdSt (K:Fg) (tv:TSt) (t:TSt3):Prop:=∀ σ H R ρ μ R3,RSt K H ρ σ->RelM K μ H->t ρ μ R3->(∀ xs μ' H',R3 (xs.map (·.1)) μ'->(xs.map (·.1)).Nodup->(∀ x ∈ xs,SqT K H' x.2 (vT x.1))->Kp H H'->RelM K μ' H'->R xs H')->tv σ H R
noncomputable def REs (X:Cx) (e:Expr) (t:TSt3):Prop:=∃ tv,PSt X e tv /\ RdSt X.K tv t
noncomputable def xf6 (t:TA3):TSt3:=λ ρ μ R=>t ρ μ λ ds μ1=>∃ ts,(match ds with
 | [.ref p]=>μ1 p=some (.lst (ts.map encT))
 | [.tup l]=>l=ts.map encT
 | _=>False) /\ SB ts /\ ∀ ks:List T3,ks.Nodup->(∀ x,x ∈ ks ↔ x ∈ ts)->R ks μ1
noncomputable def wk7 (t:TSt3):TE3:=λ ρ μ Q=>t ρ μ λ ks μ1=>∀ us:List T3,us.Perm ks->us.Pairwise le3->∀ r,μ1 r=none->Q (.ref r) (updM μ1 r (.lst (us.map encT)))
section
variable {X:Cx} {e:Expr} {p p2 pos pos2:Pos} {t:TE3}
theorem yb4 (he:RE X e t) (hm:X.mg "set" = none) (hu:X.A.units + 64 < cLine) (hc:X.calm=true:=by rfl) (hg:Gl X "set" := by rfl) (hs:starEach [e] X.env=[(false,eval e X.env)]:=by rfl):REs X (.Call (.Name "set" p) [e] [] pos) (xf6 (wa0 t nil3)):=by
 obtain ⟨va,pa,ra⟩:=xa0 he zb0 hs
 refine ⟨_,yf4 hc hu hg hm pa hs,λ σ H R ρ μ R3 s m h k=>ra σ H _ ρ μ _ s m h λ ds μ1 vs H1 h1 k1 r1 m1=>?_⟩
 obtain ⟨ts,hd,hB,q⟩:=h1
 cases r1 with
 | nil=>exact hd.elim
 | cons r1 r2 =>
  cases r2 with
  | cons _ _=>cases r1 <;> exact hd.elim
  | nil =>
   cases r1 with
   | ref a =>
    obtain ⟨us,hv,rv⟩:=m1 a _ hd
    exact ⟨a,us,ts,rfl,.inl (SqL.of hv),xu3 rv,hB,λ ys nd al sq=>k ys μ1 H1 (q _ nd al) nd sq k1 m1⟩
   | tup hq rv =>
    have hd:_=ts.map encT:=hd
    subst hd
    exact ⟨_,_,ts,rfl,.inr hq,xu3 rv,hB,λ ys nd al sq=>k ys μ1 H1 (q _ nd al) nd sq k1 m1⟩
   | _=>exact hd.elim
theorem zj6 {ts:TSt3} (he:REs X e ts) (hm:X.mg "sorted" = none) (hc:X.calm=true:=by rfl) (hg:Gl X "sorted" := by rfl) (hs:starEach [e] X.env=[(false,eval e X.env)]:=by rfl):RE X (.Call (.Name "sorted" p) [e] [] pos) (wk7 ts):=by
 obtain ⟨va,pa,ra⟩:=he
 refine ⟨_,wp6 hc hg hm pa hs,λ σ H Q ρ μ Q3 s m h k=>ra σ H _ ρ μ _ s m h λ xs μ1 H1 h1 nd1 sq1 k1 m1=>?_⟩
 intro ys py q a1 a2 v3 r hr
 have l1:(ys.map (·.1)).length=ys.length:=List.length_map _
 rw [<- l1] at a1 a2
 have lt':∀ i ∈ q.toList,i < (ys.map λ x=>V.ref x.2).length:=λ i hi=>by
  have e:i ∈ List.toArray (List.range (ys.map (·.1)).length):=a1.mem_iff.mp (by simpa using hi)
  rw [List.length_map] at e ⊢
  simpa using e
 exact k _ _ _ _ (h1 _ ((xz3 a1).trans (py.map _)) (wg6 a1 a2) r (m1.free hr)) (k1.trans (Kp.new hr)) (.ref r) (m1.newL hr (wv1 (yd3 v3) _ lt'))
end
end Pv
namespace Pv
open PySem PySem.Spec PySem.W PyProof.Rows L2
section
variable {X:Cx} {o e:Expr} {es:List Expr} {to:TE3} {t:TA3} {apos cpos:Pos}
end
end Pv
namespace Pv
open PySem PySem.Spec PyProof.Rows L2 PySem.Calls
section
variable {X:Cx}
noncomputable def cntR:D->List D->Mu->VK3->Prop:=λ x xs μ Q=>match xs with
 | [y]=>match datM μ x,datM μ y with
  | some (.list ps),some q=>((PyData.list ps).depth<=64 /\ q.depth<=64) /\ Q (.int ((ps.countP λ e=>PyData.eqv e q:Nat):Int)) μ
  | _,_=>False
 | _=>False
noncomputable def rCnt (K:Fg):V->List V->Hp->VK->Prop:=λ x vs H Q=>∃ d e y μ ps q,vs=[y] /\ RelM K μ H /\ RelD K H d x /\ RelD K H e y /\ datM μ d=some (.list ps) /\ datM μ e=some q /\ (PyData.list ps).depth<=64 /\ q.depth<=64 /\ Q (.int ((ps.countP λ e=>PyData.eqv e q:Nat):Int)) H
theorem xi5 (hu:X.A.units + 65 < cLine):MtR X "list.count" (rCnt X.K):=by
 intro pins s σ H x vs v us Q I rx rv h
 obtain ⟨d,e,y,μ,ps,q,rfl,m,rd,re,e1,e2,h1,h2,k⟩:=h
 cases rv with
 | cons ru rc =>
 cases rc
 rename_i u
 obtain ⟨as,q1⟩:=yk0 I m rd e1 rx
 obtain ⟨bs,q2⟩:=yk0 I m re e2 ru
 have cl:=PySem.SeqAt.canLay_of_shaped (xh0 e1 h1)
 have cq:=PySem.SeqAt.canLay_of_shaped (xh0 e2 h2)
 simp only [PyData.canLay0] at cl
 cases q1 with
 | list ho hc hd ra =>
  rename_i a o its n as'
  obtain ⟨oc,od,oda,osl⟩:=o
  dsimp only at hc hd
  subst hc hd
  have hm:X.A.units + 1 + min (PyData.depthAll ps) q.depth < cLine:=by
   have:min (PyData.depthAll ps) q.depth<=q.depth:=Nat.min_le_right _ _
   omega
  have cc:List.countP (λ y=>(PySem.SeqAt.readOf s.heap y).eqv q) its.toList=ps.countP λ e=>e.eqv q:=by
   have z:=PySem.SeqAt.readsAll_map ps its.toList as' cl ra
   rw [<- z,List.countP_map]
   rfl
  refine call_meets F.slot_list_count ⟨_,ho,rfl⟩ F.entry_list_count (F.args_list_count_2 _ _) (PySem.SeqAt.list_countAt a its n od osl u λ y=>(PySem.SeqAt.readOf s.heap y).eqv q) ⟨ho,PySem.SeqAt.items_eqAt ra q2 cl cq hm,?_⟩
  rw [cc]
  exact ⟨.int _,H,I.kept (t':=s.toks + 1) λ b ob q=>q,⟨_,rfl⟩,k⟩
variable {o e:Expr} {es:List Expr} {to:TE3} {t:TA3} {apos cpos:Pos}
theorem wd3 (hu:X.A.units + 65 < cLine) (ho:RE X o to) (ha:RA X (e :: es) t) (hbase:attributeBase o "count" X.env (eval o X.env)=eval o X.env:=by rfl)
    (hfew:((backTo cpos (starEach (e :: es) X.env)).all (λ x=>!x.1) && (backToKw cpos (keywordEach [] X.env)).all (λ x=>x.1.isSome)
     && decide ((e :: es).length + ([]:List Keyword).length + (if ([]:List Keyword).isEmpty then 0 else 1) < 30))=true:=by rfl)
    (hline:(apos.endLine == cpos.line)=true:=by rfl) (hs:starEach (e :: es) X.env=(false,eval e X.env) :: starEach es X.env:=by rfl) (hplain:(backTo cpos (starEach es X.env)).any (·.1)=false:=by rfl) :
    RE X (.Call (.Attribute o "count" apos) (e :: es) [] cpos) (mt3 cntR to t):=by
 refine wk6 PySem.F.slot_list_count PySem.F.type_list_count (xi5 hu) (λ p xs v vs H Q μ Q3 m rp rx h k=>?_) ho ha hbase hfew hline hs hplain
 cases rx with
 | nil=>exact False.elim h
 | cons r1 r2 =>
  cases r2 with
  | cons _ _=>exact False.elim h
  | nil =>
   rename_i y u
   dsimp only [cntR] at h
   split at h
   ·next ps q e1 e2=>exact ⟨.ref p,y,u,μ,ps,q,rfl,m,rp,r1,e1,e2,h.1.1,h.1.2,k _ _ _ _ h.2 (Kp.refl _) (.int _) m⟩
   ·exact h.elim
end
section
variable {X:Cx} {e:Expr} {p pos:Pos}
noncomputable def xz8 (ts:TSt):TE:=λ σ H Q=>ts σ H λ xs H1=>Q (.int (xs.length:Int)) H1
theorem wq6 {ts:TSt} (hg:Gl X "len") (hm:X.mg "len" = none) (hp:PSt X e ts) (hs:starEach [e] X.env=[(false,eval e X.env)]:=by rfl):PE X (.Call (.Name "len" p) [e] [] pos) (xz8 ts):=by
 intro pins s σ H Q I h
 refine Call_ (xx0 I hg hm xy1 (PyProof.Rows.callWith_builtin1 ?_ hs rfl))
 rw [hs]
 show wpAny _ _ (spliced ((false,eval e X.env) :: backTo pos (starEach [] X.env))) _ _ s
 refine Calls.spliced_cons ?_
 refine thn (hp pins s σ H _ I h) λ u s1 q=>?_
 obtain ⟨a,xs,H1,rfl,I1,fp,⟨o,es,ep,t,S,_⟩,sq,ln,k⟩:=q
 refine Calls.spliced_nil ?_
 have sz:=S.size
 refine PySem.call_len_set S.ho S.ex S.hd S.fits (by omega) ?_
 rw [sz]
 exact ⟨.int _,H1,I1.kept (t':=s1.toks + 1 + 1) λ b ob q=>q,⟨_,rfl⟩,k⟩
noncomputable def xp8 (t:TSt3):TE3:=λ ρ μ Q=>t ρ μ λ ks μ1=>Q (.int (ks.length:Int)) μ1
theorem yk6 {ts:TSt3} (he:REs X e ts) (hm:X.mg "len" = none) (hg:Gl X "len" := by rfl) (hs:starEach [e] X.env=[(false,eval e X.env)]:=by rfl):RE X (.Call (.Name "len" p) [e] [] pos) (xp8 ts):=by
 obtain ⟨va,pa,ra⟩:=he
 refine ⟨_,wq6 hg hm pa hs,λ σ H Q ρ μ Q3 s m h k=>ra σ H _ ρ μ _ s m h λ xs μ1 H1 h1 nd1 sq1 k1 m1=>?_⟩
 rw [List.length_map] at h1
 exact k _ _ _ _ h1 k1 (.int _) m1
end
end Pv
namespace Pv
open PySem PySem.Spec PyProof.Rows L2
section
variable {X:Cx} {NN:List Str} {scope:Scope} {cl:List (Str × Addr)} {js:List (Option Nat)}
theorem xa7 {elt target iter:Expr} {ifs:List Expr} {pos:Pos} {wi:TI} {g:TG} {tc:TT} {te:TE} (hc:X.calm=true) (S:CompSc X NN scope cl js) (hi:PI X target iter wi)
    (hg:∀ C fp s₀ H₀ pn,PG (yi0 X NN scope cl C fp s₀ H₀ pn) target g) (ht:∀ C fp s₀ H₀ pn,PTs (yi0 X NN scope cl C fp s₀ H₀ pn) ifs tc) (he:∀ C fp s₀ H₀ pn,PE (yi0 X NN scope cl C fp s₀ H₀ pn) elt te)
    (hs:∀ x,foldedSetIterable iter X.env x=pure x) {use:Option (Value->Sem Unit)} {Q':Value->Shared->Prop} {pins:List (Addr × Obj)} {s:Shared} {σ:L2.St} {H:Hp} {Q:VK} (I:Inv X pins σ H s) (h:wu3 js wi g tc te σ H Q)
    (hu:∀ (p0 C:Addr) (H':Hp) (s':Shared) (m':Str->Option Value),Inv X pins σ H' s'->s'.heap.Ns C m'->H' C=none->C ≠ X.env.locals->X.s₀.heap.objs.size<=C->(∀ x c,X.env.cells.lookup x=some c->c ≠ C)->(∀ p ∈ X.pn ++ pins,p.1 ≠ C)->Q (.ref p0) H' ->
     compPost (model X.prog X.w) X.A X.xe use Q' (.ref p0) C (.ok .next) s') :
    wpAny (model X.prog X.w) X.A (comprehension (.ListComp elt [⟨target,iter,ifs,0⟩] scope pos) scope X.env (firstIterPos [⟨target,iter,ifs,0⟩] pos) (newList []) (firstAsync [⟨target,iter,ifs,0⟩]) (firstIter [⟨target,iter,ifs,0⟩] X.env) use) Q' X.xe s:=by
 refine wpAny_comprehension_free (use:=use) rfl hs S.clos S.kind S.names (thn (hi pins s σ H _ I h) λ xv s1 h1=>thn h1 λ itv s2 h2=>?_)
 obtain ⟨it,fp,tn,J,H2,rfl,I2,T,st2,f2,hW⟩:=h2
 refine wpAny_newObj_type (wpAny_newFunctionEnv S.cell (by intro y hy; simp at hy) (λ h₁ hns₁ hsb₁=>?_) S.kind)
 dsimp only at hns₁ hsb₁ ⊢
 have hD:H2 s2.heap.objs.size=none:=I2.hok.fresh (Nat.le_refl _)
 have I3:Inv X pins σ (upd H2 s2.heap.objs.size (.lst [])) { s2 with heap:=s2.heap.push { cls:=.type "list",dict:=none,data:=.seq ([]:List Value).toArray } } :=
  I2.lnew (t':=s2.toks) (its:=[]) .nil (by rw [sizeLine_eq]; decide)
 generalize hsD:({ s2 with heap:=s2.heap.push { cls:=.type "list",dict:=none,data:=.seq ([]:List Value).toArray } }:Shared)=sD at I3
 have eh:sD.heap=s2.heap.push { cls:=.type "list",dict:=none,data:=.seq ([]:List Value).toArray }:=by rw [<- hsD]
 have es:∀ (h:Heap) (tk:Nat),({ s2 with heap:=h,toks:=tk }:Shared)={ sD with heap:=h,toks:=tk }:=λ h tk=>by rw [<- hsD]
 have hsz:s2.heap.objs.size < sD.heap.objs.size:=by rw [eh,Heap.size_push]; exact Nat.lt_succ_self _
 rw [<- eh] at hns₁ hsb₁ ⊢
 generalize hp0:s2.heap.objs.size=p0 at *
 have up:∀ b u,s2.heap.get? b=some u->sD.heap.get? b=some u:=λ b u e=>by rw [eh]; exact Heap.get?_push_of_some _ e
 have k:∀ b u,sD.heap.get? b=some u->h₁.get? b=some u:=λ b u e=>hsb₁.extBut b u (Nat.ne_of_lt (Heap.lt_size e)) (Heap.get?_push_of_some _ e)
 have f3:∀ b ∈ fp,FpOk X pins (upd H2 p0 (.lst [])) b /\ b < sD.heap.objs.size:=λ b hb=>by
  obtain ⟨o,ho,_⟩:=T.obj 0 _ st2 b hb
  have hlt:b < p0:=by rw [<- hp0]; exact Heap.lt_size ho
  refine ⟨⟨?_,(f2 b hb).2⟩,Nat.lt_trans hlt hsz⟩
  rw [xg0 (Nat.ne_of_lt hlt)]; exact (f2 b hb).1
 obtain ⟨W,⟨m0,w0⟩,turn⟩:=hW p0 hD
 have I4:=yp2 (tk:=s2.toks + ([]:List (Str × Value)).length) hc S I3 f3 hns₁ k
 have st4:tn 0 h₁:=T.keep 0 _ _ st2 λ b _ o e=>k b o (up b o e)
 rw [es]
 generalize hX':yi0 X NN scope cl sD.heap.objs.size fp sD (upd H2 p0 (.lst [])) (X.pn ++ pins)=X' at I4
 have a1:X'.env=compEnvC scope cl sD.heap.objs.size X.env:=by rw [<- hX']
 have a2:X'.prog=X.prog:=by rw [<- hX']
 have a3:X'.w=X.w:=by rw [<- hX']
 have a4:X'.A=X.A:=by rw [<- hX']
 have a5:X'.K=X.K:=by rw [<- hX']
 have a6:X'.calm=true:=by rw [<- hX']; exact hc
 have a7:X'.xe=λ _ _=>False:=by rw [<- hX']
 have a8:X'.ex=fp:=by rw [<- hX']
 have T':Turn X'.prog X'.w X'.K target J fp it tn:=by rw [a2,a3,a5]; exact T
 have hg':PG X' target g:=by rw [<- hX']; exact hg _ _ _ _ _
 have ht':PTs X' ifs tc:=by rw [<- hX']; exact ht _ _ _ _ _
 have he':PE X' elt te:=by rw [<- hX']; exact he _ _ _ _ _
 have fin:∀ {σ':L2.St} {H':Hp} {s':Shared},Inv X' [] σ' H' s'->Q (.ref p0) H'->compPost (model X.prog X.w) X.A X.xe use Q' (.ref p0) sD.heap.objs.size (.ok .next) s':=λ {σ' H' s'} I' q=>by
  obtain ⟨m',hn',_⟩:=I'.loc
  rw [a1] at hn'
  have u:Un (frs X.stack) fp (upd H2 p0 (.lst [])) H' sD.heap s'.heap:=by
   have:=I'.base
   rw [<- hX'] at this
   exact this
  have hch:∀ b ∈ fp,(b ∈ X.ex \/ X.s₀.heap.objs.size<=b) /\ b ≠ X.env.locals /\ (∀ x c,X.env.cells.lookup x=some c->c ≠ b) /\ ∀ p ∈ X.pn ++ pins,p.1 ≠ b:=λ b hb=>by
   obtain ⟨_,z1,_,z3,z4,z5⟩:=(f3 b hb).1
   exact ⟨z3,z1,z4,z5⟩
  have os':s'.os=sD.os:=by
   have:=I'.os
   rw [<- hX'] at this
   exact this
  have hok':HOk X.prog X.w H' s'.heap:=by
   have:=I'.hok
   rw [<- hX'] at this
   exact this
  have I5:Inv X pins σ H' s':=I3.call' os' u hok' I'.bare hch
  have hC:H' sD.heap.objs.size=none:=by
   have:=I'.free
   rw [a1] at this
   exact this
  refine hu p0 _ H' s' m' I5 hn' hC (Nat.ne_of_gt I3.lt) I3.sz (λ x c e=>?_) (λ p hp=>?_) q
  ·obtain ⟨v,o,ho,_⟩:=I3.cell x c e
   exact Nat.ne_of_lt (Heap.lt_size ho)
  ·exact Nat.ne_of_lt (Heap.lt_size (I3.pin p hp).1)
 have fp4:∀ {H':Hp},(∀ b ∈ fp,H' b=none)->∀ b ∈ fp,FpOk X' [] H' b:=λ hn b hb=>by
  obtain ⟨_,z1,z2,z3,z4,z5⟩:=(f3 b hb).1
  rw [<- hX']
  refine ⟨hn b hb,Nat.ne_of_lt (f3 b hb).2,λ z=>?_,.inl hb,λ x c e=>z4 x c (S.sub x c e),λ p hp=>z5 p (by simpa using hp)⟩
  rcases List.mem_cons.mp (I3.stkSub _ z) with z | z
  ·exact z1 z
  ·exact z2 z
 have loop:∀ s₃:Shared,Inv X' [] (yh1 js σ) (upd H2 p0 (.lst [])) s₃->tn 0 s₃.heap ->
     codeAny (model X.prog X.w) X.A (.compLoop (.ListComp elt [⟨target,iter,ifs,0⟩] scope pos) 0 (.ref it) (.ref p0) (compEnvC scope cl sD.heap.objs.size X.env)) (compPost (model X.prog X.w) X.A X.xe use Q' (.ref p0) sD.heap.objs.size) s₃:=by
  intro s₃ I₃ st₃
  refine codeAny_loop rfl (λ n s'=>∃ i σ' H',Inv X' [] σ' H' s' /\ tn i s'.heap /\ (∀ b ∈ fp,H' b=none) /\ W i n σ' H') (λ n s' hI=>?_) m0 ⟨0,yh1 js σ,_,I₃,st₃,λ b hb=>(f3 b hb).1.1,w0⟩
  obtain ⟨i,σ3,H3,J3,st3,fr3,w3⟩:=hI
  have tr:=turn i n σ3 H3 w3
  show wpAny _ X.A ((compTurn (.ListComp elt [⟨target,iter,ifs,0⟩] scope pos) 0 (.ref it) (.ref p0) (compEnvC scope cl sD.heap.objs.size X.env)).onRaise (λ x=>do noteFrame x (compEnvC scope cl sD.heap.objs.size X.env); theTreesLotGoes x)) _ _ s'
  refine wpAny_noted ?_
  rw [compTurn_list,<- a1,<- a2,<- a3,<- a4]
  have nof:∀ {α:Type} {t:Sem α} {Q':α->Shared->Prop} {s'':Shared} {E:Value->Shared->Prop},wpAny (model X'.prog X'.w) X'.A t Q' X'.xe s''->wpAny (model X'.prog X'.w) X'.A t Q' E s'':=λ h=>wpAny_mono h (λ _ _ q=>q) λ _ _ z=>by rw [a7] at z; exact z.elim
  rcases tr with ⟨stop,qn⟩ | ⟨go,step⟩
  ·refine wpAny_bind (wpAny_standAt (wpAny_bind (nof (thn (T'.done X' rfl rfl rfl a6 i [] s' σ3 H3 X'.xe J3 (fp4 fr3) st3 stop) λ r s4 ⟨hr,J4⟩=>?_))))
   subst hr
   refine wpAny_pure ?_
   show compPost (model X'.prog X'.w) X'.A X.xe use Q' (.ref p0) sD.heap.objs.size (.ok .next) s4
   rw [a2,a3,a4]
   exact fin J4 qn
  ·refine wpAny_bind (wpAny_standAt (wpAny_bind (nof (thn (T'.item X' rfl rfl rfl a6 i [] s' σ3 H3 X'.xe J3 (fp4 fr3) st3 go) λ r s4 ⟨u,hr,h4⟩=>?_))))
   subst hr
   refine wpAny_bind (nof (thn h4 λ _ s5 ⟨x,H5,I5,r5,y5,st5,fr5⟩=>?_))
   have I5':=I5.pinned (fp4 fr5) (T.obj _ _ st5)
   refine wpAny_bind (nof (thn (hg' _ s5 σ3 H5 x u _ I5' r5 (step x H5 y5)) λ _ s6 ⟨σ6,H6,I6,q6⟩=>?_))
   refine wpAny_bind (nof (thn (ht' _ s6 σ6 H6 _ I6 q6) λ ok s7 ⟨H7,I7,q7⟩=>?_))
   have again:∀ {s8:Shared} {σ8:L2.St} {H8:Hp},Inv X' ([] ++ xw1 fp s5.heap) σ8 H8 s8->(∃ m',m' < n /\ W (i + 1) m' σ8 H8)->∃ m,m < n /\ ∃ i σ' H',Inv X' [] σ' H' s8 /\ tn i s8.heap /\ (∀ b ∈ fp,H' b=none) /\ W i m σ' H':=λ {s8 σ8 H8} I8 ⟨m',hm,w8⟩=>by
    refine ⟨m',hm,i + 1,σ8,H8,I8.unpinned,T.keep _ _ _ st5 λ b hb o e=>(I8.pin (b,o) (List.mem_append_right _ (List.mem_append_right _ (yp0 hb e)))).1,λ b hb=>?_,w8⟩
    obtain ⟨o,e,d⟩:=T.obj _ _ st5 b hb
    exact (I8.pin (b,o) (List.mem_append_right _ (List.mem_append_right _ (yp0 hb e)))).2.1
   cases ok with
   | false=>exact wpAny_pure ⟨rfl,again I7 q7⟩
   | true =>
    refine wpAny_bind (wpAny_bind (nof (thn (he' _ s7 σ6 H7 _ I7 q7) λ xv s8 ⟨y,H8,I8,r8,ys,q8,hlen,q9⟩=>wpAny_bind (nof ?_))))
    refine thn (yn1 (X:=X') _ s8 σ6 H8 (.ref p0) [y] (.ref p0) [xv] (λ v H9=>v=.non /\ H9=upd H8 p0 (.lst (ys ++ [y]))) I8 rfl (.cons r8 .nil) ⟨p0,ys,y,rfl,rfl,q8,hlen,rfl,rfl⟩) λ rv s9 ⟨v9,H9,I9,_,_,e9⟩=>?_
    subst e9
    exact wpAny_pure (wpAny_pure ⟨rfl,again I9 q9⟩)
 exact codeAny_compStart_list (loop _ I4 st4) (T.self X.A 0 _ _ _ st4 (loop _ I4 st4))
theorem xo6 {i:Nat} {x:Str} {px apos:Pos} {elt target iter:Expr} {ifs:List Expr} {pos:Pos} {wi:TI} {g:TG} {tc:TT} {te:TE} (hN:X.N.Nodup) (hi':X.N[i]?=some x) (hl:X.env.scope.names.lookup x=some .local) (hc:X.calm=true) (S:CompSc X NN scope cl js) (hi:PI X target iter wi)
    (hg:∀ C fp s₀ H₀ pn,PG (yi0 X NN scope cl C fp s₀ H₀ pn) target g) (ht:∀ C fp s₀ H₀ pn,PTs (yi0 X NN scope cl C fp s₀ H₀ pn) ifs tc) (he:∀ C fp s₀ H₀ pn,PE (yi0 X NN scope cl C fp s₀ H₀ pn) elt te)
    (hs:∀ x,foldedSetIterable iter X.env x=pure x) (hw:swapsWith (.ListComp elt [⟨target,iter,ifs,0⟩] scope pos) (some (.Name x px)) apos.line X.env=pure true) :
    PS X (.Assign [.Name x px] (.ListComp elt [⟨target,iter,ifs,0⟩] scope pos) apos) (tAsg (wu3 js wi g tc te) (zx6 i)):=by
 intro pins s σ H D I h
 rw [exec_Assign_Name_used _ _ _ _ hw]
 refine wpAny_bind (wpAny_standAt (wpAny_bind ?_))
 show wpAny _ _ (comprehension (.ListComp elt [⟨target,iter,ifs,0⟩] scope pos) scope X.env (firstIterPos [⟨target,iter,ifs,0⟩] pos) (newList []) (firstAsync [⟨target,iter,ifs,0⟩]) (firstIter [⟨target,iter,ifs,0⟩] X.env) (some (assign (.Name x px) X.env)) >>= λ _=>pure ()) _ _ s
 refine wpAny_bind (wpAny_mono (xa7 (use:=some (assign (.Name x px) X.env)) (Q':=λ _ s'=>SP X pins D .next s') hc S hi hg ht he hs I h λ p0 C H' s' m' I5 hn hC n1 n2 n3 n4 q=>?_) (λ _ s' hq=>wpAny_pure (wpAny_pure hq)) λ _ _ e=>e)
 show wpAny _ _ (assign (.Name x px) X.env (.ref p0)) _ _ s'
 refine wpAny_assign_Name (zi2 I5 hN hi' (.inl hl) (v:=.ref p0) rfl (λ s2 I6 ⟨b,sb,hb⟩=>?_) (.inr hl))
 have nb:C ≠ b:=by
  rcases hb with hb | hb
  ·rw [hb]; exact n1
  ·exact Ne.symm (n3 x b hb)
 exact ⟨m',hn.sameBut sb nb,λ h' sb'=>⟨_,H',I6.turned (t':=s2.toks) (λ b o hb e=>sb'.extBut b o hb e) hC n1 (.inr n2) n3 n4,q⟩⟩
end
section
variable {X:Cx} {elt target iter:Expr} {ifs:List Expr} {pos:Pos} {ti:TI3} {g:TG3} {tc:TT3} {te:TE3} {NN:List Str} {scope:Scope} {cl:List (Str × Addr)} {js:List (Option Nat)}
theorem xc5 {i:Nat} {x:Str} {px apos:Pos} (hN:X.N.Nodup) (hc:X.calm=true) (S:CompSc X NN scope cl js) (hi:RI X target iter ti) (hg:∀ C fp s₀ H₀ pn,RG (yi0 X NN scope cl C fp s₀ H₀ pn) target g)
    (ht:∀ C fp s₀ H₀ pn,RTs (yi0 X NN scope cl C fp s₀ H₀ pn) ifs tc) (he:∀ C fp s₀ H₀ pn,RE (yi0 X NN scope cl C fp s₀ H₀ pn) elt te)
    (hs:∀ x,foldedSetIterable iter X.env x=pure x) (hi':X.N[i]?=some x:=by rfl) (hl:X.env.scope.names.lookup x=some .local:=by rfl)
    (hw:swapsWith (.ListComp elt [⟨target,iter,ifs,0⟩] scope pos) (some (.Name x px)) apos.line X.env=pure true:=by rfl):RS X (.Assign [.Name x px] (.ListComp elt [⟨target,iter,ifs,0⟩] scope pos) apos) (set3 i (wq1 js ti g tc te)):=by
 obtain ⟨wi,pi,ri⟩:=hi
 let gU:TG:=λ v σ H Q=>∀ (r:TG3),r=g->∃ d ρ μ Q3,RSt X.K H ρ σ /\ RelM X.K μ H /\ RelD X.K H d v /\ g d ρ μ Q3 /\ (∀ ρ' μ' σ' H',Q3 ρ' μ'->Kp H H'->RSt X.K H' ρ' σ'->RelM X.K μ' H'->Q σ' H')
 let tU:TT:=λ σ H Q=>∃ ρ μ Q3,RSt X.K H ρ σ /\ RelM X.K μ H /\ tc ρ μ Q3 /\ (∀ b μ' H',Q3 b μ'->Kp H H'->RelM X.K μ' H'->Q b H')
 let eU:TE:=λ σ H Q=>∃ ρ μ Q3,RSt X.K H ρ σ /\ RelM X.K μ H /\ te ρ μ Q3 /\ Ks X.K H Q3 Q
 have hg':∀ C fp s₀ H₀ pn,PG (yi0 X NN scope cl C fp s₀ H₀ pn) target gU:=λ C fp s₀ H₀ pn=>by
  obtain ⟨tv,p,r⟩:=hg C fp s₀ H₀ pn
  intro pins s σ H v u Q I rv h
  obtain ⟨d,ρ,μ,Q3,a1,a2,a3,a4,a5⟩:=h g rfl
  exact p pins s σ H v u Q I rv (r v d σ H Q ρ μ Q3 a1 a2 a3 a4 a5)
 have ht':∀ C fp s₀ H₀ pn,PTs (yi0 X NN scope cl C fp s₀ H₀ pn) ifs tU:=λ C fp s₀ H₀ pn=>by
  obtain ⟨tv,p,r⟩:=ht C fp s₀ H₀ pn
  intro pins s σ H Q I h
  obtain ⟨ρ,μ,Q3,a1,a2,a3,a4⟩:=h
  exact p pins s σ H Q I (r σ H Q ρ μ Q3 a1 a2 a3 a4)
 have he':∀ C fp s₀ H₀ pn,PE (yi0 X NN scope cl C fp s₀ H₀ pn) elt eU:=λ C fp s₀ H₀ pn=>by
  obtain ⟨tv,p,r⟩:=he C fp s₀ H₀ pn
  intro pins s σ H Q I h
  obtain ⟨ρ,μ,Q3,a1,a2,a3,a4⟩:=h
  exact p pins s σ H Q I (r σ H Q ρ μ Q3 a1 a2 a3 a4)
 have rd:RdE X.K (wu3 js wi gU tU eU) (wq1 js ti g tc te):=RdE.comp ri (λ v d σ H Q ρ μ Q3 a1 a2 a3 a4 a5 _ _=>⟨d,ρ,μ,Q3,a1,a2,a3,a4,a5⟩) (λ σ H Q ρ μ Q3 a1 a2 a3 a4=>⟨ρ,μ,Q3,a1,a2,a3,a4⟩) (λ σ H Q ρ μ Q3 a1 a2 a3 a4=>⟨ρ,μ,Q3,a1,a2,a3,a4⟩)
 exact ⟨_,xo6 hN hi' hl hc S pi hg' ht' he' hs hw,λ σ H D ρ μ D3 s m h k=>rd σ H _ ρ μ _ s m h λ d μ1 v H1 h1 k1 r1 m1=>k.nx _ _ _ _ h1 k1 ((s.mono k1).set i r1) m1⟩
end
end Pv
namespace Mw
noncomputable abbrev Pen:=Int × Int × Int
noncomputable def cs (h:Int):Int:=if h=0 then 1 else if h=2 then -1 else 0
noncomputable def sn (h:Int):Int:=if h=1 then 1 else if h=3 then -1 else 0
noncomputable def led (p q:Pen):Pen:=(p.1 + q.1 * cs p.2.2 - q.2.1 * sn p.2.2,p.2.1 + q.1 * sn p.2.2 + q.2.1 * cs p.2.2,(p.2.2 + q.2.2) % 4)
noncomputable def st:Pen:=(0,0,0)
noncomputable def Hd (p:Pen):Prop:=p.2.2=0 \/ p.2.2=1 \/ p.2.2=2 \/ p.2.2=3
theorem xp1:Hd st:=.inl rfl
theorem ys0 (p q:Pen):Hd (led p q):=by
 unfold Hd led
 have h1:=Int.emod_nonneg (p.2.2 + q.2.2) (show (4:Int) ≠ 0 by decide)
 have h2:=Int.emod_lt_of_pos (p.2.2 + q.2.2) (show (0:Int) < 4 by decide)
 dsimp only
 omega
theorem ze1 {p:Pen} (h:Hd p):led p st=p:=by
 obtain ⟨x,y,k⟩:=p
 unfold Hd at h
 dsimp only at h
 rcases h with rfl | rfl | rfl | rfl <;> simp [led,st,cs,sn]
theorem yv3 {p:Pen} (h:Hd p):led st p=p:=by
 obtain ⟨x,y,k⟩:=p
 unfold Hd at h
 dsimp only at h
 rcases h with rfl | rfl | rfl | rfl <;> simp [led,st,cs,sn]
theorem yt8 {a b:Int} (h:a=0 \/ a=1 \/ a=2 \/ a=3) (h':b=0 \/ b=1 \/ b=2 \/ b=3):cs ((a + b) % 4)=cs a * cs b - sn a * sn b:=by
 rcases h with rfl | rfl | rfl | rfl <;> rcases h' with rfl | rfl | rfl | rfl <;> rfl
theorem zl7 {a b:Int} (h:a=0 \/ a=1 \/ a=2 \/ a=3) (h':b=0 \/ b=1 \/ b=2 \/ b=3):sn ((a + b) % 4)=sn a * cs b + cs a * sn b:=by
 rcases h with rfl | rfl | rfl | rfl <;> rcases h' with rfl | rfl | rfl | rfl <;> rfl
theorem we1 {p q:Pen} (r:Pen) (h:Hd p) (h':Hd q):led (led p q) r=led p (led q r):=by
 have e1:=yt8 h h'
 have e2:=zl7 h h'
 have e3:∀ a b c:Int,((a + b) % 4 + c) % 4=(a + (b + c) % 4) % 4:=λ a b c=>by rw [Int.emod_add_emod,Int.add_emod_emod,Int.add_assoc]
 refine Prod.ext ?_ (Prod.ext ?_ (e3 _ _ _))
 ·show p.1 + q.1 * cs p.2.2 - q.2.1 * sn p.2.2 + r.1 * cs ((p.2.2 + q.2.2) % 4) - r.2.1 * sn ((p.2.2 + q.2.2) % 4)=p.1 + (q.1 + r.1 * cs q.2.2 - r.2.1 * sn q.2.2) * cs p.2.2 - (q.2.1 + r.1 * sn q.2.2 + r.2.1 * cs q.2.2) * sn p.2.2
  rw [e1,e2]
  grind
 ·show p.2.1 + q.1 * sn p.2.2 + q.2.1 * cs p.2.2 + r.1 * sn ((p.2.2 + q.2.2) % 4) + r.2.1 * cs ((p.2.2 + q.2.2) % 4)=p.2.1 + (q.1 + r.1 * cs q.2.2 - r.2.1 * sn q.2.2) * sn p.2.2 + (q.2.1 + r.1 * sn q.2.2 + r.2.1 * cs q.2.2) * cs p.2.2
  rw [e1,e2]
  grind
noncomputable def pw (p:Pen):Nat->Pen
 | 0=>st
 | n + 1=>led (pw p n) p
theorem xd2 (p:Pen):∀ n,Hd (pw p n)
 | 0=>xp1
 | n + 1=>ys0 _ _
theorem xf4 {p:Pen} (h:Hd p) (m:Nat):∀ n,pw p (m + n)=led (pw p m) (pw p n)
 | 0=>(ze1 (xd2 p m)).symm
 | n + 1=>by
  show led (pw p (m + n)) p=led (pw p m) (led (pw p n) p)
  rw [xf4 h m n,we1 p (xd2 p m) (xd2 p n)]
theorem xu5 {p:Pen} (h:Hd p) (m:Nat):∀ n,pw p (m * n)=pw (pw p m) n
 | 0=>rfl
 | n + 1=>by
  rw [Nat.mul_succ,xf4 h,xu5 h m n]
  rfl
theorem zm6 {p:Pen} (h:Hd p) (h0:p.2.2 ≠ 0):pw p 4=st:=by
 obtain ⟨x,y,k⟩:=p
 unfold Hd at h
 dsimp only at h h0
 rcases h with rfl | rfl | rfl | rfl
 ·exact absurd rfl h0
 all_goals (simp [pw,led,st,cs,sn] <;> omega)
theorem zb2 {p:Pen} (h0:p.2.2=0):∀ n:Nat,pw p n=(p.1 * n,p.2.1 * n,0)
 | 0=>by simp [pw,st]
 | n + 1=>by
  show led (pw p n) p=_
  rw [zb2 h0 n]
  obtain ⟨x,y,k⟩:=p
  dsimp only at h0
  subst h0
  simp [led,cs,sn,Int.mul_add]
noncomputable def rep (p:Pen) (n:Int):Pen:=if p.2.2=0 then (p.1 * n,p.2.1 * n,0) else pw p (n % 4).toNat
theorem we4 {p:Pen} (h:Hd p) (h0:p.2.2 ≠ 0) (n:Nat):pw p n=pw p (n % 4):=by
 have e:n=4 * (n / 4) + n % 4:=by omega
 have z:∀ k,pw st k=st:=λ k=>by
  induction k with
  | zero=>rfl
  | succ k ih=>show led (pw st k) st=st; rw [ih]; exact ze1 xp1
 conv=>lhs; rw [e]
 rw [xf4 h,xu5 h,zm6 h h0,z,yv3 (xd2 _ _)]
theorem yk2 {p:Pen} (h:Hd p) {n:Int} (hn:0<=n):rep p n=pw p n.toNat:=by
 unfold rep
 by_cases h0:p.2.2=0
 ·rw [if_pos h0,zb2 h0,Int.toNat_of_nonneg hn]
 ·rw [if_neg h0,we4 h h0 n.toNat]
  congr 1
  omega
theorem ww5 {p:Pen} (h:Hd p) {n:Int} (hn:0<=n):Hd (rep p n):=by rw [yk2 h hn]; exact xd2 _ _
inductive Dd where
 | go (n:Int) | jump (n:Int) | turn (n:Int) | times (n:Int) (w:List Dd)
mutual
noncomputable def cnt:Dd->Nat
 | .times _ w=>1 + cnts w
 | _=>1
noncomputable def cnts:List Dd->Nat
 | []=>0
 | d :: r=>cnt d + cnts r
end
mutual
noncomputable def dep:Dd->Nat
 | .times _ w=>1 + deps w
 | _=>0
noncomputable def deps:List Dd->Nat
 | []=>0
 | d :: r=>max (dep d) (deps r)
end
noncomputable def G:Int:=99999999999999999999
mutual
noncomputable def okd:Dd->Prop
 | .go n=>0<=n /\ n<=G
 | .jump n=>-G<=n /\ n<=G
 | .turn n=>-G<=n /\ n<=G
 | .times n w=>(0<=n /\ n<=G) /\ oks w
noncomputable def oks:List Dd->Prop
 | []=>True
 | d :: r=>okd d /\ oks r
end
mutual
noncomputable def sk:Dd->Int
 | .go n=>n
 | .times n w=>n * sks w
 | _=>0
noncomputable def sks:List Dd->Int
 | []=>0
 | d :: r=>sk d + sks r
end
mutual
noncomputable def dn:Dd->Int
 | .times n w=>n * dns w
 | _=>1
noncomputable def dns:List Dd->Int
 | []=>0
 | d :: r=>dn d + dns r
end
mutual
noncomputable def pd:Dd->Pen
 | .go n=>(n,0,0)
 | .jump n=>(n,0,0)
 | .turn n=>(0,0,n % 4)
 | .times n w=>rep (pb w) n
noncomputable def pb:List Dd->Pen
 | []=>st
 | d :: r=>led (pd d) (pb r)
end
theorem yq1:∀ a b,deps (a ++ b)=max (deps a) (deps b)
 | [],b=>by simp [deps]
 | d :: r,b=>by simp only [List.cons_append,deps,yq1 r b,Nat.max_assoc]
theorem xp0:∀ a b,oks (a ++ b) ↔ oks a /\ oks b
 | [],b=>by simp [oks]
 | d :: r,b=>by simp only [List.cons_append,oks,xp0 r b,and_assoc]
theorem yo1:∀ a,a.length<=cnts a
 | []=>Nat.le_refl _
 | d :: r=>by
  have h:=yo1 r
  have h1:1<=cnt d:=by cases d <;> simp only [cnt] <;> omega
  simp only [List.length_cons,cnts]
  omega
mutual
theorem yp1:∀ d,okd d->Hd (pd d)
 | .go n,_=>.inl rfl
 | .jump n,_=>.inl rfl
 | .turn n,_=>by
  unfold Hd pd
  have h1:=Int.emod_nonneg n (show (4:Int) ≠ 0 by decide)
  have h2:=Int.emod_lt_of_pos n (show (0:Int) < 4 by decide)
  dsimp only
  omega
 | .times n w,h=>by
  simp only [pd]
  simp only [okd] at h
  exact ww5 (xu0 w) h.1.1
theorem xu0:∀ w,Hd (pb w)
 | []=>by simp only [pb]; exact xp1
 | d :: r=>by simp only [pb]; exact ys0 _ _
end
theorem xe1:∀ a b,oks a->pb (a ++ b)=led (pb a) (pb b)
 | [],b,_=>by simp only [List.nil_append,pb]; exact (yv3 (xu0 b)).symm
 | d :: r,b,h=>by
  simp only [oks] at h
  simp only [List.cons_append,pb]
  rw [xe1 r b h.2,we1 _ (yp1 d h.1) (xu0 r)]
theorem zw8:(0:Int) < G:=by decide
theorem ww4 (e:Nat):(0:Int)<=G ^ e:=Int.pow_nonneg (Int.le_of_lt zw8)
theorem zf7 (e:Nat):G ^ e<=G ^ (e + 1):=by
 rw [Int.pow_succ]
 have h:=ww4 e
 have h1:(1:Int)<=G:=by decide
 calc G ^ e=G ^ e * 1:=(Int.mul_one _).symm
  _<=G ^ e * G:=Int.mul_le_mul_of_nonneg_left h1 h
theorem zg2 {a b:Nat} (h:a<=b):G ^ a<=G ^ b:=by
 induction b with
 | zero =>
  have:a=0:=by omega
  subst this; exact Int.le_refl _
 | succ b ih =>
  by_cases hab:a=b + 1
  ·subst hab; exact Int.le_refl _
  ·exact Int.le_trans (ih (by omega)) (zf7 b)
noncomputable def bd (c e:Nat):Int:=(c:Int) * G ^ (e + 1)
theorem wv8 {c c' e e':Nat}:bd c e + bd c' e'<=bd (c + c') (max e e'):=by
 unfold bd
 have h1:(c:Int) * G ^ (e + 1)<=(c:Int) * G ^ (max e e' + 1):=Int.mul_le_mul_of_nonneg_left (zg2 (by omega)) (by omega)
 have h2:(c':Int) * G ^ (e' + 1)<=(c':Int) * G ^ (max e e' + 1):=Int.mul_le_mul_of_nonneg_left (zg2 (by omega)) (by omega)
 have e3:((c + c':Nat):Int) * G ^ (max e e' + 1)=(c:Int) * G ^ (max e e' + 1) + (c':Int) * G ^ (max e e' + 1):=by
  rw [Int.natCast_add,Int.add_mul]
 omega
theorem zo5 {c e:Nat} {n x:Int} (hn:0<=n) (hn':n<=G) (hx:0<=x) (h:x<=bd c e):n * x<=bd (1 + c) (1 + e):=by
 have h1:n * x<=G * x:=Int.mul_le_mul_of_nonneg_right hn' hx
 have h2:G * x<=G * bd c e:=Int.mul_le_mul_of_nonneg_left h (Int.le_of_lt zw8)
 have h3:G * bd c e=(c:Int) * G ^ (1 + e + 1):=by
  unfold bd
  rw [Int.mul_left_comm,show 1 + e + 1=(e + 1) + 1 by omega,Int.pow_succ G (e + 1),Int.mul_comm G]
 have h4:(c:Int) * G ^ (1 + e + 1)<=((1 + c:Nat):Int) * G ^ (1 + e + 1):=Int.mul_le_mul_of_nonneg_right (by omega) (ww4 _)
 unfold bd
 omega
theorem zv4 {c e:Nat} (h:1<=c):G<=bd c e:=by
 unfold bd
 have h1:(1:Int) * G ^ 1<=(c:Int) * G ^ (e + 1):=Int.le_trans (Int.mul_le_mul_of_nonneg_right (by omega) (ww4 1)) (Int.mul_le_mul_of_nonneg_left (zg2 (by omega)) (by omega))
 have h2:(1:Int) * G ^ 1=G:=by rw [Int.one_mul,Int.pow_succ,Int.pow_zero,Int.one_mul]
 omega
theorem xb7 (c e:Nat):0<=bd c e:=Int.mul_nonneg (by omega) (ww4 _)
mutual
theorem yb9:∀ d,okd d->0<=sk d /\ sk d<=bd (cnt d) (dep d)
 | .go n,h=>by
  simp only [okd] at h
  simp only [sk,cnt,dep]
  have:=zv4 (c:=1) (e:=0) (Nat.le_refl _)
  omega
 | .jump n,h=>by simp only [sk,cnt,dep]; exact ⟨Int.le_refl _,xb7 _ _⟩
 | .turn n,h=>by simp only [sk,cnt,dep]; exact ⟨Int.le_refl _,xb7 _ _⟩
 | .times n w,h=>by
  simp only [okd] at h
  simp only [sk,cnt,dep]
  obtain ⟨a,b⟩:=zz3 w h.2
  exact ⟨Int.mul_nonneg h.1.1 a,zo5 h.1.1 h.1.2 a b⟩
theorem zz3:∀ w,oks w->0<=sks w /\ sks w<=bd (cnts w) (deps w)
 | [],h=>by simp only [sks,cnts,deps]; exact ⟨Int.le_refl _,xb7 _ _⟩
 | d :: r,h=>by
  simp only [oks] at h
  simp only [sks,cnts,deps]
  obtain ⟨a,b⟩:=yb9 d h.1
  obtain ⟨a',b'⟩:=zz3 r h.2
  have:=wv8 (c:=cnt d) (c':=cnts r) (e:=dep d) (e':=deps r)
  omega
end
theorem yb7 {c c' e e':Nat} (hc:c<=c') (he:e<=e'):bd c e<=bd c' e' :=
 Int.le_trans (Int.mul_le_mul_of_nonneg_right (by omega) (ww4 _)) (Int.mul_le_mul_of_nonneg_left (zg2 (by omega)) (by omega))
theorem zv8:bd 100 10 < 2 ^ 1000:=by decide +kernel
theorem xu2 {x:Int} {c e:Nat} (h0:0<=x) (h:x<=bd c e) (hc:c<=100) (he:e<=10):x.natAbs < 2 ^ 1000:=by
 have h1:=Int.le_trans h (yb7 hc he)
 have h2:=zv8
 have h3:((x.natAbs:Nat):Int) < ((2 ^ 1000:Nat):Int):=by
  rw [Int.natAbs_of_nonneg h0]
  exact Int.lt_of_le_of_lt h1 (by rw [Int.natCast_pow]; exact h2)
 exact Int.ofNat_lt.mp h3
end Mw
namespace Mw
noncomputable def ab (x:Int):Int:=if x < 0 then -x else x
noncomputable def pm (p:Pen):Int:=max (ab p.1) (ab p.2.1)
theorem zs1 {p:Pen} {b:Int}:pm p<=b ↔ (-b<=p.1 /\ p.1<=b) /\ (-b<=p.2.1 /\ p.2.1<=b):=by
 unfold pm ab
 split <;> split <;> omega
theorem wj9 (p:Pen):0<=pm p:=by unfold pm ab; split <;> split <;> omega
theorem wf4 {p q:Pen} (h:Hd p) {a b:Int} (ha:pm p<=a) (hb:pm q<=b):pm (led p q)<=a + b:=by
 rw [zs1] at ha hb ⊢
 obtain ⟨x,y,k⟩:=p
 obtain ⟨x',y',k'⟩:=q
 unfold Hd at h
 dsimp only at h ha hb
 rcases h with rfl | rfl | rfl | rfl <;> simp [led,cs,sn] <;> omega
theorem xp6 {p:Pen} {b:Int} (hb:pm p<=b):∀ n:Nat,pm (pw p n)<=n * b
 | 0=>by simp [pw,st,pm,ab]
 | n + 1=>by
  have:=wf4 (xd2 p n) (xp6 hb n) hb
  show pm (led (pw p n) p)<=_
  rw [Int.natCast_add,Int.add_mul]
  omega
theorem zg8 {p:Pen} (h:Hd p) {n b:Int} (hn:0<=n) (hb:pm p<=b):pm (rep p n)<=(n + 3) * b:=by
 have h0:=Int.le_trans (wj9 p) hb
 unfold rep
 split
 ·rw [zs1] at hb ⊢
  dsimp only
  have e:(n + 3) * b=n * b + 3 * b:=Int.add_mul ..
  have a1:p.1 * n<=b * n:=Int.mul_le_mul_of_nonneg_right hb.1.2 hn
  have a2 : -b * n<=p.1 * n:=Int.mul_le_mul_of_nonneg_right hb.1.1 hn
  have a3:p.2.1 * n<=b * n:=Int.mul_le_mul_of_nonneg_right hb.2.2 hn
  have a4 : -b * n<=p.2.1 * n:=Int.mul_le_mul_of_nonneg_right hb.2.1 hn
  have e2:b * n=n * b:=Int.mul_comm ..
  have e3 : -b * n = -(b * n):=Int.neg_mul ..
  omega
 ·have h1:=xp6 hb (n % 4).toNat
  have h2:(((n % 4).toNat:Nat):Int) * b<=(n + 3) * b:=Int.mul_le_mul_of_nonneg_right (by omega) h0
  omega
noncomputable def G2:Int:=200000000000000000000
noncomputable def pbd (c e:Nat):Int:=(c:Int) * G2 ^ (e + 1)
theorem xx4 (e:Nat):(0:Int)<=G2 ^ e:=Int.pow_nonneg (by decide)
theorem wr5 {a b:Nat} (h:a<=b):G2 ^ a<=G2 ^ b:=by
 induction b with
 | zero =>
  have:a=0:=by omega
  subst this; exact Int.le_refl _
 | succ b ih =>
  by_cases hab:a=b + 1
  ·subst hab; exact Int.le_refl _
  ·refine Int.le_trans (ih (by omega)) ?_
   rw [Int.pow_succ]
   calc G2 ^ b=G2 ^ b * 1:=(Int.mul_one _).symm
    _<=G2 ^ b * G2:=Int.mul_le_mul_of_nonneg_left (by decide) (xx4 b)
theorem yi4 (c e:Nat):0<=pbd c e:=Int.mul_nonneg (by omega) (xx4 _)
theorem yj1 {c c' e e':Nat} (hc:c<=c') (he:e<=e'):pbd c e<=pbd c' e' :=
 Int.le_trans (Int.mul_le_mul_of_nonneg_right (by omega) (xx4 _)) (Int.mul_le_mul_of_nonneg_left (wr5 (by omega)) (by omega))
theorem zs6 {c c' e e':Nat}:pbd c e + pbd c' e'<=pbd (c + c') (max e e'):=by
 have h1:pbd c e<=pbd c (max e e'):=yj1 (Nat.le_refl _) (by omega)
 have h2:pbd c' e'<=pbd c' (max e e'):=yj1 (Nat.le_refl _) (by omega)
 have e3:pbd (c + c') (max e e')=pbd c (max e e') + pbd c' (max e e'):=by
  unfold pbd
  rw [Int.natCast_add,Int.add_mul]
 omega
theorem xi4:G<=pbd 1 0:=by decide
mutual
theorem zj9:∀ d,okd d->pm (pd d)<=pbd (cnt d) (dep d)
 | .go n,h=>by
  simp only [okd] at h
  simp only [pd,cnt,dep]
  have:=xi4
  rw [zs1]; dsimp only; omega
 | .jump n,h=>by
  simp only [okd] at h
  simp only [pd,cnt,dep]
  have:=xi4
  rw [zs1]; dsimp only; omega
 | .turn n,h=>by
  simp only [pd,cnt,dep]
  have:=yi4 1 0
  rw [zs1]; dsimp only; omega
 | .times n w,h=>by
  simp only [okd] at h
  simp only [pd,cnt,dep]
  have h1:=zg8 (xu0 w) h.1.1 (xg4 w h.2)
  have h2:(n + 3) * pbd (cnts w) (deps w)<=G2 * pbd (cnts w) (deps w):=Int.mul_le_mul_of_nonneg_right (by have:=h.1.2; unfold G at this; unfold G2; omega) (yi4 _ _)
  have h3:G2 * pbd (cnts w) (deps w)=pbd (cnts w) (1 + deps w):=by
   unfold pbd
   rw [Int.mul_left_comm,show 1 + deps w + 1=(deps w + 1) + 1 by omega,Int.pow_succ G2 (deps w + 1),Int.mul_comm G2]
  have h4:pbd (cnts w) (1 + deps w)<=pbd (1 + cnts w) (1 + deps w):=yj1 (by omega) (Nat.le_refl _)
  omega
theorem xg4:∀ w,oks w->pm (pb w)<=pbd (cnts w) (deps w)
 | [],h=>by simp only [pb,cnts,deps]; exact Int.le_trans (by decide) (yi4 _ _)
 | d :: r,h=>by
  simp only [oks] at h
  simp only [pb,cnts,deps]
  have:=wf4 (yp1 d h.1) (zj9 d h.1) (xg4 r h.2)
  have:=zs6 (c:=cnt d) (c':=cnts r) (e:=dep d) (e':=deps r)
  omega
end
theorem ys6:pbd 100 8 < 2 ^ 1000:=by decide +kernel
theorem yg4 {p:Pen} {c e:Nat} (h:pm p<=pbd c e) (hc:c<=100) (he:e<=8):p.1.natAbs < 2 ^ 1000 /\ p.2.1.natAbs < 2 ^ 1000:=by
 have h1:=Int.le_trans h (yj1 hc he)
 have h2:=ys6
 rw [zs1] at h1
 have key:∀ x:Int,-(pbd 100 8)<=x->x<=pbd 100 8->x.natAbs < 2 ^ 1000:=λ x a b=>by
  have h3:((x.natAbs:Nat):Int) < ((2 ^ 1000:Nat):Int):=by
   have:((x.natAbs:Nat):Int)<=pbd 100 8:=by omega
   exact Int.lt_of_le_of_lt this (by rw [Int.natCast_pow]; exact h2)
  exact Int.ofNat_lt.mp h3
 exact ⟨key _ h1.1.1 h1.1.2,key _ h1.2.1 h1.2.2⟩
end Mw
namespace Mw
noncomputable abbrev Stk:=Int × Int × Int
noncomputable def mvS (p:Pen) (s:Stk):Stk :=
 if p.2.2=0 then (p.1 + s.1,p.2.1 + s.2.1,s.2.2)
 else if p.2.2=1 then (p.1 - s.2.1 - s.2.2,p.2.1 + s.1,1 - s.2.2)
 else if p.2.2=2 then (p.1 - s.1 - (1 - s.2.2),p.2.1 - s.2.1 - s.2.2,s.2.2)
 else (p.1 + s.2.1,p.2.1 - s.1 - (1 - s.2.2),1 - s.2.2)
theorem zm8 (s:Stk):mvS st s=s:=by
 obtain ⟨x,y,w⟩:=s; simp [mvS,st]
theorem zu6 {p q:Pen} (hp:Hd p) (hq:Hd q) (s:Stk):mvS (led p q) s=mvS p (mvS q s):=by
 obtain ⟨px,py,ph⟩:=p
 obtain ⟨qx,qy,qh⟩:=q
 obtain ⟨x,y,w⟩:=s
 unfold Hd at hp hq
 dsimp only at hp hq
 rcases hp with rfl | rfl | rfl | rfl <;> rcases hq with rfl | rfl | rfl | rfl <;>
  simp [mvS,led,cs,sn] <;> omega
noncomputable def tms (l:List Stk) (p:Pen) (n:Nat):List Stk:=(List.range n).flatMap λ k=>l.map (mvS (pw p k))
theorem wy2 (l:List Stk) (p:Pen):tms l p 0=[]:=rfl
theorem xz1 (l:List Stk) (p:Pen) (n:Nat):tms l p (n + 1)=tms l p n ++ l.map (mvS (pw p n)):=by
 unfold tms
 rw [List.range_succ,List.flatMap_append]
 simp
mutual
noncomputable def strk:Dd->List Stk
 | .go n=>(List.range n.toNat).map λ (k:Nat)=>((k:Int),(0:Int),(0:Int))
 | .jump _=>[]
 | .turn _=>[]
 | .times n w=>tms (ze0 w) (pb w) n.toNat
noncomputable def ze0:List Dd->List Stk
 | []=>[]
 | d :: r=>strk d ++ (ze0 r).map (mvS (pd d))
end
theorem wq0 {p q:Pen} (hp:Hd p) (hq:Hd q) (l:List Stk):l.map (mvS (led p q))=(l.map (mvS q)).map (mvS p):=by
 rw [List.map_map]
 apply List.map_congr_left
 intro s _
 exact zu6 hp hq s
theorem xt0 (l:List Stk):l.map (mvS st)=l:=by
 rw [show mvS st=id from funext zm8,List.map_id]
theorem xo0:∀ a b,oks a->ze0 (a ++ b)=ze0 a ++ (ze0 b).map (mvS (pb a))
 | [],b,_=>by simp only [List.nil_append,ze0,pb,xt0]
 | d :: r,b,h=>by
  simp only [oks] at h
  simp only [List.cons_append,ze0,pb,xo0 r b h.2,List.map_append,List.append_assoc]
  rw [wq0 (yp1 d h.1) (xu0 r)]
mutual
noncomputable def ro:Dd->List Dd
 | .times n w=>(List.replicate n.toNat (ros w)).flatten
 | .go n=>[.go n]
 | .jump n=>[.jump n]
 | .turn n=>[.turn n]
noncomputable def ros:List Dd->List Dd
 | []=>[]
 | d :: r=>ro d ++ ros r
end
noncomputable def plain (w:List Dd):Prop:=∀ d ∈ w,∃ n,d=.go n \/ d=.jump n \/ d=.turn n
theorem zx5 {α:Type} {x:α} {w:List α}:∀ {k:Nat},x ∈ (List.replicate k w).flatten->x ∈ w
 | 0,h=>by simp at h
 | k + 1,h=>by
  rw [List.replicate_succ,List.flatten_cons,List.mem_append] at h
  rcases h with h | h
  ·exact h
  ·exact zx5 h
mutual
theorem yc5:∀ d,plain (ro d)
 | .go n=>by intro e h; simp only [ro,List.mem_singleton] at h; exact ⟨n,.inl h⟩
 | .jump n=>by intro e h; simp only [ro,List.mem_singleton] at h; exact ⟨n,.inr (.inl h)⟩
 | .turn n=>by intro e h; simp only [ro,List.mem_singleton] at h; exact ⟨n,.inr (.inr h)⟩
 | .times n w=>by intro e h; simp only [ro] at h; exact zl1 w e (zx5 h)
theorem zl1:∀ w,plain (ros w)
 | []=>by intro e h; simp [ros] at h
 | d :: r=>by
  intro e h
  simp only [ros,List.mem_append] at h
  rcases h with h | h
  ·exact yc5 d e h
  ·exact zl1 r e h
end
theorem yq4 (w:List Dd) (h:oks w):∀ k:Nat,oks (List.replicate k w).flatten /\ pb (List.replicate k w).flatten=pw (pb w) k /\ ze0 (List.replicate k w).flatten=tms (ze0 w) (pb w) k
 | 0=>by simp [oks,pb,pw,ze0,tms]
 | k + 1=>by
  obtain ⟨a1,a2,a3⟩:=yq4 w h k
  have e:(List.replicate (k + 1) w).flatten=(List.replicate k w).flatten ++ w:=by
   rw [List.replicate_succ',List.flatten_append]; simp
  rw [e]
  refine ⟨(xp0 _ _).mpr ⟨a1,h⟩,?_,?_⟩
  ·rw [xe1 _ _ a1,a2]; rfl
  ·rw [xo0 _ _ a1,a2,a3,xz1]
mutual
theorem ze9:∀ d,okd d->oks (ro d) /\ pb (ro d)=pd d /\ ze0 (ro d)=strk d
 | .go n,h=>by
  simp only [ro,oks,pb,ze0,and_true,List.map_nil,List.append_nil]; exact ⟨h,ze1 (yp1 _ h)⟩
 | .jump n,h=>by
  simp only [ro,oks,pb,ze0,and_true,List.map_nil,List.append_nil]; exact ⟨h,ze1 (yp1 _ h)⟩
 | .turn n,h=>by
  simp only [ro,oks,pb,ze0,and_true,List.map_nil,List.append_nil]; exact ⟨h,ze1 (yp1 _ h)⟩
 | .times n w,h=>by
  simp only [okd] at h
  obtain ⟨a1,a2,a3⟩:=zb4 w h.2
  obtain ⟨b1,b2,b3⟩:=yq4 (ros w) a1 n.toNat
  simp only [ro,pd,strk]
  rw [yk2 (xu0 w) h.1.1]
  exact ⟨b1,by rw [b2,a2],by rw [b3,a2,a3]⟩
theorem zb4:∀ w,oks w->oks (ros w) /\ pb (ros w)=pb w /\ ze0 (ros w)=ze0 w
 | [],h=>by simp [ros,oks,ze0]
 | d :: r,h=>by
  simp only [oks] at h
  obtain ⟨a1,a2,a3⟩:=ze9 d h.1
  obtain ⟨b1,b2,b3⟩:=zb4 r h.2
  simp only [ros,pb,ze0]
  refine ⟨(xp0 _ _).mpr ⟨a1,b1⟩,?_,?_⟩
  ·rw [xe1 _ _ a1,a2,b2]
  ·rw [xo0 _ _ a1,a2,a3,b3]
end
noncomputable abbrev Bx:=Int × Int × Int × Int
noncomputable def mn (i j:Int):Int:=if j < i then j else i
noncomputable def mx (i j:Int):Int:=if j > i then j else i
theorem zn1 (i j:Int):mn i j<=i /\ mn i j<=j /\ (mn i j=i \/ mn i j=j):=by unfold mn; split <;> omega
theorem wj4 (i j:Int):i<=mx i j /\ j<=mx i j /\ (mx i j=i \/ mx i j=j):=by unfold mx; split <;> omega
noncomputable def bor:Option Bx->Option Bx->Option Bx
 | none,o=>o
 | some b,none=>some b
 | some a,some b=>some (mn a.1 b.1,mn a.2.1 b.2.1,mx a.2.2.1 b.2.2.1,mx a.2.2.2 b.2.2.2)
noncomputable def bfr (p:Pen):Option Bx->Option Bx
 | none=>none
 | some b=>some (mn (led p (b.1,b.2.1,0)).1 (led p (b.2.2.1,b.2.2.2,0)).1,mn (led p (b.1,b.2.1,0)).2.1 (led p (b.2.2.1,b.2.2.2,0)).2.1,
     mx (led p (b.1,b.2.1,0)).1 (led p (b.2.2.1,b.2.2.2,0)).1,mx (led p (b.1,b.2.1,0)).2.1 (led p (b.2.2.1,b.2.2.2,0)).2.1)
noncomputable def Inb (b:Bx) (s:Stk):Prop:=b.1<=s.1 /\ b.2.1<=s.2.1 /\ s.1 + 1 - s.2.2<=b.2.2.1 /\ s.2.1 + s.2.2<=b.2.2.2
noncomputable def Tight (l:List Stk) (b:Bx):Prop:=(∃ s ∈ l,s.1=b.1) /\ (∃ s ∈ l,s.2.1=b.2.1) /\ (∃ s ∈ l,s.1 + 1 - s.2.2=b.2.2.1) /\ ∃ s ∈ l,s.2.1 + s.2.2=b.2.2.2
noncomputable def IsBox (l:List Stk):Option Bx->Prop
 | none=>l=[]
 | some b=>(∀ s ∈ l,Inb b s) /\ Tight l b
theorem Tight.mono {l m:List Stk} {b:Bx} (h:Tight l b) (e:∀ s ∈ l,s ∈ m):Tight m b:=by
 obtain ⟨⟨s1,h1,e1⟩,⟨s2,h2,e2⟩,⟨s3,h3,e3⟩,⟨s4,h4,e4⟩⟩:=h
 exact ⟨⟨s1,e _ h1,e1⟩,⟨s2,e _ h2,e2⟩,⟨s3,e _ h3,e3⟩,⟨s4,e _ h4,e4⟩⟩
theorem IsBox.congr {l m:List Stk} {o:Option Bx} (h:IsBox l o) (e:∀ s,s ∈ l ↔ s ∈ m):IsBox m o:=by
 cases o with
 | none =>
  have h:l=[]:=h
  subst h
  exact List.eq_nil_iff_forall_not_mem.mpr λ s hs=>by have:=(e s).mpr hs; cases this
 | some b=>exact ⟨λ s hs=>h.1 s ((e s).mpr hs),h.2.mono λ s hs=>(e s).mp hs⟩
theorem IsBox.or {l m:List Stk} {a b:Option Bx} (ha:IsBox l a) (hb:IsBox m b):IsBox (l ++ m) (bor a b):=by
 cases a with
 | none =>
  have e:l=[]:=ha
  subst e
  exact hb
 | some a =>
  cases b with
  | none =>
   have e:m=[]:=hb
   subst e
   rw [List.append_nil]
   exact ha
  | some b =>
   obtain ⟨i1,⟨s1,h1,e1⟩,⟨s2,h2,e2⟩,⟨s3,h3,e3⟩,⟨s4,h4,e4⟩⟩:=ha
   obtain ⟨j1,⟨t1,k1,f1⟩,⟨t2,k2,f2⟩,⟨t3,k3,f3⟩,⟨t4,k4,f4⟩⟩:=hb
   obtain ⟨m1,m2,m3⟩:=zn1 a.1 b.1
   obtain ⟨m4,m5,m6⟩:=zn1 a.2.1 b.2.1
   obtain ⟨m7,m8,m9⟩:=wj4 a.2.2.1 b.2.2.1
   obtain ⟨n1,n2,n3⟩:=wj4 a.2.2.2 b.2.2.2
   refine ⟨λ s hs=>?_,?_,?_,?_,?_⟩
   ·unfold Inb
    dsimp only
    rcases List.mem_append.mp hs with hs | hs
    ·have:=i1 s hs; unfold Inb at this; omega
    ·have:=j1 s hs; unfold Inb at this; omega
   ·rcases m3 with e | e
    ·exact ⟨s1,List.mem_append_left _ h1,by dsimp only; omega⟩
    ·exact ⟨t1,List.mem_append_right _ k1,by dsimp only; omega⟩
   ·rcases m6 with e | e
    ·exact ⟨s2,List.mem_append_left _ h2,by dsimp only; omega⟩
    ·exact ⟨t2,List.mem_append_right _ k2,by dsimp only; omega⟩
   ·rcases m9 with e | e
    ·exact ⟨s3,List.mem_append_left _ h3,by dsimp only; omega⟩
    ·exact ⟨t3,List.mem_append_right _ k3,by dsimp only; omega⟩
   ·rcases n3 with e | e
    ·exact ⟨s4,List.mem_append_left _ h4,by dsimp only; omega⟩
    ·exact ⟨t4,List.mem_append_right _ k4,by dsimp only; omega⟩
noncomputable def wy (s:Stk):Prop:=s.2.2=0 \/ s.2.2=1
noncomputable def wys (l:List Stk):Prop:=∀ s ∈ l,wy s
theorem wf7 (p:Pen) (s:Stk) (h:wy s):wy (mvS p s):=by
 unfold wy mvS at *
 split
 ·exact h
 ·split
  ·dsimp only; omega
  ·split <;> dsimp only <;> omega
theorem zt3 {p:Pen} {l:List Stk} (h:wys l):wys (l.map (mvS p)):=by
 intro s hs
 obtain ⟨t,ht,rfl⟩:=List.mem_map.mp hs
 exact wf7 _ _ (h t ht)
theorem zj3 {l m:List Stk} (h:wys l) (k:wys m):wys (l ++ m):=λ s hs=>(List.mem_append.mp hs).elim (h s) (k s)
theorem zz5 {l:List Stk} {p:Pen} (h:wys l) (n:Nat):wys (tms l p n):=by
 intro s hs
 obtain ⟨k,_,hk⟩:=List.mem_flatMap.mp hs
 exact zt3 h s hk
mutual
theorem zy1:∀ d,wys (strk d)
 | .go n=>by
  intro s hs
  simp only [strk] at hs
  obtain ⟨k,_,rfl⟩:=List.mem_map.mp hs
  exact .inl rfl
 | .jump _=>by intro s hs; simp [strk] at hs
 | .turn _=>by intro s hs; simp [strk] at hs
 | .times n w=>by simp only [strk]; exact zz5 (wp0 w) _
theorem wp0:∀ w,wys (ze0 w)
 | []=>by intro s hs; simp [ze0] at hs
 | d :: r=>by simp only [ze0]; exact zj3 (zy1 d) (zt3 (wp0 r))
end
theorem IsBox.fr {l:List Stk} {o:Option Bx} {p:Pen} (hp:Hd p) (hw:wys l) (h:IsBox l o):IsBox (l.map (mvS p)) (bfr p o):=by
 cases o with
 | none =>
  have e:l=[]:=h
  subst e
  rfl
 | some b =>
  obtain ⟨b1,b2,b3,b4⟩:=b
  obtain ⟨i1,⟨s1,h1,e1⟩,⟨s2,h2,e2⟩,⟨s3,h3,e3⟩,⟨s4,h4,e4⟩⟩:=h
  obtain ⟨px,py,ph⟩:=p
  have g1:=i1 _ h1
  have g2:=i1 _ h2
  have g3:=i1 _ h3
  have g4:=i1 _ h4
  have w1:=hw _ h1
  have w2:=hw _ h2
  have w3:=hw _ h3
  have w4:=hw _ h4
  unfold Inb at g1 g2 g3 g4
  unfold wy at w1 w2 w3 w4
  dsimp only at g1 g2 g3 g4 e1 e2 e3 e4
  unfold Hd at hp
  dsimp only at hp
  have mem:∀ {s},s ∈ l->∀ q,mvS q s ∈ l.map (mvS q):=λ hs q=>List.mem_map.mpr ⟨_,hs,rfl⟩
  rcases hp with rfl | rfl | rfl | rfl
  ·refine ⟨λ s hs=>?_,⟨_,mem h1 _,?_⟩,⟨_,mem h2 _,?_⟩,⟨_,mem h3 _,?_⟩,⟨_,mem h4 _,?_⟩⟩
   ·obtain ⟨t,ht,rfl⟩:=List.mem_map.mp hs
    have z1:=i1 t ht; have z2:=hw t ht; unfold Inb at z1 ⊢; unfold wy at z2; clear i1 g1 g2 g3 g4 w1 w2 w3 w4 e1 e2 e3 e4; simp only [mvS,led,cs,sn,mn,mx] at *; simp at *; omega
   all_goals (simp only [mvS,led,cs,sn,mn,mx]; simp; omega)
  ·refine ⟨λ s hs=>?_,⟨_,mem h4 _,?_⟩,⟨_,mem h1 _,?_⟩,⟨_,mem h2 _,?_⟩,⟨_,mem h3 _,?_⟩⟩
   ·obtain ⟨t,ht,rfl⟩:=List.mem_map.mp hs
    have z1:=i1 t ht; have z2:=hw t ht; unfold Inb at z1 ⊢; unfold wy at z2; clear i1 g1 g2 g3 g4 w1 w2 w3 w4 e1 e2 e3 e4; simp only [mvS,led,cs,sn,mn,mx] at *; simp at *; omega
   all_goals (simp only [mvS,led,cs,sn,mn,mx]; simp; omega)
  ·refine ⟨λ s hs=>?_,⟨_,mem h3 _,?_⟩,⟨_,mem h4 _,?_⟩,⟨_,mem h1 _,?_⟩,⟨_,mem h2 _,?_⟩⟩
   ·obtain ⟨t,ht,rfl⟩:=List.mem_map.mp hs
    have z1:=i1 t ht; have z2:=hw t ht; unfold Inb at z1 ⊢; unfold wy at z2; clear i1 g1 g2 g3 g4 w1 w2 w3 w4 e1 e2 e3 e4; simp only [mvS,led,cs,sn,mn,mx] at *; simp at *; omega
   all_goals (simp only [mvS,led,cs,sn,mn,mx]; simp; omega)
  ·refine ⟨λ s hs=>?_,⟨_,mem h2 _,?_⟩,⟨_,mem h3 _,?_⟩,⟨_,mem h4 _,?_⟩,⟨_,mem h1 _,?_⟩⟩
   ·obtain ⟨t,ht,rfl⟩:=List.mem_map.mp hs
    have z1:=i1 t ht; have z2:=hw t ht; unfold Inb at z1 ⊢; unfold wy at z2; clear i1 g1 g2 g3 g4 w1 w2 w3 w4 e1 e2 e3 e4; simp only [mvS,led,cs,sn,mn,mx] at *; simp at *; omega
   all_goals (simp only [mvS,led,cs,sn,mn,mx]; simp; omega)
noncomputable def brs (b:Option Bx) (p:Pen) (o:Option Bx) (ks:List Int):Option Bx:=ks.foldl (λ w k=>bor w (bfr (rep p k) b)) o
noncomputable def outer (p:Pen) (n:Int):List Int:=if p.2.2=0 then [0,n - 1] else (List.range (mn n 4).toNat).map λ i=>(0:Int) + (i:Nat)
mutual
noncomputable def bxd:Dd->Option Bx
 | .go n=>if n=0 then none else some (0,0,n,0)
 | .jump _=>none
 | .turn _=>none
 | .times n w=>if n=0 then none else brs (bxa w none st) (pb w) none (outer (pb w) n)
noncomputable def bxa:List Dd->Option Bx->Pen->Option Bx
 | [],o,_=>o
 | d :: r,o,p=>bxa r (bor o (bfr p (bxd d))) (led p (pd d))
end
theorem yu4 {l:List Stk} {b:Option Bx} {p:Pen} (hp:Hd p) (hw:wys l) (h:IsBox l b):∀ (ks:List Int) (m:List Stk) (o:Option Bx),(∀ k ∈ ks,0<=k)->IsBox m o->IsBox (m ++ ks.flatMap λ k=>l.map (mvS (pw p k.toNat))) (brs b p o ks)
 | [],m,o,_,hm=>by simpa [brs] using hm
 | k :: ks,m,o,hk,hm=>by
  have h1:=yu4 hp hw h ks (m ++ l.map (mvS (pw p k.toNat))) (bor o (bfr (rep p k) b)) (λ x hx=>hk x (List.mem_cons_of_mem _ hx)) (by
   rw [yk2 hp (hk k (List.mem_cons_self ..))]
   exact hm.or (h.fr (xd2 _ _) hw))
  rw [List.append_assoc] at h1
  exact h1
theorem yv4 {a:Int} {k m:Nat} (h:k<=m):(0<=a * k /\ a * k<=a * m) \/ (a * m<=a * k /\ a * k<=0):=by
 rcases Int.le_total 0 a with h0 | h0
 ·exact .inl ⟨Int.mul_nonneg h0 (by omega),Int.mul_le_mul_of_nonneg_left (by omega) h0⟩
 ·exact .inr ⟨Int.mul_le_mul_of_nonpos_left h0 (by omega),Int.mul_nonpos_of_nonpos_of_nonneg h0 (by omega)⟩
theorem wa6 {l:List Stk} {b:Option Bx} {p:Pen} (hp:Hd p) (hw:wys l) (h:IsBox l b) {n:Int} (hn:0 < n):IsBox (tms l p n.toNat) (brs b p none (outer p n)):=by
 have h0:∀ k ∈ outer p n,0<=k:=by
  unfold outer
  intro k hk
  split at hk
  ·simp only [List.mem_cons,List.not_mem_nil,or_false] at hk; omega
  ·obtain ⟨i,_,rfl⟩:=List.mem_map.mp hk; omega
 have h1:=yu4 hp hw h (outer p n) [] none h0 rfl
 rw [List.nil_append] at h1
 by_cases hz:p.2.2=0
 ·rw [outer,if_pos hz] at h1 ⊢
  simp only [List.flatMap_cons,List.flatMap_nil,List.append_nil] at h1
  generalize brs b p none [0,n - 1]=o at h1 ⊢
  cases o with
  | none =>
   have e:l.map (mvS (pw p (0:Int).toNat)) ++ l.map (mvS (pw p (n - 1).toNat))=[]:=h1
   have e1:l=[]:=by
    have:=(List.append_eq_nil_iff.mp e).1
    simpa using this
   subst e1
   show tms [] p n.toNat=[]
   unfold tms
   simp
  | some c =>
   obtain ⟨i1,t1⟩:=h1
   refine ⟨λ s hs=>?_,t1.mono λ s hs=>?_⟩
   ·obtain ⟨k,hk,hs⟩:=List.mem_flatMap.mp hs
    obtain ⟨t,ht,rfl⟩:=List.mem_map.mp hs
    have hk:k < n.toNat:=List.mem_range.mp hk
    have a1:=i1 _ (List.mem_append_left _ (List.mem_map.mpr ⟨t,ht,rfl⟩))
    have a2:=i1 _ (List.mem_append_right _ (List.mem_map.mpr ⟨t,ht,rfl⟩))
    have b1:=yv4 (a:=p.1) (k:=k) (m:=(n - 1).toNat) (by omega)
    have b2:=yv4 (a:=p.2.1) (k:=k) (m:=(n - 1).toNat) (by omega)
    rw [zb2 hz] at a1 a2 ⊢
    simp only [mvS,if_true,Inb] at a1 a2 ⊢
    generalize p.1 * ((n - 1).toNat:Int)=x1 at a2 b1
    generalize p.2.1 * ((n - 1).toNat:Int)=x2 at a2 b2
    generalize p.1 * (k:Int)=x3 at b1 ⊢
    generalize p.2.1 * (k:Int)=x4 at b2 ⊢
    have z:(((0:Int).toNat:Nat):Int)=0:=rfl
    rw [z,Int.mul_zero,Int.mul_zero] at a1
    omega
   ·rcases List.mem_append.mp hs with hs | hs
    ·exact List.mem_flatMap.mpr ⟨0,List.mem_range.mpr (by omega),hs⟩
    ·exact List.mem_flatMap.mpr ⟨(n - 1).toNat,List.mem_range.mpr (by omega),hs⟩
 ·refine h1.congr λ s=>?_
  rw [outer,if_neg hz]
  unfold tms
  simp only [List.mem_flatMap,List.mem_map,List.mem_range]
  have em:(mn n 4).toNat<=4 /\ (mn n 4).toNat<=n.toNat /\ ((mn n 4).toNat=4 \/ (mn n 4).toNat=n.toNat):=by
   have:=zn1 n 4; omega
  constructor
  ·rintro ⟨k,⟨i,hi,rfl⟩,t,ht,rfl⟩
   refine ⟨i,by omega,t,ht,?_⟩
   have e:((0:Int) + (i:Nat)).toNat=i:=by omega
   rw [e]
  ·rintro ⟨k,hk,t,ht,rfl⟩
   refine ⟨0 + ((k % 4:Nat):Int),⟨k % 4,?_,rfl⟩,t,ht,?_⟩
   ·have:k % 4 < 4:=Nat.mod_lt _ (by decide)
    have:k % 4<=k:=Nat.mod_le _ _
    omega
   ·have e:((0:Int) + ((k % 4:Nat):Int)).toNat=k % 4:=by omega
    rw [e,<- we4 hp hz]
mutual
theorem xu4:∀ d,okd d->IsBox (strk d) (bxd d)
 | .go n,h=>by
  simp only [okd] at h
  simp only [strk,bxd]
  split
  ·next e=>subst e; rfl
  ·next e =>
   refine ⟨λ s hs=>?_,⟨(((0:Nat):Int),0,0),?_,rfl⟩,⟨(((0:Nat):Int),0,0),?_,rfl⟩,⟨(((n - 1).toNat:Int),0,0),?_,?_⟩,⟨(((0:Nat):Int),0,0),?_,rfl⟩⟩
   ·obtain ⟨k,hk,rfl⟩:=List.mem_map.mp hs
    have:=List.mem_range.mp hk
    simp only [Inb]
    omega
   ·exact List.mem_map.mpr ⟨0,List.mem_range.mpr (by omega),rfl⟩
   ·exact List.mem_map.mpr ⟨0,List.mem_range.mpr (by omega),rfl⟩
   ·exact List.mem_map.mpr ⟨(n - 1).toNat,List.mem_range.mpr (by omega),rfl⟩
   ·dsimp only; omega
   ·exact List.mem_map.mpr ⟨0,List.mem_range.mpr (by omega),rfl⟩
 | .jump n,h=>by simp only [strk,bxd]; rfl
 | .turn n,h=>by simp only [strk,bxd]; rfl
 | .times n w,h=>by
  simp only [okd] at h
  simp only [strk,bxd]
  split
  ·next e=>subst e; rfl
  ·next e =>
   refine wa6 (xu0 w) (wp0 w) ?_ (by omega)
   have:=yx2 w h.2 [] none st xp1 rfl
   rw [List.nil_append,xt0] at this
   exact this
theorem yx2:∀ w,oks w->∀ (m:List Stk) (o:Option Bx) (p:Pen),Hd p->IsBox m o->IsBox (m ++ (ze0 w).map (mvS p)) (bxa w o p)
 | [],_,m,o,p,_,hm=>by simpa [ze0,bxa] using hm
 | d :: r,h,m,o,p,hp,hm=>by
  simp only [oks] at h
  have h1:=yx2 r h.2 (m ++ (strk d).map (mvS p)) (bor o (bfr p (bxd d))) (led p (pd d)) (ys0 _ _) (hm.or ((xu4 d h.1).fr hp (zy1 d)))
  rw [wq0 hp (yp1 d h.1),List.append_assoc] at h1
  simp only [ze0,bxa,List.map_append]
  exact h1
end
theorem zr1 (w:List Dd) (h:oks w):IsBox (ze0 w) (bxa w none st):=by
 have:=yx2 w h [] none st xp1 rfl
 rw [List.nil_append,xt0] at this
 exact this
end Mw
namespace Pv
open PySem
noncomputable abbrev wu0:D:=.int 30
noncomputable abbrev wa1:D:=.int 4
noncomputable abbrev zn0:D:=.int 99999999999999999999
noncomputable abbrev zt0:D:=.tup [.str "go",.str "jump",.str "turn"]
noncomputable abbrev xl0:D:=.tup [.str "go",.str "times"]
noncomputable abbrev ym0:D:=.tup [.int 0,.int 0,.int 0]
noncomputable abbrev wc2:D:=.tup [.tup [.int 1,.int 0],.tup [.int 0,.int 1],.tup [.int (-1),.int 0],.tup [.int 0,.int (-1)]]
noncomputable abbrev zm2:D:=.tup [.int 0,.int 1]
noncomputable abbrev zk0:D:=.int 1000
noncomputable def yr5:List Str:=["word"]
noncomputable def zd6 (sp_q13:Sp3):TS3 :=
 (xw0 (zc0 sp_q13 (wa0 (v3 0) (wa0 (c3 (.int 0)) nil3))))
noncomputable def xr5:List Str:=["word", "depth", "count", "deed"]
noncomputable def yd6 (sp_q14:Sp3):TS3 :=
 (seq3 (ifs3 (not3 (b3 (zc0 isiR (wa0 (v3 0) (wa0 (c3 (.ty "tuple")) nil3))))) zo0 yg0) (seq3 (ifs3 (b3 (o3 gtR (v3 1) (c3 wa1))) zo0 yg0) (seq3 (set3 2 (c3 (.int 0))) (seq3 (for3 (is3 (v3 0)) (gn3 3) (seq3 (set3 2 (o3 addR (v3 2) (zc0 sp_q14 (wa0 (v3 3) (wa0 (v3 1) nil3))))) (ifs3 (b3 (o3 gtR (v3 2) (c3 wu0))) zo0 yg0))) (ret3 (v3 2))))))
noncomputable def yf7:List Str:=["deed", "depth"]
noncomputable def zj7 (sp_q10 sp_q13:Sp3):TS3 :=
 (seq3 (ifs3 (not3 (b3 (zc0 isiR (wa0 (v3 0) (wa0 (c3 (.ty "tuple")) nil3))))) zo0 yg0) (seq3 (ifs3 (and3 (b3 (o3 eqR (zc0 lenR (wa0 (v3 0) nil3)) (c3 (.int 2)))) (b3 (o3 (inR false) (o3 ixR (v3 0) (c3 (.int 0))) (c3 zt0)))) (seq3 (xw0 (zc0 sp_q10 (wa0 (o3 ixR (v3 0) (c3 (.int 0))) (wa0 (o3 ixR (v3 0) (c3 (.int 1))) nil3)))) (ret3 (c3 (.int 1)))) yg0) (seq3 (ifs3 (and3 (b3 (o3 eqR (zc0 lenR (wa0 (v3 0) nil3)) (c3 (.int 3)))) (b3 (o3 eqR (o3 ixR (v3 0) (c3 (.int 0))) (c3 (.str "times"))))) (seq3 (xw0 (zc0 sp_q10 (wa0 (o3 ixR (v3 0) (c3 (.int 0))) (wa0 (o3 ixR (v3 0) (c3 (.int 1))) nil3)))) (ret3 (o3 addR (c3 (.int 1)) (zc0 sp_q13 (wa0 (o3 ixR (v3 0) (c3 (.int 2))) (wa0 (o3 addR (v3 1) (c3 (.int 1))) nil3)))))) yg0) zo0)))
noncomputable def zr5:List Str:=["kind", "number"]
noncomputable def wd6:TS3 :=
 (seq3 (ifs3 (not3 (b3 (zc0 isiR (wa0 (v3 1) (wa0 (c3 (.ty "int")) nil3))))) zo0 yg0) (seq3 (ifs3 (b3 (o3 gtR (zc0 absR (wa0 (v3 1) nil3)) (c3 zn0))) zo0 yg0) (ifs3 (and3 (b3 (o3 ltR (v3 1) (c3 (.int 0)))) (b3 (o3 (inR false) (v3 0) (c3 xl0)))) zo0 yg0)))
noncomputable def wd7:List Str:=["pen", "part", "ahead", "x", "y"]
noncomputable def xi7:TS3 :=
 (seq3 (set3 2 (o3 ixR (c3 wc2) (o3 ixR (v3 0) (c3 (.int 2))))) (seq3 (set3 3 (o3 subR (o3 addR (o3 ixR (v3 0) (c3 (.int 0))) (o3 mulR (o3 ixR (v3 1) (c3 (.int 0))) (o3 ixR (v3 2) (c3 (.int 0))))) (o3 mulR (o3 ixR (v3 1) (c3 (.int 1))) (o3 ixR (v3 2) (c3 (.int 1)))))) (seq3 (set3 4 (o3 addR (o3 addR (o3 ixR (v3 0) (c3 (.int 1))) (o3 mulR (o3 ixR (v3 1) (c3 (.int 0))) (o3 ixR (v3 2) (c3 (.int 1))))) (o3 mulR (o3 ixR (v3 1) (c3 (.int 1))) (o3 ixR (v3 2) (c3 (.int 0)))))) (ret3 (tup3 (wa0 (v3 3) (wa0 (v3 4) (wa0 (o3 modR (o3 addR (o3 ixR (v3 0) (c3 (.int 2))) (o3 ixR (v3 1) (c3 (.int 2)))) (c3 (.int 4))) nil3))))))))
noncomputable def wc7:List Str:=["word", "pen", "deed"]
noncomputable def xh7 (sp_q23 sp_q29:Sp3):TS3 :=
 (seq3 (set3 1 (c3 ym0)) (seq3 (for3 (is3 (v3 0)) (gn3 2) (set3 1 (zc0 sp_q23 (wa0 (v3 1) (wa0 (zc0 sp_q29 (wa0 (v3 2) nil3)) nil3))))) (ret3 (v3 1))))
noncomputable def zc7:List Str:=["deed"]
noncomputable def wg7 (sp_q28 sp_q30:Sp3):TS3 :=
 (seq3 (ifs3 (b3 (o3 eqR (o3 ixR (v3 0) (c3 (.int 0))) (c3 (.str "turn")))) (ret3 (tup3 (wa0 (c3 (.int 0)) (wa0 (c3 (.int 0)) (wa0 (o3 modR (o3 ixR (v3 0) (c3 (.int 1))) (c3 (.int 4))) nil3))))) yg0) (seq3 (ifs3 (b3 (o3 eqR (o3 ixR (v3 0) (c3 (.int 0))) (c3 (.str "times")))) (ret3 (zc0 sp_q30 (wa0 (zc0 sp_q28 (wa0 (o3 ixR (v3 0) (c3 (.int 2))) nil3)) (wa0 (o3 ixR (v3 0) (c3 (.int 1))) nil3)))) yg0) (ret3 (tup3 (wa0 (o3 ixR (v3 0) (c3 (.int 1))) (wa0 (c3 (.int 0)) (wa0 (c3 (.int 0)) nil3)))))))
noncomputable def wp5:List Str:=["part", "number", "pen", "doing"]
noncomputable def xc6 (sp_q23:Sp3):TS3 :=
 (seq3 (ifs3 (b3 (o3 eqR (o3 ixR (v3 0) (c3 (.int 2))) (c3 (.int 0)))) (ret3 (tup3 (wa0 (o3 mulR (o3 ixR (v3 0) (c3 (.int 0))) (v3 1)) (wa0 (o3 mulR (o3 ixR (v3 0) (c3 (.int 1))) (v3 1)) (wa0 (c3 (.int 0)) nil3))))) yg0) (seq3 (set3 2 (c3 ym0)) (seq3 (for3 (ir3 (wa0 (o3 modR (v3 1) (c3 (.int 4))) nil3)) (gn3 3) (set3 2 (zc0 sp_q23 (wa0 (v3 2) (wa0 (v3 0) nil3))))) (ret3 (v3 2)))))
noncomputable def yp5:List Str:=["word"]
noncomputable def zb6 (sp_q12 sp_q15:Sp3):TS3 :=
 (seq3 (xw0 (zc0 sp_q12 (wa0 (v3 0) nil3))) (ret3 (zc0 sp_q15 (wa0 (v3 0) nil3))))
noncomputable def wq5:List Str:=["word"]
noncomputable def xd6 (sp_q16:Sp3):TS3 :=
 (ret3 (zc0 sumR (wa0 (wq1 [none] (is3 (v3 0)) (gn3 0) tt3 (zc0 sp_q16 (wa0 (v3 0) nil3))) nil3)))
noncomputable def xf7:List Str:=["deed"]
noncomputable def yj7 (sp_q15:Sp3):TS3 :=
 (seq3 (ifs3 (b3 (o3 eqR (o3 ixR (v3 0) (c3 (.int 0))) (c3 (.str "go")))) (ret3 (o3 ixR (v3 0) (c3 (.int 1)))) yg0) (seq3 (ifs3 (b3 (o3 eqR (o3 ixR (v3 0) (c3 (.int 0))) (c3 (.str "times")))) (ret3 (o3 mulR (o3 ixR (v3 0) (c3 (.int 1))) (zc0 sp_q15 (wa0 (o3 ixR (v3 0) (c3 (.int 2))) nil3)))) yg0) (ret3 (c3 (.int 0)))))
noncomputable def zw4:List Str:=["stroke"]
noncomputable def zx4:TS3 :=
 (ifs3 (or3 (b3 (o3 neR (zc0 lenR (wa0 (v3 0) nil3)) (c3 (.int 3)))) (b3 (o3 (inR true) (o3 ixR (v3 0) (c3 (.int 2))) (c3 zm2)))) zo0 yg0)
noncomputable def ye7:List Str:=["stroke"]
noncomputable def zi7:TS3 :=
 (seq3 (ifs3 (b3 (o3 eqR (o3 ixR (v3 0) (c3 (.int 2))) (c3 (.int 0)))) (ret3 (tup3 (wa0 (tup3 (wa0 (o3 ixR (v3 0) (c3 (.int 0))) (wa0 (o3 ixR (v3 0) (c3 (.int 1))) nil3))) (wa0 (tup3 (wa0 (o3 addR (o3 ixR (v3 0) (c3 (.int 0))) (c3 (.int 1))) (wa0 (o3 ixR (v3 0) (c3 (.int 1))) nil3))) nil3)))) yg0) (ret3 (tup3 (wa0 (tup3 (wa0 (o3 ixR (v3 0) (c3 (.int 0))) (wa0 (o3 ixR (v3 0) (c3 (.int 1))) nil3))) (wa0 (tup3 (wa0 (o3 ixR (v3 0) (c3 (.int 0))) (wa0 (o3 addR (o3 ixR (v3 0) (c3 (.int 1))) (c3 (.int 1))) nil3))) nil3)))))
noncomputable def xp5:List Str:=["word", "box", "pen", "deed"]
noncomputable def yb6 (sp_q7 sp_q9 sp_q17 sp_q23 sp_q29:Sp3):TS3 :=
 (seq3 (set3 1 (c3 .non)) (seq3 (set3 2 (c3 ym0)) (seq3 (for3 (is3 (v3 0)) (gn3 3) (seq3 (set3 1 (zc0 sp_q9 (wa0 (v3 1) (wa0 (zc0 sp_q7 (wa0 (v3 2) (wa0 (zc0 sp_q17 (wa0 (v3 3) nil3)) nil3))) nil3)))) (set3 2 (zc0 sp_q23 (wa0 (v3 2) (wa0 (zc0 sp_q29 (wa0 (v3 3) nil3)) nil3)))))) (ret3 (v3 1)))))
noncomputable def zq5:List Str:=["deed"]
noncomputable def wc6 (sp_q8 sp_q28 sp_q33:Sp3):TS3 :=
 (seq3 (ifs3 (b3 (o3 eqR (o3 ixR (v3 0) (c3 (.int 1))) (c3 (.int 0)))) (ret3 (c3 .non)) yg0) (seq3 (ifs3 (b3 (o3 eqR (o3 ixR (v3 0) (c3 (.int 0))) (c3 (.str "go")))) (ret3 (tup3 (wa0 (c3 (.int 0)) (wa0 (c3 (.int 0)) (wa0 (o3 ixR (v3 0) (c3 (.int 1))) (wa0 (c3 (.int 0)) nil3)))))) yg0) (seq3 (ifs3 (b3 (o3 eqR (o3 ixR (v3 0) (c3 (.int 0))) (c3 (.str "times")))) (ret3 (zc0 sp_q8 (wa0 (zc0 sp_q33 (wa0 (o3 ixR (v3 0) (c3 (.int 2))) nil3)) (wa0 (zc0 sp_q28 (wa0 (o3 ixR (v3 0) (c3 (.int 2))) nil3)) (wa0 (o3 ixR (v3 0) (c3 (.int 1))) nil3))))) yg0) (ret3 (c3 .non)))))
noncomputable def N_q8:List Str:=["box", "part", "number", "whole", "doing"]
noncomputable def t_q8 (sp_q7 sp_q9 sp_q27 sp_q30:Sp3):TS3 :=
 (seq3 (set3 3 (c3 .non)) (seq3 (for3 (is3 (zc0 sp_q27 (wa0 (v3 1) (wa0 (v3 2) nil3)))) (gn3 4) (set3 3 (zc0 sp_q9 (wa0 (v3 3) (wa0 (zc0 sp_q7 (wa0 (zc0 sp_q30 (wa0 (v3 1) (wa0 (v3 4) nil3))) (wa0 (v3 0) nil3))) nil3))))) (ret3 (v3 3))))
noncomputable def xq5:List Str:=["part", "number"]
noncomputable def yc6:TS3 :=
 (seq3 (ifs3 (b3 (o3 eqR (o3 ixR (v3 0) (c3 (.int 2))) (c3 (.int 0)))) (ret3 (lst3 (wa0 (c3 (.int 0)) (wa0 (o3 subR (v3 1) (c3 (.int 1))) nil3)))) yg0) (ret3 (xv6 (zc0 za1 (wa0 (v3 1) (wa0 (c3 (.int 4)) nil3))))))
noncomputable def N_q9:List Str:=["one", "other", "least"]
noncomputable def t_q9:TS3 :=
 (seq3 (ifs3 (b3 (o3 (isNR false) (v3 0) (c3 .non))) (ret3 (v3 1)) yg0) (seq3 (ifs3 (b3 (o3 (isNR false) (v3 1) (c3 .non))) (ret3 (v3 0)) yg0) (seq3 (set3 2 (tup3 (wa0 (zc0 za1 (wa0 (o3 ixR (v3 0) (c3 (.int 0))) (wa0 (o3 ixR (v3 1) (c3 (.int 0))) nil3))) (wa0 (zc0 za1 (wa0 (o3 ixR (v3 0) (c3 (.int 1))) (wa0 (o3 ixR (v3 1) (c3 (.int 1))) nil3))) nil3)))) (ret3 (o3 addR (v3 2) (tup3 (wa0 (zc0 maxR (wa0 (o3 ixR (v3 0) (c3 (.int 2))) (wa0 (o3 ixR (v3 1) (c3 (.int 2))) nil3))) (wa0 (zc0 maxR (wa0 (o3 ixR (v3 0) (c3 (.int 3))) (wa0 (o3 ixR (v3 1) (c3 (.int 3))) nil3))) nil3))))))))
noncomputable def N_q7:List Str:=["pen", "box", "corner", "other", "least"]
noncomputable def t_q7 (sp_q23:Sp3):TS3 :=
 (seq3 (ifs3 (b3 (o3 (isNR false) (v3 1) (c3 .non))) (ret3 (c3 .non)) yg0) (seq3 (set3 2 (zc0 sp_q23 (wa0 (v3 0) (wa0 (tup3 (wa0 (o3 ixR (v3 1) (c3 (.int 0))) (wa0 (o3 ixR (v3 1) (c3 (.int 1))) (wa0 (c3 (.int 0)) nil3)))) nil3)))) (seq3 (set3 3 (zc0 sp_q23 (wa0 (v3 0) (wa0 (tup3 (wa0 (o3 ixR (v3 1) (c3 (.int 2))) (wa0 (o3 ixR (v3 1) (c3 (.int 3))) (wa0 (c3 (.int 0)) nil3)))) nil3)))) (seq3 (set3 4 (tup3 (wa0 (zc0 za1 (wa0 (o3 ixR (v3 2) (c3 (.int 0))) (wa0 (o3 ixR (v3 3) (c3 (.int 0))) nil3))) (wa0 (zc0 za1 (wa0 (o3 ixR (v3 2) (c3 (.int 1))) (wa0 (o3 ixR (v3 3) (c3 (.int 1))) nil3))) nil3)))) (ret3 (o3 addR (v3 4) (tup3 (wa0 (zc0 maxR (wa0 (o3 ixR (v3 2) (c3 (.int 0))) (wa0 (o3 ixR (v3 3) (c3 (.int 0))) nil3))) (wa0 (zc0 maxR (wa0 (o3 ixR (v3 2) (c3 (.int 1))) (wa0 (o3 ixR (v3 3) (c3 (.int 1))) nil3))) nil3)))))))))
noncomputable def ze7:List Str:=["word", "stroke"]
noncomputable def wi7 (sp_Look___init__ sp_q11 sp_q12 sp_q26:Sp3):TS3 :=
 (seq3 (xw0 (zc0 sp_q12 (wa0 (v3 0) nil3))) (seq3 (xw0 (zc0 sp_q11 (wa0 (v3 1) nil3))) (ret3 (zc0 sp_q26 (wa0 (v3 0) (wa0 (c3 ym0) (wa0 (zo8 "Look" sp_Look___init__ (wa0 (v3 1) nil3)) nil3)))))))
noncomputable def xd7:List Str:=["word", "pen", "look", "often", "here", "deed"]
noncomputable def yh7 (sp_q23 sp_q24 sp_q29:Sp3):TS3 :=
 (seq3 (set3 3 (c3 (.int 0))) (seq3 (set3 4 (v3 1)) (seq3 (for3 (is3 (v3 0)) (gn3 5) (seq3 (set3 3 (o3 addR (v3 3) (zc0 sp_q24 (wa0 (v3 5) (wa0 (v3 4) (wa0 (v3 2) nil3)))))) (set3 4 (zc0 sp_q23 (wa0 (v3 4) (wa0 (zc0 sp_q29 (wa0 (v3 5) nil3)) nil3)))))) (ret3 (v3 3)))))
noncomputable def zd7:List Str:=["deed", "pen", "look"]
noncomputable def wh7 (sp_Look_is_within sp_q7 sp_q17 sp_q25:Sp3):TS3 :=
 (seq3 (ifs3 (b3 (o3 eqR (o3 ixR (v3 0) (c3 (.int 0))) (c3 (.str "times")))) (ret3 (zc0 sp_q25 (wa0 (o3 ixR (v3 0) (c3 (.int 1))) (wa0 (o3 ixR (v3 0) (c3 (.int 2))) (wa0 (v3 1) (wa0 (v3 2) nil3)))))) yg0) (ret3 (if3 (b3 (zk4 "Look" "is_within" sp_Look_is_within (v3 2) (wa0 (zc0 sp_q7 (wa0 (v3 1) (wa0 (zc0 sp_q17 (wa0 (v3 0) nil3)) nil3))) nil3))) (c3 (.int 1)) (c3 (.int 0)))))
noncomputable def yd7:List Str:=["number", "word", "pen", "look", "part", "box", "often", "span", "doing", "start"]
noncomputable def zx0 (sp_Look_count_doing sp_Look_is_within sp_q7 sp_q18 sp_q19 sp_q23 sp_q26 sp_q28 sp_q30 sp_q33:Sp3):TS3 :=
 (ret3 (v3 6))
noncomputable def wx0 (sp_Look_count_doing sp_Look_is_within sp_q7 sp_q18 sp_q19 sp_q23 sp_q26 sp_q28 sp_q30 sp_q33:Sp3):TS3 :=
 (seq3 (for3 (irL3 (wa0 (o3 ixR (v3 7) (c3 (.int 0))) (wa0 (o3 ixR (v3 7) (c3 (.int 1))) nil3))) (gn3 8) (seq3 (set3 9 (zc0 sp_q23 (wa0 (v3 2) (wa0 (zc0 sp_q30 (wa0 (v3 4) (wa0 (v3 8) nil3))) nil3)))) (ifs3 (b3 (zk4 "Look" "is_within" sp_Look_is_within (v3 3) (wa0 (zc0 sp_q7 (wa0 (v3 9) (wa0 (v3 5) nil3))) nil3))) (seq3 (xw0 (zk4 "Look" "count_doing" sp_Look_count_doing (v3 3) nil3)) (set3 6 (o3 addR (v3 6) (o3 mulR (zc0 sp_q18 (wa0 (v3 8) (wa0 (v3 0) (wa0 (v3 4) nil3)))) (zc0 sp_q26 (wa0 (v3 1) (wa0 (v3 9) (wa0 (v3 3) nil3)))))))) yg0))) (zx0 sp_Look_count_doing sp_Look_is_within sp_q7 sp_q18 sp_q19 sp_q23 sp_q26 sp_q28 sp_q30 sp_q33))
noncomputable def xy0 (sp_Look_count_doing sp_Look_is_within sp_q7 sp_q18 sp_q19 sp_q23 sp_q26 sp_q28 sp_q30 sp_q33:Sp3):TS3 :=
 (seq3 (set3 7 (zc0 sp_q19 (wa0 (v3 0) (wa0 (v3 4) (wa0 (v3 2) (wa0 (v3 5) (wa0 (v3 3) nil3))))))) (wx0 sp_Look_count_doing sp_Look_is_within sp_q7 sp_q18 sp_q19 sp_q23 sp_q26 sp_q28 sp_q30 sp_q33))
noncomputable def yy0 (sp_Look_count_doing sp_Look_is_within sp_q7 sp_q18 sp_q19 sp_q23 sp_q26 sp_q28 sp_q30 sp_q33:Sp3):TS3 :=
 (seq3 (set3 6 (c3 (.int 0))) (xy0 sp_Look_count_doing sp_Look_is_within sp_q7 sp_q18 sp_q19 sp_q23 sp_q26 sp_q28 sp_q30 sp_q33))
noncomputable def zy0 (sp_Look_count_doing sp_Look_is_within sp_q7 sp_q18 sp_q19 sp_q23 sp_q26 sp_q28 sp_q30 sp_q33:Sp3):TS3 :=
 (seq3 (set3 5 (zc0 sp_q33 (wa0 (v3 1) nil3))) (yy0 sp_Look_count_doing sp_Look_is_within sp_q7 sp_q18 sp_q19 sp_q23 sp_q26 sp_q28 sp_q30 sp_q33))
noncomputable def zh7 (sp_Look_count_doing sp_Look_is_within sp_q7 sp_q18 sp_q19 sp_q23 sp_q26 sp_q28 sp_q30 sp_q33:Sp3):TS3 :=
 (seq3 (set3 4 (zc0 sp_q28 (wa0 (v3 1) nil3))) (zy0 sp_Look_count_doing sp_Look_is_within sp_q7 sp_q18 sp_q19 sp_q23 sp_q26 sp_q28 sp_q30 sp_q33))
noncomputable def we7:List Str:=["number", "part", "pen", "box", "look", "first", "second", "x_span", "y_span"]
noncomputable def wb1 (sp_q7 sp_q23 sp_q31:Sp3):TS3 :=
 (ret3 (tup3 (wa0 (zc0 maxR (wa0 (o3 ixR (v3 7) (c3 (.int 0))) (wa0 (o3 ixR (v3 8) (c3 (.int 0))) nil3))) (wa0 (zc0 za1 (wa0 (o3 ixR (v3 7) (c3 (.int 1))) (wa0 (o3 ixR (v3 8) (c3 (.int 1))) nil3))) nil3))))
noncomputable def xc1 (sp_q7 sp_q23 sp_q31:Sp3):TS3 :=
 (seq3 (set3 8 (zc0 sp_q31 (wa0 (v3 0) (wa0 (o3 ixR (v3 5) (c3 (.int 1))) (wa0 (o3 ixR (v3 5) (c3 (.int 3))) (wa0 (o3 subR (o3 ixR (v3 6) (c3 (.int 1))) (o3 ixR (v3 5) (c3 (.int 1)))) (wa0 (o3 ixR (fld3 (v3 4) "Look" "least") (c3 (.int 1))) (wa0 (o3 ixR (fld3 (v3 4) "Look" "greatest") (c3 (.int 1))) nil3)))))))) (wb1 sp_q7 sp_q23 sp_q31))
noncomputable def wr0 (sp_q7 sp_q23 sp_q31:Sp3):TS3 :=
 (seq3 (set3 7 (zc0 sp_q31 (wa0 (v3 0) (wa0 (o3 ixR (v3 5) (c3 (.int 0))) (wa0 (o3 ixR (v3 5) (c3 (.int 2))) (wa0 (o3 subR (o3 ixR (v3 6) (c3 (.int 0))) (o3 ixR (v3 5) (c3 (.int 0)))) (wa0 (o3 ixR (fld3 (v3 4) "Look" "least") (c3 (.int 0))) (wa0 (o3 ixR (fld3 (v3 4) "Look" "greatest") (c3 (.int 0))) nil3)))))))) (xc1 sp_q7 sp_q23 sp_q31))
noncomputable def yc1 (sp_q7 sp_q23 sp_q31:Sp3):TS3 :=
 (seq3 (set3 6 (zc0 sp_q7 (wa0 (zc0 sp_q23 (wa0 (v3 2) (wa0 (v3 1) nil3))) (wa0 (v3 3) nil3)))) (wr0 sp_q7 sp_q23 sp_q31))
noncomputable def zc1 (sp_q7 sp_q23 sp_q31:Sp3):TS3 :=
 (seq3 (set3 5 (zc0 sp_q7 (wa0 (v3 2) (wa0 (v3 3) nil3)))) (yc1 sp_q7 sp_q23 sp_q31))
noncomputable def wl0 (sp_q7 sp_q23 sp_q31:Sp3):TS3 :=
 (seq3 (ifs3 (b3 (o3 neR (o3 ixR (v3 1) (c3 (.int 2))) (c3 (.int 0)))) (ret3 (tup3 (wa0 (c3 (.int 0)) (wa0 (zc0 za1 (wa0 (v3 0) (wa0 (c3 (.int 4)) nil3))) nil3)))) yg0) (zc1 sp_q7 sp_q23 sp_q31))
noncomputable def wc1 (sp_q7 sp_q23 sp_q31:Sp3):TS3 :=
 (seq3 (ifs3 (b3 (o3 eqR (v3 1) (c3 ym0))) (ret3 (tup3 (wa0 (c3 (.int 0)) (wa0 (zc0 za1 (wa0 (v3 0) (wa0 (c3 (.int 1)) nil3))) nil3)))) yg0) (wl0 sp_q7 sp_q23 sp_q31))
noncomputable def xj7 (sp_q7 sp_q23 sp_q31:Sp3):TS3 :=
 (seq3 (ifs3 (b3 (o3 (isNR false) (v3 3) (c3 .non))) (ret3 (tup3 (wa0 (c3 (.int 0)) (wa0 (c3 (.int 0)) nil3)))) yg0) (wc1 sp_q7 sp_q23 sp_q31))
noncomputable def zp5:List Str:=["number", "low", "high", "shift", "least", "greatest", "first", "last"]
noncomputable def wb6 (sp_q31:Sp3):TS3 :=
 (seq3 (ifs3 (b3 (o3 ltR (v3 3) (c3 (.int 0)))) (ret3 (zc0 sp_q31 (wa0 (v3 0) (wa0 (un3 negR (v3 2)) (wa0 (un3 negR (v3 1)) (wa0 (un3 negR (v3 3)) (wa0 (un3 negR (v3 5)) (wa0 (un3 negR (v3 4)) nil3)))))))) yg0) (seq3 (ifs3 (b3 (o3 eqR (v3 3) (c3 (.int 0)))) (ret3 (if3 (and3 (b3 (o3 leR (v3 1) (v3 4))) (b3 (o3 leR (v3 5) (v3 2)))) (tup3 (wa0 (c3 (.int 0)) (wa0 (v3 0) nil3))) (tup3 (wa0 (c3 (.int 0)) (wa0 (c3 (.int 0)) nil3))))) yg0) (seq3 (set3 6 (un3 negR (o3 wp1 (o3 subR (v3 2) (v3 5)) (v3 3)))) (seq3 (set3 7 (o3 wp1 (o3 subR (v3 4) (v3 1)) (v3 3))) (ret3 (tup3 (wa0 (zc0 maxR (wa0 (c3 (.int 0)) (wa0 (v3 6) nil3))) (wa0 (zc0 za1 (wa0 (v3 0) (wa0 (o3 addR (v3 7) (c3 (.int 1))) nil3))) nil3))))))))
noncomputable def yq5:List Str:=["doing", "number", "part"]
noncomputable def zc6:TS3 :=
 (seq3 (ifs3 (b3 (o3 eqR (v3 2) (c3 ym0))) (ret3 (v3 1)) yg0) (seq3 (ifs3 (b3 (o3 neR (o3 ixR (v3 2) (c3 (.int 2))) (c3 (.int 0)))) (ret3 (o3 wp1 (o3 addR (o3 subR (v3 1) (v3 0)) (c3 (.int 3))) (c3 (.int 4)))) yg0) (ret3 (c3 (.int 1)))))
noncomputable def N_q4:List Str:=["script", "k", "cell"]
noncomputable def t_q4:TS3 :=
 (seq3 (set3 2 (c3 (.int 0))) (seq3 (ifs3 (b3 (o3 ltR (v3 1) (zc0 lenR (wa0 (v3 0) nil3)))) (set3 2 (o3 ixR (v3 0) (v3 1))) yg0) (seq3 (ifs3 (b3 (o3 geR (v3 2) (o3 powR (c3 (.int 10)) (c3 (.int 18))))) (ret3 (lst3 (wa0 (o3 subR (v3 2) (o3 powR (c3 (.int 10)) (c3 (.int 18)))) (wa0 (c3 (.int 1)) nil3)))) yg0) (ret3 (lst3 (wa0 (o3 modR (o3 addR (v3 2) (o3 mulR (c3 (.int 7919)) (v3 1))) (c3 (.int 2147483647))) (wa0 (c3 (.int 0)) nil3)))))))
noncomputable def N_q5:List Str:=["state", "many", "found", "mixed"]
noncomputable def t_q5:TS3 :=
 (seq3 (ifs3 (and3 (b3 (o3 eqR (o3 ixR (v3 0) (c3 (.int 1))) (c3 (.int 1)))) (b3 (o3 gtR (o3 ixR (v3 0) (c3 (.int 0))) (c3 (.int 0))))) (seq3 (set3 2 (o3 modR (o3 ixR (v3 0) (c3 (.int 0))) (v3 1))) (seq3 (asg3 (o3 wp1 (o3 ixR (v3 0) (c3 (.int 0))) (v3 1)) (sub3 (v3 0) (c3 (.int 0)))) (ret3 (v3 2)))) yg0) (seq3 (asg3 (c3 (.int 0)) (sub3 (v3 0) (c3 (.int 1)))) (seq3 (asg3 (o3 modR (o3 addR (o3 mulR (o3 ixR (v3 0) (c3 (.int 0))) (c3 (.int 48271))) (c3 (.int 69621))) (c3 (.int 2147483647))) (sub3 (v3 0) (c3 (.int 0)))) (seq3 (set3 3 (o3 modR (o3 addR (o3 mulR (o3 ixR (v3 0) (c3 (.int 0))) (o3 ixR (v3 0) (c3 (.int 0)))) (o3 mulR (c3 (.int 16807)) (o3 ixR (v3 0) (c3 (.int 0))))) (c3 (.int 2147483629)))) (seq3 (set3 3 (o3 modR (o3 addR (o3 mulR (v3 3) (v3 3)) (o3 mulR (c3 (.int 39373)) (v3 3))) (c3 (.int 2147483587)))) (ret3 (o3 modR (o3 wp1 (v3 3) (c3 (.int 8))) (v3 1))))))))
noncomputable def N_q6:List Str:=["found"]
noncomputable def t_q6:TS3 :=
 (ret3 (zx2 (zc0 isiR (wa0 (v3 0) (wa0 (c3 (.ty "int")) nil3))) (xu6 (zc0 isiR (wa0 (v3 0) (wa0 (c3 (.ty "bool")) nil3))))))
noncomputable def N_q0:List Str:=["state", "deep", "kind"]
noncomputable def t_q0 (sp_q1 sp_q5:Sp3):TS3 :=
 (seq3 (set3 2 (zc0 sp_q5 (wa0 (v3 0) (wa0 (o3 addR (c3 (.int 4)) (zc0 intR (wa0 (o3 gtR (v3 1) (c3 (.int 0))) nil3))) nil3)))) (seq3 (ifs3 (b3 (o3 eqR (v3 2) (c3 (.int 0)))) (ret3 (tup3 (wa0 (c3 (.str "turn")) (wa0 (o3 subR (zc0 sp_q5 (wa0 (v3 0) (wa0 (c3 (.int 9)) nil3))) (c3 (.int 4))) nil3)))) yg0) (seq3 (ifs3 (b3 (o3 eqR (v3 2) (c3 (.int 1)))) (ret3 (tup3 (wa0 (c3 (.str "jump")) (wa0 (o3 subR (zc0 sp_q5 (wa0 (v3 0) (wa0 (c3 (.int 5)) nil3))) (c3 (.int 2))) nil3)))) yg0) (seq3 (ifs3 (b3 (o3 ltR (v3 2) (c3 (.int 4)))) (ret3 (tup3 (wa0 (c3 (.str "go")) (wa0 (zc0 sp_q5 (wa0 (v3 0) (wa0 (c3 (.int 3)) nil3))) nil3)))) yg0) (ret3 (tup3 (wa0 (c3 (.str "times")) (wa0 (zc0 sp_q5 (wa0 (v3 0) (wa0 (c3 (.int 4)) nil3))) (wa0 (zc0 sp_q1 (wa0 (v3 0) (wa0 (o3 subR (v3 1) (c3 (.int 1))) (wa0 (zc0 sp_q5 (wa0 (v3 0) (wa0 (c3 (.int 3)) nil3))) nil3)))) nil3)))))))))
noncomputable def N_q1:List Str:=["state", "deep", "many"]
noncomputable def t_q1 (sp_q0:Sp3):TS3 :=
 (ret3 (zc0 tupR (wa0 (wq1 [none,some 0,some 1] (ir3 (wa0 (v3 2) nil3)) (gn3 0) tt3 (zc0 sp_q0 (wa0 (v3 1) (wa0 (v3 2) nil3)))) nil3)))
noncomputable def N_q2:List Str:=["deeds", "found", "deed", "k"]
noncomputable def t_q2 (sp_q2:Sp3):TS3 :=
 (seq3 (set3 1 (lst3 nil3)) (seq3 (for3 (is3 (v3 0)) (gn3 2) (ifs3 (b3 (o3 eqR (o3 ixR (v3 2) (c3 (.int 0))) (c3 (.str "times")))) (for3 (ir3 (wa0 (o3 ixR (v3 2) (c3 (.int 1))) nil3)) (gn3 3) (xw0 (mt3 extR (v3 1) (wa0 (zc0 sp_q2 (wa0 (o3 ixR (v3 2) (c3 (.int 2))) nil3)) nil3)))) (xw0 (mt3 appR (v3 1) (wa0 (v3 2) nil3))))) (ret3 (v3 1))))
noncomputable def N_q3:List Str:=["deeds", "pen", "x", "y", "heading", "drawn", "kind", "number", "ahead", "k"]
noncomputable def t_q3 (sp_q2:Sp3):TS3 :=
 (seq3 (asg3 (v3 1) (yv2 3 (yx0 (gn3 2) (yx0 (gn3 3) (yx0 (gn3 4) wv2))))) (seq3 (set3 5 (lst3 nil3)) (seq3 (for3 (is3 (zc0 sp_q2 (wa0 (v3 0) nil3))) (yv2 2 (yx0 (gn3 6) (yx0 (gn3 7) wv2))) (seq3 (set3 8 (o3 ixR (lst3 (wa0 (tup3 (wa0 (c3 (.int 1)) (wa0 (c3 (.int 0)) nil3))) (wa0 (tup3 (wa0 (c3 (.int 0)) (wa0 (c3 (.int 1)) nil3))) (wa0 (tup3 (wa0 (un3 negR (c3 (.int 1))) (wa0 (c3 (.int 0)) nil3))) (wa0 (tup3 (wa0 (c3 (.int 0)) (wa0 (un3 negR (c3 (.int 1))) nil3))) nil3))))) (v3 4))) (ifs3 (b3 (o3 eqR (v3 6) (c3 (.str "turn")))) (set3 4 (o3 modR (o3 addR (v3 4) (v3 7)) (c3 (.int 4)))) (ifs3 (b3 (o3 eqR (v3 6) (c3 (.str "jump")))) (seq3 (set3 2 (o3 addR (v3 2) (o3 mulR (v3 7) (o3 ixR (v3 8) (c3 (.int 0)))))) (set3 3 (o3 addR (v3 3) (o3 mulR (v3 7) (o3 ixR (v3 8) (c3 (.int 1))))))) (for3 (ir3 (wa0 (v3 7) nil3)) (gn3 9) (seq3 (xw0 (mt3 appR (v3 5) (wa0 (tup3 (wa0 (o3 addR (v3 2) (zc0 za1 (wa0 (c3 (.int 0)) (wa0 (o3 ixR (v3 8) (c3 (.int 0))) nil3)))) (wa0 (o3 addR (v3 3) (zc0 za1 (wa0 (c3 (.int 0)) (wa0 (o3 ixR (v3 8) (c3 (.int 1))) nil3)))) (wa0 (o3 modR (v3 4) (c3 (.int 2))) nil3)))) nil3))) (seq3 (set3 2 (o3 addR (v3 2) (o3 ixR (v3 8) (c3 (.int 0))))) (set3 3 (o3 addR (v3 3) (o3 ixR (v3 8) (c3 (.int 1)))))))))))) (ret3 (tup3 (wa0 (v3 5) (wa0 (tup3 (wa0 (v3 2) (wa0 (v3 3) (wa0 (v3 4) nil3)))) nil3)))))))
noncomputable def xe7:List Str:=["script", "state", "deeds", "drawn", "line", "seen", "found", "kept", "told"]
noncomputable def xi2 (sp_q1 sp_q3 sp_q4 sp_q5 sp_q6 sp_q20 sp_q32:Sp3):TS3 :=
 (ret3 (orV3 (o3 gtR (xp8 (xf6 (wa0 (v3 3) nil3))) (c3 (.int 12))) (o3 eqR (zc0 sumR (wa0 (v3 8) nil3)) (zc0 sp_q32 (wa0 (v3 2) nil3)))))
noncomputable def wx4 (sp_q1 sp_q3 sp_q4 sp_q5 sp_q6 sp_q20 sp_q32:Sp3):TS3 :=
 (seq3 (ifs3 (b3 (o3 neR (v3 8) (wq1 [none,some 3] (is3 (v3 7)) (gn3 0) tt3 (mt3 cntR (v3 1) (wa0 (v3 0) nil3))))) (ret3 (c3 (.bl false))) yg0) (xi2 sp_q1 sp_q3 sp_q4 sp_q5 sp_q6 sp_q20 sp_q32))
noncomputable def xy4 (sp_q1 sp_q3 sp_q4 sp_q5 sp_q6 sp_q20 sp_q32:Sp3):TS3 :=
 (seq3 (set3 8 (wq1 [none,some 2] (is3 (v3 7)) (gn3 0) tt3 (zc0 sp_q20 (wa0 (v3 1) (wa0 (v3 0) nil3))))) (wx4 sp_q1 sp_q3 sp_q4 sp_q5 sp_q6 sp_q20 sp_q32))
noncomputable def yy4 (sp_q1 sp_q3 sp_q4 sp_q5 sp_q6 sp_q20 sp_q32:Sp3):TS3 :=
 (seq3 (set3 7 (sl3 slR (wk7 (xf6 (wa0 (v3 3) nil3))) np3 (pt3 (c3 (.int 12))))) (xy4 sp_q1 sp_q3 sp_q4 sp_q5 sp_q6 sp_q20 sp_q32))
noncomputable def zy4 (sp_q1 sp_q3 sp_q4 sp_q5 sp_q6 sp_q20 sp_q32:Sp3):TS3 :=
 (seq3 (ifs3 (or3 (not3 (b3 (zc0 sp_q6 (wa0 (v3 6) nil3)))) (b3 (o3 neR (v3 6) (mt3 cntR (v3 3) (wa0 (v3 4) nil3))))) (ret3 (c3 (.bl false))) yg0) (yy4 sp_q1 sp_q3 sp_q4 sp_q5 sp_q6 sp_q20 sp_q32))
noncomputable def xz2 (sp_q1 sp_q3 sp_q4 sp_q5 sp_q6 sp_q20 sp_q32:Sp3):TS3 :=
 (seq3 (set3 6 (zc0 sp_q20 (wa0 (v3 2) (wa0 (v3 4) nil3)))) (zy4 sp_q1 sp_q3 sp_q4 sp_q5 sp_q6 sp_q20 sp_q32))
noncomputable def wy4 (sp_q1 sp_q3 sp_q4 sp_q5 sp_q6 sp_q20 sp_q32:Sp3):TS3 :=
 (seq3 (ifs3 (and3 (b3 (o3 neR (v3 3) (lst3 nil3))) (b3 (o3 gtR (zc0 sp_q5 (wa0 (v3 1) (wa0 (c3 (.int 3)) nil3))) (c3 (.int 0))))) (seq3 (set3 5 (o3 ixR (v3 3) (zc0 sp_q5 (wa0 (v3 1) (wa0 (zc0 lenR (wa0 (v3 3) nil3)) nil3))))) (set3 4 (tup3 (wa0 (o3 addR (o3 ixR (v3 5) (c3 (.int 0))) (o3 wp1 (zc0 sp_q5 (wa0 (v3 1) (wa0 (c3 (.int 3)) nil3))) (c3 (.int 2)))) (wa0 (o3 ixR (v3 5) (c3 (.int 1))) (wa0 (o3 ixR (lst3 (wa0 (o3 ixR (v3 5) (c3 (.int 2))) (wa0 (o3 subR (c3 (.int 1)) (o3 ixR (v3 5) (c3 (.int 2)))) nil3))) (o3 wp1 (zc0 sp_q5 (wa0 (v3 1) (wa0 (c3 (.int 4)) nil3))) (c3 (.int 3)))) nil3)))))) yg0) (xz2 sp_q1 sp_q3 sp_q4 sp_q5 sp_q6 sp_q20 sp_q32))
noncomputable def xz4 (sp_q1 sp_q3 sp_q4 sp_q5 sp_q6 sp_q20 sp_q32:Sp3):TS3 :=
 (seq3 (set3 4 (tup3 (wa0 (o3 subR (zc0 sp_q5 (wa0 (v3 1) (wa0 (c3 (.int 9)) nil3))) (c3 (.int 4))) (wa0 (o3 subR (zc0 sp_q5 (wa0 (v3 1) (wa0 (c3 (.int 9)) nil3))) (c3 (.int 4))) (wa0 (zc0 sp_q5 (wa0 (v3 1) (wa0 (c3 (.int 2)) nil3))) nil3))))) (wy4 sp_q1 sp_q3 sp_q4 sp_q5 sp_q6 sp_q20 sp_q32))
noncomputable def yz4 (sp_q1 sp_q3 sp_q4 sp_q5 sp_q6 sp_q20 sp_q32:Sp3):TS3 :=
 (seq3 (set3 3 (o3 ixR (zc0 sp_q3 (wa0 (v3 2) (wa0 (tup3 (wa0 (c3 (.int 0)) (wa0 (c3 (.int 0)) (wa0 (c3 (.int 0)) nil3)))) nil3))) (c3 (.int 0)))) (xz4 sp_q1 sp_q3 sp_q4 sp_q5 sp_q6 sp_q20 sp_q32))
noncomputable def zz4 (sp_q1 sp_q3 sp_q4 sp_q5 sp_q6 sp_q20 sp_q32:Sp3):TS3 :=
 (seq3 (set3 2 (zc0 sp_q1 (wa0 (v3 1) (wa0 (c3 (.int 2)) (wa0 (zc0 sp_q5 (wa0 (v3 1) (wa0 (c3 (.int 5)) nil3))) nil3))))) (yz4 sp_q1 sp_q3 sp_q4 sp_q5 sp_q6 sp_q20 sp_q32))
noncomputable def yi7 (sp_q1 sp_q3 sp_q4 sp_q5 sp_q6 sp_q20 sp_q32:Sp3):TS3 :=
 (seq3 (set3 1 (zc0 sp_q4 (wa0 (v3 0) (wa0 (c3 (.int 0)) nil3)))) (zz4 sp_q1 sp_q3 sp_q4 sp_q5 sp_q6 sp_q20 sp_q32))
noncomputable def wm0:List Str:=["self", "stroke", "ends"]
noncomputable def yq0 (sp_q21:Sp3):TS3 :=
 (seq3 (set3 2 (zc0 sp_q21 (wa0 (v3 1) nil3))) (seq3 (xt2 (v3 0) (o3 ixR (v3 2) (c3 (.int 0))) "Look" "least") (seq3 (xt2 (v3 0) (o3 ixR (v3 2) (c3 (.int 1))) "Look" "greatest") (xt2 (v3 0) (c3 zk0) "Look" "left"))))
noncomputable def wk0:List Str:=["self", "box", "low"]
noncomputable def wo0:TS3 :=
 (seq3 (ifs3 (b3 (o3 (isNR false) (v3 1) (c3 .non))) (ret3 (c3 (.bl false))) yg0) (seq3 (set3 2 (zx2 (o3 leR (o3 ixR (v3 1) (c3 (.int 0))) (o3 ixR (fld3 (v3 0) "Look" "least") (c3 (.int 0)))) (o3 leR (o3 ixR (v3 1) (c3 (.int 1))) (o3 ixR (fld3 (v3 0) "Look" "least") (c3 (.int 1)))))) (ret3 (zx2 (v3 2) (zx2 (o3 leR (o3 ixR (fld3 (v3 0) "Look" "greatest") (c3 (.int 0))) (o3 ixR (v3 1) (c3 (.int 2)))) (o3 leR (o3 ixR (fld3 (v3 0) "Look" "greatest") (c3 (.int 1))) (o3 ixR (v3 1) (c3 (.int 3)))))))))
noncomputable def zj0:List Str:=["self"]
noncomputable def xm0:TS3 :=
 (seq3 (ifs3 (b3 (o3 eqR (fld3 (v3 0) "Look" "left") (c3 (.int 0)))) zo0 yg0) (xt2 (v3 0) (o3 subR (fld3 (v3 0) "Look" "left") (c3 (.int 1))) "Look" "left"))
end Pv
namespace Pv
open PySem Mw
theorem kn_go_jump:((("go" : Str)=("jump" : Str))=False):=eq_false (by decide)
theorem kn_go_turn:((("go" : Str)=("turn" : Str))=False):=eq_false (by decide)
theorem kn_go_times:((("go" : Str)=("times" : Str))=False):=eq_false (by decide)
theorem kn_jump_go:((("jump" : Str)=("go" : Str))=False):=eq_false (by decide)
theorem kn_jump_turn:((("jump" : Str)=("turn" : Str))=False):=eq_false (by decide)
theorem kn_jump_times:((("jump" : Str)=("times" : Str))=False):=eq_false (by decide)
theorem kn_turn_go:((("turn" : Str)=("go" : Str))=False):=eq_false (by decide)
theorem kn_turn_jump:((("turn" : Str)=("jump" : Str))=False):=eq_false (by decide)
theorem kn_turn_times:((("turn" : Str)=("times" : Str))=False):=eq_false (by decide)
theorem kn_times_go:((("times" : Str)=("go" : Str))=False):=eq_false (by decide)
theorem kn_times_jump:((("times" : Str)=("jump" : Str))=False):=eq_false (by decide)
theorem kn_times_turn:((("times" : Str)=("turn" : Str))=False):=eq_false (by decide)
theorem kp_go:(["go", "jump", "turn"]:List Str).contains "go" = true:=by decide
theorem kp_jump:(["go", "jump", "turn"]:List Str).contains "jump" = true:=by decide
theorem kp_turn:(["go", "jump", "turn"]:List Str).contains "turn" = true:=by decide
theorem kp_times:(["go", "jump", "turn"]:List Str).contains "times" = false:=by decide
theorem kz_go:(["go", "times"]:List Str).contains "go" = true:=by decide
theorem kz_jump:(["go", "times"]:List Str).contains "jump" = false:=by decide
theorem kz_turn:(["go", "times"]:List Str).contains "turn" = false:=by decide
theorem kz_times:(["go", "times"]:List Str).contains "times" = true:=by decide
theorem cst3:((3:Nat):Int)=3:=rfl
mutual
noncomputable def enc:Dd->D
 | .go n=>.tup [.str "go",.int n]
 | .jump n=>.tup [.str "jump",.int n]
 | .turn n=>.tup [.str "turn",.int n]
 | .times n w=>.tup [.str "times",.int n,.tup (encs w)]
noncomputable def encs:List Dd->List D
 | []=>[]
 | d :: r=>enc d :: encs r
end
noncomputable def yg6:Sp3:=λ ds μ Q=>∃ (kind:Str) (n:Int),ds=[.str kind,.int n] /\ -G<=n /\ n<=G /\ ((kind = "go" \/ kind = "times")->0<=n) /\ Q .non μ
theorem zd8 (ds:List D) (μ:Mu) (Q:VK3) (h:yg6 ds μ Q):wd6 { nx:=λ _ μ'=>Q .non μ',rt:=Q } (yd0 zr5 ds) μ:=by
 obtain ⟨kind,n,rfl,h1,h2,h3,q⟩:=h
 unfold G at h1 h2
 simp only [wd6,seq3,ifs3,not3,b3,zc0,wa0,v3,yd0,List.map_cons,List.map_nil,zr5,List.length_cons,List.length_nil,Nat.zero_add,Nat.reduceAdd,Nat.reduceSub,List.replicate,List.cons_append,List.nil_append,getI,c3,nil3,isiR,tyN,isIn,and_true,if_true,Bool.not_true,Bool.false_eq_true,zo0,yg0,o3,absR,gtR,xv0,decide_eq_true_eq,and3,ltR,inR,strs?,if_false]
 rw [if_neg (by omega)]
 split
 ·split
  ·next h5 =>
   have h6:kind = "go" \/ kind = "times" := by simpa using h5
   have:=h3 h6
   omega
  ·exact q
 ·exact q
noncomputable def yb3 (j:Nat):Sp3:=λ ds μ Q=>∃ (d:Dd) (k:Int),ds=[enc d,.int k] /\ okd d /\ dep d < j /\ k + dep d<=4 /\ cnt d<=30 /\ Q (.int (cnt d)) μ
noncomputable def zz1 (j:Nat):Sp3:=λ ds μ Q=>∃ (w:List Dd) (k:Int),ds=[.tup (encs w),.int k] /\ oks w /\ deps w < j /\ k + deps w<=4 /\ cnts w<=30 /\ Q (.int (cnts w)) μ
theorem zc8 (j:Nat) (ds:List D) (μ:Mu) (Q:VK3) (h:yb3 (j + 1) ds μ Q):zj7 yg6 (zz1 j) { nx:=λ _ μ'=>Q .non μ',rt:=Q } (yd0 yf7 ds) μ:=by
 obtain ⟨d,k,rfl,h1,h2,h3,h4,q⟩:=h
 cases d
 case go n=>simp only [okd] at h1; exact ⟨_,n,rfl,by omega,by omega,λ _=>h1.1,q⟩
 case jump n=>simp only [okd] at h1; exact ⟨_,n,rfl,by omega,by omega,by simp only [Pv.kn_go_jump,Pv.kn_go_turn,Pv.kn_go_times,Pv.kn_jump_go,Pv.kn_jump_turn,Pv.kn_jump_times,Pv.kn_turn_go,Pv.kn_turn_jump,Pv.kn_turn_times,Pv.kn_times_go,Pv.kn_times_jump,Pv.kn_times_turn,Pv.kp_go,Pv.kp_jump,Pv.kp_turn,Pv.kp_times,Pv.kz_go,Pv.kz_jump,Pv.kz_turn,Pv.kz_times]; simp,q⟩
 case turn n=>simp only [okd] at h1; exact ⟨_,n,rfl,by omega,by omega,by simp only [Pv.kn_go_jump,Pv.kn_go_turn,Pv.kn_go_times,Pv.kn_jump_go,Pv.kn_jump_turn,Pv.kn_jump_times,Pv.kn_turn_go,Pv.kn_turn_jump,Pv.kn_turn_times,Pv.kn_times_go,Pv.kn_times_jump,Pv.kn_times_turn,Pv.kp_go,Pv.kp_jump,Pv.kp_turn,Pv.kp_times,Pv.kz_go,Pv.kz_jump,Pv.kz_turn,Pv.kz_times]; simp,q⟩
 case times n w =>
  simp only [okd,dep,cnt] at h1 h2 h3 h4 q
  refine ⟨_,n,rfl,by omega,by omega,λ _=>h1.1.1,w,k + 1,rfl,h1.2,by omega,by omega,by omega,?_⟩
  have e:((1 + cnts w:Nat):Int)=1 + (cnts w:Int):=by omega
  rw [e] at q
  exact q
theorem wc8 (j:Nat) (ds:List D) (μ:Mu) (Q:VK3) (h:zz1 j ds μ Q):yd6 (yb3 j) { nx:=λ _ μ'=>Q .non μ',rt:=Q } (yd0 xr5 ds) μ:=by
 obtain ⟨w,k,rfl,h1,h2,h3,h4,q⟩:=h
 simp only [yd6,seq3,ifs3,not3,b3,zc0,wa0,v3,yd0,List.map_cons,List.map_nil,xr5,List.length_cons,List.length_nil,Nat.zero_add,Nat.reduceAdd,Nat.reduceSub,List.replicate,List.cons_append,List.nil_append,getI,c3,nil3,isiR,tyN,isIn,if_true,Bool.not_true,Bool.false_eq_true,zo0,yg0,o3,gtR,xv0,decide_eq_true_eq,set3,for3,is3,List.set_cons_succ,List.set_cons_zero,if_false]
 rw [if_neg (by omega)]
 refine xr0 (λ l ρ μ'=>μ'=μ /\ ∃ (r:List Dd) (c:Nat) (dd:Option D),l=encs r /\ ρ=[some (.tup (encs w)),some (.int k),some (.int c),dd] /\ oks r /\ deps r<=deps w /\ c + cnts r=cnts w) ?_ (λ _ _ _ _=>trivial) ?_ ?_
 ·exact ⟨rfl,w,0,none,rfl,rfl,h1,Nat.le_refl _,by omega⟩
 ·rintro ρ μ' ⟨rfl,r,c,dd,e,rfl,_,_,e2⟩
  cases r with
  | nil =>
   simp only [cnts] at e2
   simp only [ret3,v3,getI]
   have e3:c=cnts w:=by omega
   rw [e3]
   exact q
  | cons _ _=>simp [encs] at e
 ·rintro x rest ρ μ' ⟨rfl,r,c,dd,e,rfl,o,dp,e2⟩
  cases r with
  | nil=>simp [encs] at e
  | cons d r =>
   simp only [encs,List.cons.injEq] at e
   obtain ⟨rfl,rfl⟩:=e
   simp only [oks,deps,cnts] at o dp e2
   refine ⟨d,k,rfl,o.1,by omega,by omega,by omega,?_⟩
   simp only [addR,ifs3,b3,o3,v3,List.set_cons_succ,List.set_cons_zero,getI,c3,xv0,decide_eq_true_eq,zo0,yg0,true_and]
   rw [if_neg (by omega)]
   exact ⟨r,c + cnt d,some (enc d),rfl,by simp,o.2,by omega,by omega⟩
noncomputable def Wd (w:List Dd):Prop:=oks w /\ deps w<=4 /\ cnts w<=30
noncomputable def za5:Sp3:=λ ds μ Q=>∃ w,ds=[.tup (encs w)] /\ Wd w /\ Q .non μ
theorem xd8 (ds:List D) (μ:Mu) (Q:VK3) (h:za5 ds μ Q):zd6 (zz1 5) { nx:=λ _ μ'=>Q .non μ',rt:=Q } (yd0 yr5 ds) μ:=by
 obtain ⟨w,rfl,⟨h1,h2,h3⟩,q⟩:=h
 simp only [zd6,xw0,zc0,wa0,v3,yd0,List.map_cons,List.map_nil,yr5,List.length_cons,List.length_nil,Nat.zero_add,Nat.reduceSub,List.replicate,List.cons_append,List.nil_append,getI,c3,nil3]
 exact ⟨w,0,rfl,h1,by omega,by omega,h3,q⟩
theorem yl0:∀ a,(encs a).length=a.length
 | []=>by simp [encs]
 | d :: r=>by simp only [encs,List.length_cons,yl0 r]
theorem zf3:∀ {w:List Dd} {x:D},x ∈ encs w->∃ d,d ∈ w /\ x=enc d
 | [],x,h=>by simp [encs] at h
 | d :: r,x,h=>by
  simp only [encs,List.mem_cons] at h
  rcases h with rfl | h
  ·exact ⟨d,List.mem_cons_self,rfl⟩
  ·obtain ⟨e,h1,h2⟩:=zf3 h
   exact ⟨e,List.mem_cons_of_mem _ h1,h2⟩
theorem yw1:∀ {w:List Dd} {d:Dd},d ∈ w->oks w->dep d<=deps w /\ cnt d<=cnts w /\ okd d
 | [],d,h,_=>by simp at h
 | e :: r,d,h,o=>by
  simp only [oks] at o
  simp only [deps,cnts]
  rcases List.mem_cons.mp h with rfl | h
  ·exact ⟨by omega,by omega,o.1⟩
  ·obtain ⟨h1,h2,h3⟩:=yw1 h o.2
   exact ⟨by omega,by omega,h3⟩
mutual
noncomputable def dec:D->Dd
 | .tup [.str k,.int n]=>if k = "go" then .go n else if k = "jump" then .jump n else .turn n
 | .tup [.str _,.int n,.tup w]=>.times n (decs w)
 | _=>.go 0
noncomputable def decs:List D->List Dd
 | []=>[]
 | d :: r=>dec d :: decs r
end
mutual
theorem yw2:∀ d,dec (enc d)=d
 | .go n=>by simp [enc,dec]
 | .jump n=>by simp only [enc,dec,Pv.kn_go_jump,Pv.kn_go_turn,Pv.kn_go_times,Pv.kn_jump_go,Pv.kn_jump_turn,Pv.kn_jump_times,Pv.kn_turn_go,Pv.kn_turn_jump,Pv.kn_turn_times,Pv.kn_times_go,Pv.kn_times_jump,Pv.kn_times_turn,Pv.kp_go,Pv.kp_jump,Pv.kp_turn,Pv.kp_times,Pv.kz_go,Pv.kz_jump,Pv.kz_turn,Pv.kz_times,if_false,if_true]
 | .turn n=>by simp only [enc,dec,Pv.kn_go_jump,Pv.kn_go_turn,Pv.kn_go_times,Pv.kn_jump_go,Pv.kn_jump_turn,Pv.kn_jump_times,Pv.kn_turn_go,Pv.kn_turn_jump,Pv.kn_turn_times,Pv.kn_times_go,Pv.kn_times_jump,Pv.kn_times_turn,Pv.kp_go,Pv.kp_jump,Pv.kp_turn,Pv.kp_times,Pv.kz_go,Pv.kz_jump,Pv.kz_turn,Pv.kz_times,if_false]
 | .times n w=>by simp only [enc,dec,xp2 w]
theorem xp2:∀ w,decs (encs w)=w
 | []=>by simp only [encs,decs]
 | d :: r=>by simp only [encs,decs,yw2 d,xp2 r]
end
theorem xl4 (f:Dd->Int):∀ w,(encs w).map (λ d=>D.int (f (dec d)))=w.map λ d=>D.int (f d)
 | []=>by simp [encs]
 | d :: r=>by simp only [encs,List.map_cons,yw2,xl4 f r]
noncomputable def encP (p:Pen):D:=.tup [.int p.1,.int p.2.1,.int p.2.2]
noncomputable def yl1:Sp3:=λ ds μ Q=>∃ p q,ds=[encP p,encP q] /\ Hd p /\ Q (encP (led p q)) μ
theorem yk1 {h:Int} (hd:h=0 \/ h=1 \/ h=2 \/ h=3):atI [D.tup [D.int 1,D.int 0],D.tup [D.int 0,D.int 1],D.tup [D.int (-1),D.int 0],D.tup [D.int 0,D.int (-1)]] h=some (.tup [.int (cs h),.int (sn h)]):=by
 rcases hd with rfl | rfl | rfl | rfl <;> rfl
theorem ze2 (h:Int) : -(2 ^ 64) < cs h /\ cs h < 2 ^ 64:=by unfold cs; split <;> (try split) <;> decide
theorem xa2 (h:Int) : -(2 ^ 64) < sn h /\ sn h < 2 ^ 64:=by unfold sn; split <;> (try split) <;> decide
theorem yw6 {l:List D} {i:Int} {d:D} {μ:Mu} {Q:VK3} (e:atI l i=some d) (h:Q d μ):ixR (.tup l) (.int i) μ Q:=by
 unfold ixR
 simp only [e]
 exact h
theorem ya8 (ds:List D) (μ:Mu) (Q:VK3) (h:yl1 ds μ Q):xi7 { nx:=λ _ μ'=>Q .non μ',rt:=Q } (yd0 wd7 ds) μ:=by
 obtain ⟨p,q,rfl,hp,k⟩:=h
 have c1:CMul q.1 (cs p.2.2):=.inl (.inr (ze2 _))
 have c2:CMul q.2.1 (sn p.2.2):=.inl (.inr (xa2 _))
 have c3:CMul q.1 (sn p.2.2):=.inl (.inr (xa2 _))
 have c4:CMul q.2.1 (cs p.2.2):=.inl (.inr (ze2 _))
 have d1:(0:Int) < 4:=by decide
 have d2:3<=sizeLine:=by decide
 show ixR wc2 (.int p.2.2) μ (λ d μ1=>_)
 refine yw6 (yk1 hp) ?_
 exact And.intro c1 (And.intro c2 (And.intro c3 (And.intro c4 (And.intro d1 (And.intro d2 k)))))
noncomputable def zx3:Sp3:=λ ds μ Q=>∃ p n,ds=[encP p,.int n] /\ Hd p /\ 0<=n /\ n<=G /\ p.1.natAbs < 2 ^ 1000 /\ p.2.1.natAbs < 2 ^ 1000 /\ Q (encP (rep p n)) μ
theorem ww8 {n:Int} (h0:0<=n) (h1:n<=G):n.natAbs < Big :=
 xu2 h0 (Int.le_trans h1 (zv4 (c:=1) (e:=0) (Nat.le_refl _))) (by omega) (by omega)
theorem zy7 (ds:List D) (μ:Mu) (Q:VK3) (h:zx3 ds μ Q):xc6 yl1 { nx:=λ _ μ'=>Q .non μ',rt:=Q } (yd0 wp5 ds) μ:=by
 obtain ⟨p,n,rfl,hp,h0,h1,b1,b2,k⟩:=h
 simp only [xc6,seq3,ifs3,b3,o3,v3,yd0,encP,List.map_cons,List.map_nil,wp5,List.length_cons,List.length_nil,Nat.zero_add,Nat.reduceAdd,Nat.reduceSub,List.replicate,List.cons_append,List.nil_append,getI,c3,ixR,atI2,ret3,tup3,wa0,atI0,mulR,atI1,nil3,yg0,set3,for3,ir3,List.set_cons_succ,List.set_cons_zero,modR,int2,xq1,decide_eq_true_eq]
 split
 ·next e =>
  refine ⟨.inr ⟨b1,ww8 h0 h1⟩,.inr ⟨b2,ww8 h0 h1⟩,by decide,?_⟩
  rw [rep,if_pos e] at k
  exact k
 ·next e =>
  have hm:0<=n % 4 /\ n % 4 < 4:=⟨by omega,by omega⟩
  refine ⟨by decide,by omega,?_⟩
  refine xr0 (λ l ρ μ'=>μ'=μ /\ ∃ (i:Nat) (dd:Option D),ρ=[some (encP p),some (.int n),some (encP (pw p i)),dd] /\ i + l.length=(n % 4).toNat) ?_ (λ _ _ _ _=>trivial) ?_ ?_
  ·refine ⟨rfl,0,none,rfl,?_⟩
   simp [rngD]
  ·rintro ρ μ' ⟨rfl,i,dd,rfl,e2⟩
   simp only [ret3,v3,getI]
   rw [rep,if_neg e] at k
   have e3:i=(n % 4).toNat:=by simpa using e2
   rw [e3]
   exact k
  ·rintro x rest ρ μ' ⟨rfl,i,dd,rfl,e2⟩
   simp only [gn3,set3,zc0,wa0,v3,List.set_cons_succ,List.set_cons_zero,getI,nil3]
   refine ⟨pw p i,p,rfl,xd2 p i,rfl,i + 1,some x,rfl,?_⟩
   rw [List.length_cons] at e2
   omega
noncomputable def spPb (j:Nat):Sp3:=λ ds μ Q=>∃ w,ds=[.tup (encs w)] /\ deps w < j /\ deps w<=5 /\ cnts w<=60 /\ oks w /\ Q (encP (pb w)) μ
noncomputable def spPd (j:Nat):Sp3:=λ ds μ Q=>∃ d,ds=[enc d] /\ dep d < j /\ dep d<=5 /\ cnt d<=60 /\ okd d /\ Q (encP (pd d)) μ
theorem wy7 (j:Nat) (ds:List D) (μ:Mu) (Q:VK3) (h:spPd (j + 1) ds μ Q):wg7 (spPb j) zx3 { nx:=λ _ μ'=>Q .non μ',rt:=Q } (yd0 zc7 ds) μ:=by
 obtain ⟨d,rfl,h1,h2,h2',h3,q⟩:=h
 cases d
 case go n=>exact And.intro (show 3<=sizeLine by decide) q
 case jump n=>exact And.intro (show 3<=sizeLine by decide) q
 case turn n=>exact And.intro (show (0:Int) < 4 by decide) (And.intro (show 3<=sizeLine by decide) q)
 case times n w =>
  simp only [okd,dep,cnt,pd] at h1 h2 h2' h3 q
  obtain ⟨b1,b2⟩:=yg4 (xg4 w h3.2) (by omega) (by omega)
  exact ⟨w,rfl,by omega,by omega,by omega,h3.2,pb w,n,rfl,xu0 w,h3.1.1,h3.1.2,b1,b2,q⟩
theorem xz7 (j:Nat) (ds:List D) (μ:Mu) (Q:VK3) (h:spPb j ds μ Q):xh7 yl1 (spPd j) { nx:=λ _ μ'=>Q .non μ',rt:=Q } (yd0 wc7 ds) μ:=by
 obtain ⟨w,rfl,h1,h2,h2',h3,q⟩:=h
 refine xr0 (λ l ρ μ'=>μ'=μ /\ ∃ (r:List Dd) (p:Pen) (dd:Option D),l=encs r /\ ρ=[some (.tup (encs w)),some (encP p),dd] /\ oks r /\ deps r<=deps w /\ cnts r<=cnts w /\ Hd p /\ led p (pb r)=pb w) ?_ (λ _ _ _ _=>trivial) ?_ ?_
 ·exact ⟨rfl,w,st,none,rfl,rfl,h3,Nat.le_refl _,Nat.le_refl _,xp1,yv3 (xu0 w)⟩
 ·rintro ρ μ' ⟨rfl,r,p,dd,e,rfl,_,_,_,hp,e2⟩
  cases r with
  | nil =>
   simp only [pb] at e2
   rw [ze1 hp] at e2
   simp only [ret3,v3,getI]
   rw [e2]
   exact q
  | cons _ _=>simp [encs] at e
 ·rintro x rest ρ μ' ⟨rfl,r,p,dd,e,rfl,o,dp,cn,hp,e2⟩
  cases r with
  | nil=>simp [encs] at e
  | cons d r =>
   simp only [encs,List.cons.injEq] at e
   obtain ⟨rfl,rfl⟩:=e
   simp only [oks,deps,cnts,pb] at o dp cn e2
   simp only [gn3,set3,zc0,wa0,v3,List.set_cons_succ,List.set_cons_zero,getI,nil3]
   refine ⟨d,rfl,by omega,by omega,by omega,o.1,p,pd d,rfl,hp,rfl,r,led p (pd d),some (enc d),rfl,rfl,o.2,by omega,by omega,ys0 _ _,?_⟩
   rw [we1 _ hp (yp1 d o.1)]
   exact e2
noncomputable def spSk (j:Nat):Sp3:=λ ds μ Q=>∃ w,ds=[.tup (encs w)] /\ deps w < j /\ deps w<=5 /\ cnts w<=60 /\ oks w /\ ∀ μ',Ext μ μ'->Q (.int (sks w)) μ'
noncomputable def wz4 (j:Nat):Sp3:=λ ds μ Q=>∃ d,ds=[enc d] /\ dep d < j /\ dep d<=5 /\ cnt d<=60 /\ okd d /\ ∀ μ',Ext μ μ'->Q (.int (sk d)) μ'
theorem xc8 (j:Nat) (ds:List D) (μ:Mu) (Q:VK3) (h:wz4 (j + 1) ds μ Q):yj7 (spSk j) { nx:=λ _ μ'=>Q .non μ',rt:=Q } (yd0 xf7 ds) μ:=by
 obtain ⟨d,rfl,h1,h2,h2',h3,q⟩:=h
 cases d
 case go n=>exact q _ (Ext.refl _)
 case jump n=>exact q _ (Ext.refl _)
 case turn n=>exact q _ (Ext.refl _)
 case times n w =>
  simp only [okd,dep,cnt,sk] at h1 h2 h2' h3 q
  refine ⟨w,rfl,by omega,by omega,by omega,h3.2,λ μ' e=>?_⟩
  obtain ⟨a,b⟩:=zz3 w h3.2
  have hn:n<=bd 1 0:=Int.le_trans h3.1.2 (zv4 (Nat.le_refl _))
  exact ⟨.inr ⟨xu2 h3.1.1 hn (by omega) (by omega),xu2 a b (by omega) (by omega)⟩,q μ' e⟩
theorem xn2:∀ (f:Dd->Int) (r:List Dd),ints? (r.map λ d=>D.int (f d))=some (r.map f)
 | f,[]=>rfl
 | f,d :: r=>by simp only [List.map_cons,ints?,xn2 f r]
theorem yz3:∀ w,(w.map sk).sum=sks w
 | []=>by simp [sks]
 | d :: r=>by simp only [List.map_cons,List.sum_cons,sks,yz3 r]
theorem yc8 (j:Nat) (ds:List D) (μ:Mu) (Q:VK3) (h:spSk j ds μ Q):xd6 (wz4 j) { nx:=λ _ μ'=>Q .non μ',rt:=Q } (yd0 wq5 ds) μ:=by
 obtain ⟨w,rfl,h1,h2,h2',h3,q⟩:=h
 simp only [xd6,ret3,zc0,wa0,wq1,is3,v3,yd0,List.map_cons,List.map_nil,wq5,List.length_cons,List.length_nil,Nat.zero_add,Nat.reduceSub,List.replicate,List.cons_append,List.nil_append,getI,nil3,sumR,Option.bind_none]
 intro p hp
 have hl:=yo1 w
 have hz:(100:Nat) < sizeLine:=by decide
 refine we2 (rest:=[]) (λ d=>D.int (sk (dec d))) hp (by rw [yl0]; omega) (λ _ _=>trivial) (λ x hx μ' R e k=>?_) λ μ' e e2=>?_
 ·obtain ⟨d,hd,rfl⟩:=zf3 hx
  obtain ⟨d1,d2,d3⟩:=yw1 hd h3
  simp only [zc0,wa0,v3,getI,nil3]
  refine ⟨d,rfl,by omega,by omega,by omega,d3,λ μ2 e2=>?_⟩
  rw [yw2] at k
  exact k μ2 e2
 ·simp only [e2,xl4,xn2,yz3]
  exact q μ' e
noncomputable def xx3:Sp3:=λ ds μ Q=>∃ w,ds=[.tup (encs w)] /\ Wd w /\ ∀ μ',Ext μ μ'->Q (.int (sks w)) μ'
theorem xy7 (ds:List D) (μ:Mu) (Q:VK3) (h:xx3 ds μ Q):zb6 za5 (spSk 5) { nx:=λ _ μ'=>Q .non μ',rt:=Q } (yd0 yp5 ds) μ:=by
 obtain ⟨w,rfl,h,q⟩:=h
 simp only [zb6,seq3,xw0,zc0,wa0,v3,yd0,List.map_cons,List.map_nil,yp5,List.length_cons,List.length_nil,Nat.zero_add,Nat.reduceSub,List.replicate,List.cons_append,List.nil_append,getI,nil3,ret3]
 exact ⟨w,rfl,h,w,rfl,by have:=h.2.1; omega,by have:=h.2.1; omega,by have:=h.2.2; omega,h.1,q⟩
theorem atI3 {α:Type} {a b c d:α} {r:List α}:atI (a :: b :: c :: d :: r) 3=some d:=by
 unfold atI ixN; rw [if_pos (by decide),if_pos (by simp only [List.length_cons]; omega)]; rfl
noncomputable def encB:Option Bx->D
 | none=>.non
 | some b=>.tup [.int b.1,.int b.2.1,.int b.2.2.1,.int b.2.2.2]
noncomputable def wa5:Sp3:=λ ds μ Q=>∃ a b,ds=[encB a,encB b] /\ Q (encB (bor a b)) μ
theorem xf9 (ds:List D) (μ:Mu) (Q:VK3) (h:wa5 ds μ Q):t_q9 { nx:=λ _ μ'=>Q .non μ',rt:=Q } (yd0 N_q9 ds) μ:=by
 obtain ⟨a,b,rfl,q⟩:=h
 cases a with
 | none=>exact q
 | some a =>
  cases b with
  | none=>exact q
  | some b=>exact ⟨(show 2<=sizeLine by decide),(show 2<=sizeLine by decide),(show 2 + 2<=sizeLine by decide),q⟩
noncomputable def wz1:Sp3:=λ ds μ Q=>∃ p b,ds=[encP p,encB b] /\ Hd p /\ Q (encB (bfr p b)) μ
theorem zf9 (ds:List D) (μ:Mu) (Q:VK3) (h:wz1 ds μ Q):t_q7 yl1 { nx:=λ _ μ'=>Q .non μ',rt:=Q } (yd0 N_q7 ds) μ:=by
 obtain ⟨p,b,rfl,hp,q⟩:=h
 cases b with
 | none=>exact q
 | some b=>exact ⟨(show 3<=sizeLine by decide),p,(b.1,b.2.1,0),rfl,hp,(show 3<=sizeLine by decide),p,(b.2.2.1,b.2.2.2,0),rfl,hp,(show 2<=sizeLine by decide),(show 2<=sizeLine by decide),(show 2 + 2<=sizeLine by decide),q⟩
noncomputable def xg6:Sp3:=λ ds μ Q=>∃ p n,ds=[encP p,.int n] /\ 0 < n /\ n<=G /\ ∀ r,μ r=none->Q (.ref r) (updM μ r (.lst ((outer p n).map D.int)))
theorem yz7 (ds:List D) (μ:Mu) (Q:VK3) (h:xg6 ds μ Q):yc6 { nx:=λ _ μ'=>Q .non μ',rt:=Q } (yd0 xq5 ds) μ:=by
 obtain ⟨p,n,rfl,h0,h1,q⟩:=h
 simp only [yc6,seq3,ifs3,b3,o3,v3,yd0,encP,List.map_cons,List.map_nil,xq5,List.length_cons,List.length_nil,Nat.zero_add,Nat.reduceAdd,Nat.reduceSub,List.replicate,List.cons_append,List.nil_append,getI,c3,ixR,atI2,ret3,lst3,wa0,subR,xv0,nil3,yg0,xv6,zc0,za1,xq1,decide_eq_true_eq]
 split
 ·next e =>
  refine ⟨by decide,λ r hr=>?_⟩
  have:=q r hr
  rw [outer,if_pos e] at this
  exact this
 ·next e =>
  have hb:(if 4 < n then 4 else n)=mn n 4:=rfl
  rw [hb]
  have:=zn1 n 4
  refine ⟨⟨⟨by omega,by omega⟩,by omega⟩,λ r hr=>?_⟩
  have:=q r hr
  rw [outer,if_neg e,List.map_map] at this
  exact this
noncomputable def wy3:Sp3:=λ ds μ Q=>∃ b p n,ds=[encB b,encP p,.int n] /\ Hd p /\ 0 < n /\ n<=G /\ p.1.natAbs < 2 ^ 1000 /\ p.2.1.natAbs < 2 ^ 1000 /\ ∀ μ',Ext μ μ'->Q (encB (brs b p none (outer p n))) μ'
theorem yh5 {p:Pen} {n:Int} (h:0 < n):∀ k ∈ outer p n,0<=k /\ k<=n:=by
 unfold outer
 intro k hk
 split at hk
 ·simp only [List.mem_cons,List.not_mem_nil,or_false] at hk; omega
 ·obtain ⟨i,hi,rfl⟩:=List.mem_map.mp hk
  have:=List.mem_range.mp hi
  have:=zn1 n 4
  omega
theorem yf9 (ds:List D) (μ:Mu) (Q:VK3) (h:wy3 ds μ Q):t_q8 wz1 wa5 xg6 zx3 { nx:=λ _ μ'=>Q .non μ',rt:=Q } (yd0 N_q8 ds) μ:=by
 obtain ⟨b,p,n,rfl,hp,h0,h1,b1,b2,q⟩:=h
 simp only [t_q8,seq3,set3,c3,for3,is3,zc0,wa0,v3,yd0,List.map_cons,List.map_nil,N_q8,List.length_cons,List.length_nil,Nat.zero_add,Nat.reduceAdd,Nat.reduceSub,List.replicate,List.cons_append,List.nil_append,List.set_cons_succ,List.set_cons_zero,getI,nil3]
 refine ⟨p,n,rfl,h0,h1,λ r hr=>?_⟩
 simp only [xc0]
 refine xr0 (λ l ρ μ'=>μ'=updM μ r (.lst ((outer p n).map D.int)) /\ ∃ (ks:List Int) (o:Option Bx) (dd:Option D),l=ks.map D.int /\ ρ=[some (encB b),some (encP p),some (.int n),some (encB o),dd] /\ (∀ k ∈ ks,0<=k /\ k<=n) /\ brs b p o ks=brs b p none (outer p n)) ?_ ?_ ?_ ?_
 ·exact ⟨rfl,outer p n,none,none,rfl,rfl,yh5 h0,rfl⟩
 ·rintro l ρ μ' ⟨rfl,_⟩
  exact xc0
 ·rintro ρ μ' ⟨rfl,ks,o,dd,e,rfl,_,e2⟩
  cases ks with
  | nil =>
   simp only [ret3,v3,getI]
   have e3:o=brs b p none (outer p n):=e2
   rw [e3]
   exact q _ (Ext.new hr)
  | cons _ _=>simp at e
 ·rintro x rest ρ μ' ⟨rfl,ks,o,dd,e,rfl,hk,e2⟩
  cases ks with
  | nil=>simp at e
  | cons k ks =>
   simp only [List.map_cons,List.cons.injEq] at e
   obtain ⟨rfl,rfl⟩:=e
   have:=hk k (List.mem_cons_self ..)
   simp only [gn3,set3,zc0,wa0,v3,List.set_cons_succ,List.set_cons_zero,getI,nil3]
   refine ⟨p,k,rfl,hp,this.1,by omega,b1,b2,rep p k,b,rfl,ww5 hp this.1,o,bfr (rep p k) b,rfl,rfl,ks,_,_,rfl,rfl,λ x hx=>hk x (List.mem_cons_of_mem _ hx),e2⟩
noncomputable def spWb (j:Nat):Sp3:=λ ds μ Q=>∃ w,ds=[.tup (encs w)] /\ deps w < j /\ deps w<=4 /\ cnts w<=60 /\ oks w /\ ∀ μ',Ext μ μ'->Q (encB (bxa w none st)) μ'
noncomputable def spDb (j:Nat):Sp3:=λ ds μ Q=>∃ d,ds=[enc d] /\ dep d < j /\ dep d<=4 /\ cnt d<=60 /\ okd d /\ ∀ μ',Ext μ μ'->Q (encB (bxd d)) μ'
theorem wb8 (j:Nat) (ds:List D) (μ:Mu) (Q:VK3) (h:spDb (j + 1) ds μ Q):wc6 wy3 (spPb 5) (spWb j) { nx:=λ _ μ'=>Q .non μ',rt:=Q } (yd0 zq5 ds) μ:=by
 obtain ⟨d,rfl,h1,h2,h2',h3,q⟩:=h
 cases d <;> simp only [wc6,seq3,ifs3,b3,o3,v3,yd0,enc,List.map_cons,List.map_nil,zq5,List.length_cons,List.length_nil,Nat.zero_add,Nat.reduceSub,List.replicate,List.cons_append,List.nil_append,getI,c3,ixR,atI1,ret3,yg0,atI0,tup3,wa0,nil3,Nat.reduceAdd,zc0,zo2,kn_go_times,decide_eq_true_eq,if_false,if_true,xq1,kn_jump_times,kn_jump_go,kn_turn_times,kn_turn_go,atI2,kn_times_go]
 case go n =>
  have:=q μ (Ext.refl _)
  simp only [bxd] at this
  split
  ·next e=>rw [if_pos e] at this; exact this
  ·next e=>rw [if_neg e] at this; exact ⟨by decide,this⟩
 case jump n =>
  have:=q μ (Ext.refl _)
  simp only [bxd] at this
  split <;> exact this
 case turn n =>
  have:=q μ (Ext.refl _)
  simp only [bxd] at this
  split <;> exact this
 case times n w =>
  simp only [okd,dep,cnt,bxd] at h1 h2 h2' h3 q
  split
  ·next e=>have:=q μ (Ext.refl _); rw [if_pos e] at this; exact this
  ·next e =>
   obtain ⟨b1,b2⟩:=yg4 (xg4 w h3.2) (by omega) (by omega)
   refine ⟨w,rfl,by omega,by omega,by omega,h3.2,λ μ1 e1=>⟨w,rfl,by omega,by omega,by omega,h3.2,_,pb w,n,rfl,xu0 w,by omega,h3.1.2,b1,b2,λ μ2 e2=>?_⟩⟩
   have:=q μ2 (e1.trans e2)
   rw [if_neg e] at this
   exact this
theorem wx7 (j:Nat) (ds:List D) (μ:Mu) (Q:VK3) (h:spWb j ds μ Q):yb6 wz1 wa5 (spDb j) yl1 (spPd 5) { nx:=λ _ μ'=>Q .non μ',rt:=Q } (yd0 xp5 ds) μ:=by
 obtain ⟨w,rfl,h1,h2,h2',h3,q⟩:=h
 simp only [yb6,seq3,set3,c3,for3,is3,v3,yd0,List.map_cons,List.map_nil,xp5,List.length_cons,List.length_nil,Nat.zero_add,Nat.reduceAdd,Nat.reduceSub,List.replicate,List.cons_append,List.nil_append,List.set_cons_succ,List.set_cons_zero,getI]
 refine xr0 (λ l ρ μ'=>Ext μ μ' /\ ∃ (r:List Dd) (o:Option Bx) (p:Pen) (dd:Option D),l=encs r /\ ρ=[some (.tup (encs w)),some (encB o),some (encP p),dd] /\ oks r /\ deps r<=deps w /\ cnts r<=cnts w /\ Hd p /\ bxa r o p=bxa w none st) ?_ (λ _ _ _ _=>trivial) ?_ ?_
 ·exact ⟨Ext.refl _,w,none,st,none,rfl,rfl,h3,Nat.le_refl _,Nat.le_refl _,xp1,rfl⟩
 ·rintro ρ μ' ⟨ex,r,o,p,dd,e,rfl,_,_,_,_,e2⟩
  cases r with
  | nil =>
   simp only [bxa] at e2
   simp only [ret3,v3,getI]
   rw [e2]
   exact q _ ex
  | cons _ _=>simp [encs] at e
 ·rintro x rest ρ μ' ⟨ex,r,o,p,dd,e,rfl,ok,dp,cn,hp,e2⟩
  cases r with
  | nil=>simp [encs] at e
  | cons d r =>
   simp only [encs,List.cons.injEq] at e
   obtain ⟨rfl,rfl⟩:=e
   simp only [oks,deps,cnts,bxa] at ok dp cn e2
   simp only [gn3,seq3,set3,zc0,wa0,v3,List.set_cons_succ,List.set_cons_zero,getI,nil3]
   refine ⟨d,rfl,by omega,by omega,by omega,ok.1,λ μ1 e1=>⟨p,bxd d,rfl,hp,o,bfr p (bxd d),rfl,?_⟩⟩
   exact ⟨d,rfl,by omega,by omega,by omega,ok.1,p,pd d,rfl,hp,ex.trans e1,r,_,_,_,rfl,rfl,ok.2,by omega,by omega,ys0 _ _,e2⟩
noncomputable def gx (s:Stk):Int:=s.1 + 1 - s.2.2
noncomputable def gy (s:Stk):Int:=s.2.1 + s.2.2
noncomputable def encS (s:Stk):D:=.tup [.int s.1,.int s.2.1,.int s.2.2]
noncomputable def wy (s:Stk):Prop:=s.2.2=0 \/ s.2.2=1
theorem yx4 {μ:Mu} {p:Addr} {a b:MO}:updM (updM μ p a) p b=updM μ p b:=by
 funext q
 by_cases h:q=p
 ·subst h; rw [xc0,xc0]
 ·rw [wd0 h,wd0 h,wd0 h]
noncomputable def eFs (a b c:D):List (Str × D):=[("least",a),("greatest",b),("left",c)]
noncomputable def yb1 (s:Stk) (n:Int):MO:=.ins "Look" (eFs (.tup [.int s.1,.int s.2.1]) (.tup [.int (gx s),.int (gy s)]) (.int n))
theorem lkL {a b c:D}:(eFs a b c).lookup ("least" : Str)=some a:=rfl
theorem lkG {a b c:D}:(eFs a b c).lookup ("greatest" : Str)=some b:=by
 rfl
theorem lkF {a b c:D}:(eFs a b c).lookup ("left" : Str)=some c:=by rfl
theorem put1 {a:D}:putD "least" a []=([("least",a)]:List (Str × D)):=rfl
theorem put2 {a b:D}:putD "greatest" b [("least",a)]=([("least",a),("greatest",b)]:List (Str × D)):=by rfl
theorem put3 {a b c:D}:putD "left" c [("least",a),("greatest",b)]=eFs a b c:=by rfl
theorem put4 {a b c d:D}:putD "left" d (eFs a b c)=eFs a b d:=by rfl
noncomputable def yy3:Sp3:=λ ds μ Q=>∃ s,ds=[encS s] /\ wy s /\ Q (.tup [.tup [.int s.1,.int s.2.1],.tup [.int (gx s),.int (gy s)]]) μ
theorem wa8 (ds:List D) (μ:Mu) (Q:VK3) (h:yy3 ds μ Q):zi7 { nx:=λ _ μ'=>Q .non μ',rt:=Q } (yd0 ye7 ds) μ:=by
 obtain ⟨⟨x,y,w⟩,rfl,hw,q⟩:=h
 rcases hw with e | e
 ·dsimp only at e; subst e
  simp only [gx,gy,Int.sub_zero,Int.add_zero] at q
  exact ⟨(show 2<=sizeLine by decide),(show 2<=sizeLine by decide),(show 2<=sizeLine by decide),q⟩
 ·dsimp only at e; subst e
  simp only [gx,gy,Int.add_sub_cancel] at q
  exact ⟨(show 2<=sizeLine by decide),(show 2<=sizeLine by decide),(show 2<=sizeLine by decide),q⟩
noncomputable def zy3:Sp3:=λ ds μ Q=>∃ s,ds=[encS s] /\ wy s /\ Q .non μ
noncomputable def inb (s:Stk):Option Bx->Bool
 | none=>false
 | some b=>decide (b.1<=s.1) && (decide (b.2.1<=s.2.1) && (decide (gx s<=b.2.2.1) && decide (gy s<=b.2.2.2)))
noncomputable def xy3:Sp3:=λ ds μ Q=>∃ p s,ds=[.ref p,encS s] /\ wy s /\ μ p=some (.ins "Look" []) /\ Q .non (updM μ p (yb1 s 1000))
theorem xi1 (ds:List D) (μ:Mu) (Q:VK3) (h:xy3 ds μ Q):yq0 yy3 { nx:=λ _ μ'=>Q .non μ',rt:=Q } (yd0 wm0 ds) μ:=by
 obtain ⟨p,s,rfl,hw,hm,q⟩:=h
 simp only [yq0,seq3,set3,zc0,wa0,v3,yd0,List.map_cons,List.map_nil,wm0,List.length_cons,List.length_nil,Nat.zero_add,Nat.reduceAdd,Nat.reduceSub,List.replicate,List.cons_append,List.nil_append,getI,nil3,zk0,List.set_cons_succ,List.set_cons_zero]
 refine ⟨s,rfl,hw,?_⟩
 simp only [xt2,o3,v3,getI,c3,ixR,atI0,hm,List.length_nil,true_and,seq3,atI1,put1,xc0,List.length_cons,Nat.zero_add,put2,Nat.reduceAdd,yx4,put3]
 exact ⟨(by decide:0 < 1000),(by decide:1 < 1000),(by decide:2 < 1000),q⟩
noncomputable def ya5:Sp3:=λ ds μ Q=>∃ p s n b,ds=[.ref p,encB b] /\ μ p=some (yb1 s n) /\ Q (.bl (inb s b)) μ
theorem zg1 (ds:List D) (μ:Mu) (Q:VK3) (h:ya5 ds μ Q):wo0 { nx:=λ _ μ'=>Q .non μ',rt:=Q } (yd0 wk0 ds) μ:=by
 obtain ⟨p,s,n,b,rfl,hm,q⟩:=h
 cases b with
 | none=>exact q
 | some b =>
  simp only [wo0,seq3,ifs3,b3,o3,v3,yd0,encB,List.map_cons,List.map_nil,wk0,List.length_cons,List.length_nil,Nat.zero_add,Nat.reduceAdd,Nat.reduceSub,List.replicate,List.cons_append,List.nil_append,getI,c3,isNR,Bool.false_eq_true,isN,Bool.not_false,if_false,ret3,yg0,set3,zx2,ixR,atI0,fld3,hm,yb1,lkL,leR,xv0,decide_eq_true_eq,atI1,List.set_cons_succ,List.set_cons_zero,lkG,atI2,atI3,true_and]
  simp only [inb] at q
  split
  ·next h1 =>
   split
   ·next h2 =>
    split
    ·next h3=>rw [decide_eq_true h1,decide_eq_true h2,decide_eq_true h3] at q; exact q
    ·next h3=>rw [decide_eq_true h1,decide_eq_true h2,decide_eq_false h3] at q; exact q
   ·next h2=>rw [decide_eq_true h1,decide_eq_false h2] at q; exact q
  ·next h1=>rw [decide_eq_false h1] at q; exact q
noncomputable def spCd:Sp3:=λ ds μ Q=>∃ p s n,ds=[.ref p] /\ μ p=some (yb1 s n) /\ 0 < n /\ Q .non (updM μ p (yb1 s (n - 1)))
theorem wz0 (ds:List D) (μ:Mu) (Q:VK3) (h:spCd ds μ Q):xm0 { nx:=λ _ μ'=>Q .non μ',rt:=Q } (yd0 zj0 ds) μ:=by
 obtain ⟨p,s,n,rfl,hm,h0,q⟩:=h
 simp only [xm0,seq3,ifs3,b3,o3,fld3,v3,yd0,List.map_cons,List.map_nil,zj0,List.length_cons,List.length_nil,Nat.zero_add,Nat.reduceSub,List.replicate,List.cons_append,List.nil_append,getI,hm,yb1,lkF,c3,zo0,yg0,xt2,subR,xv0,xq1,decide_eq_true_eq,true_and,put4]
 rw [if_neg (by omega)]
 exact ⟨(by decide:3 < 1000),q⟩
noncomputable def spn0 (number low high shift least greatest:Int):Int × Int :=
 if shift=0 then (if low<=least /\ greatest<=high then (0,number) else (0,0))
 else (if -((high - greatest) / shift) > 0 then -((high - greatest) / shift) else 0,if (least - low) / shift + 1 < number then (least - low) / shift + 1 else number)
noncomputable def spn (number low high shift least greatest:Int):Int × Int :=
 if shift < 0 then spn0 number (-high) (-low) (-shift) (-greatest) (-least) else spn0 number low high shift least greatest
noncomputable def encI (p:Int × Int):D:=.tup [.int p.1,.int p.2]
noncomputable def xu1 (j:Nat):Sp3:=λ ds μ Q=>∃ n lo hi sh le gr,ds=[.int n,.int lo,.int hi,.int sh,.int le,.int gr] /\ (if sh < 0 then 2<=j else 1<=j) /\ (-(2 ^ 80) < sh /\ sh < 2 ^ 80) /\ Q (encI (spn n lo hi sh le gr)) μ
theorem yy7 (j:Nat) (ds:List D) (μ:Mu) (Q:VK3) (h:xu1 (j + 1) ds μ Q):wb6 (xu1 j) { nx:=λ _ μ'=>Q .non μ',rt:=Q } (yd0 zp5 ds) μ:=by
 obtain ⟨n,lo,hi,sh,le,gr,rfl,hj,hb,q⟩:=h
 simp only [wb6,seq3,ifs3,b3,o3,v3,yd0,List.map_cons,List.map_nil,zp5,List.length_cons,List.length_nil,Nat.zero_add,Nat.reduceAdd,Nat.reduceSub,List.replicate,List.cons_append,List.nil_append,getI,c3,ltR,xv0,decide_eq_true_eq,ret3,zc0,wa0,un3,negR,nil3,yg0,if3,and3,leR,tup3,Bool.false_eq_true,if_false,set3,subR,wp1,int2,List.set_cons_succ,List.set_cons_zero,maxR,addR,za1,xq1]
 by_cases h0:sh < 0
 ·rw [if_pos h0] at hj ⊢
  refine ⟨n,-hi,-lo,-sh,-gr,-le,rfl,?_,⟨by omega,by omega⟩,?_⟩
  ·rw [if_neg (by omega)]; omega
  ·rw [spn,if_neg (by omega)]
   rw [spn,if_pos h0] at q
   exact q
 ·rw [spn,if_neg h0] at q
  rw [if_neg h0]
  unfold spn0 at q
  by_cases h1:sh=0
  ·rw [if_pos h1] at q ⊢
   by_cases h2:lo<=le
   ·rw [if_pos h2]
    by_cases h3:gr<=hi
    ·rw [if_pos ⟨h2,h3⟩] at q; rw [if_pos h3]; exact ⟨by decide,q⟩
    ·rw [if_neg (λ h=>h3 h.2)] at q; rw [if_neg h3]; exact ⟨by decide,q⟩
   ·rw [if_neg (λ h=>h2 h.1)] at q; rw [if_neg h2]; exact ⟨by decide,q⟩
  ·rw [if_neg h1] at q ⊢
   have a:0 < sh:=by omega
   exact ⟨⟨a,by omega⟩,⟨a,by omega⟩,by decide,q⟩
theorem yo2 {p:Pen} {μ:Mu} {Q:VK3}:eqR (.tup [.int p.1,.int p.2.1,.int p.2.2]) (.tup [.int 0,.int 0,.int 0]) μ Q=Q (.bl (decide (p=st))) μ:=by
 rw [wy6 (p:=.tuple [.int p.1,.int p.2.1,.int p.2.2]) (q:=.tuple [.int 0,.int 0,.int 0]) rfl (by simp only [datM,dat,dats]) (by simp only [datM,dat,dats]) (by simp [PyData.depth,PyData.depthAll]) (by simp [PyData.depth,PyData.depthAll])]
 congr 2
 obtain ⟨x,y,w⟩:=p
 rw [Bool.eq_iff_iff]
 simp [PyData.eqv,PyData.eqvAll,st,Prod.mk.injEq]
noncomputable def wx3:Sp3:=λ ds μ Q=>∃ d n p,ds=[.int d,.int n,encP p] /\ Q (.int (if p=st then n else if p.2.2=0 then 1 else (n - d + 3) / 4)) μ
theorem zb8 (ds:List D) (μ:Mu) (Q:VK3) (h:wx3 ds μ Q):zc6 { nx:=λ _ μ'=>Q .non μ',rt:=Q } (yd0 yq5 ds) μ:=by
 obtain ⟨d,n,p,rfl,q⟩:=h
 simp only [zc6,seq3,ifs3,b3,o3,v3,yd0,encP,List.map_cons,List.map_nil,yq5,List.length_cons,List.length_nil,Nat.zero_add,Nat.reduceAdd,Nat.reduceSub,List.replicate,List.cons_append,List.nil_append,getI,c3,ym0,ret3,yg0,ixR,atI2,subR,xv0,addR,wp1,int2,xf3,Bool.not_eq_true',decide_eq_false_iff_not]
 rw [yo2]
 by_cases h:p=st
 ·rw [if_pos h] at q
  simp only [h,decide_true,if_true]
  exact q
 ·rw [if_neg h] at q
  simp only [h,decide_false,Bool.false_eq_true,if_false]
  by_cases h2:p.2.2=0
  ·rw [if_pos h2] at q; rw [if_neg (by simp [h2])]; exact q
  ·rw [if_neg h2] at q; rw [if_pos h2]; exact ⟨by decide,q⟩
noncomputable def lo1 (a b:Int):Int:=if b < a then b else a
noncomputable def hi1 (a b:Int):Int:=if b > a then b else a
noncomputable def ask (n:Int) (part pen:Pen) (box:Option Bx) (s:Stk):Int × Int :=
 if box=none then (0,0) else if part=st then (0,lo1 n 1) else if part.2.2 ≠ 0 then (0,lo1 n 4)
 else match bfr pen box,bfr (led pen part) box with
  | some f,some g=>(hi1 (spn n f.1 f.2.2.1 (g.1 - f.1) s.1 (gx s)).1 (spn n f.2.1 f.2.2.2 (g.2.1 - f.2.1) s.2.1 (gy s)).1,lo1 (spn n f.1 f.2.2.1 (g.1 - f.1) s.1 (gx s)).2 (spn n f.2.1 f.2.2.2 (g.2.1 - f.2.1) s.2.1 (gy s)).2)
  | _,_=>(0,0)
noncomputable def bdd (p:Pen):Prop:=(-(2 ^ 80) < p.1 /\ p.1 < 2 ^ 80) /\ -(2 ^ 80) < p.2.1 /\ p.2.1 < 2 ^ 80
theorem yn8 (x y a b:Int):mn (y + a) (y + b) - mn (x + a) (x + b)=y - x:=by unfold mn; split <;> split <;> omega
theorem xv4 {pen part:Pen} {b f g:Bx} (h1:Hd pen) (h4:part.2.2=0) (hb:bdd part) (e1:bfr pen (some b)=some f) (e2:bfr (led pen part) (some b)=some g) :
    (-(2 ^ 80) < g.1 - f.1 /\ g.1 - f.1 < 2 ^ 80) /\ -(2 ^ 80) < g.2.1 - f.2.1 /\ g.2.1 - f.2.1 < 2 ^ 80:=by
 cases e1
 cases e2
 have e3:(led pen part).2.2=pen.2.2:=by
  show (pen.2.2 + part.2.2) % 4=_
  rcases h1 with h | h | h | h <;> rw [h,h4] <;> rfl
 have a1:∀ c d:Int,(led (led pen part) (c,d,0)).1=(led pen part).1 + (c * cs pen.2.2 - d * sn pen.2.2):=λ c d=>by
  show (led pen part).1 + c * cs (led pen part).2.2 - d * sn (led pen part).2.2=_
  rw [e3,Int.add_sub_assoc]
 have a2:∀ c d:Int,(led pen (c,d,0)).1=pen.1 + (c * cs pen.2.2 - d * sn pen.2.2):=λ c d=>Int.add_sub_assoc _ _ _
 have a3:∀ c d:Int,(led (led pen part) (c,d,0)).2.1=(led pen part).2.1 + (c * sn pen.2.2 + d * cs pen.2.2):=λ c d=>by
  show (led pen part).2.1 + c * sn (led pen part).2.2 + d * cs (led pen part).2.2=_
  rw [e3,Int.add_assoc]
 have a4:∀ c d:Int,(led pen (c,d,0)).2.1=pen.2.1 + (c * sn pen.2.2 + d * cs pen.2.2):=λ c d=>Int.add_assoc _ _ _
 have d1:(led pen part).1 - pen.1=part.1 * cs pen.2.2 - part.2.1 * sn pen.2.2:=by
  show pen.1 + part.1 * cs pen.2.2 - part.2.1 * sn pen.2.2 - pen.1=_
  omega
 have d2:(led pen part).2.1 - pen.2.1=part.1 * sn pen.2.2 + part.2.1 * cs pen.2.2:=by
  show pen.2.1 + part.1 * sn pen.2.2 + part.2.1 * cs pen.2.2 - pen.2.1=_
  omega
 dsimp only
 rw [a1,a1,a2,a2,a3,a3,a4,a4,yn8,yn8,d1,d2]
 unfold bdd at hb
 rcases h1 with h | h | h | h <;> rw [h] <;> simp only [cs,sn] <;> simp <;> omega
noncomputable def zg6:Sp3:=λ ds μ Q=>∃ n part pen box p s left,ds=[.int n,encP part,encP pen,encB box,.ref p] /\ Hd part /\ Hd pen /\ bdd part /\ μ p=some (yb1 s left) /\ Q (encI (ask n part pen box s)) μ
end Pv
namespace Pv
open PySem Mw
theorem yd8 (ds:List D) (μ:Mu) (Q:VK3) (h:zy3 ds μ Q):zx4 { nx:=λ _ μ'=>Q .non μ',rt:=Q } (yd0 zw4 ds) μ:=by
 obtain ⟨⟨x,y,w⟩,rfl,hw,q⟩:=h
 rcases hw with e | e
 ·dsimp only at e; subst e
  simp only [zx4,ifs3,or3,b3,o3,zc0,wa0,v3,yd0,encS,List.map_cons,List.map_nil,zw4,List.length_cons,List.length_nil,Nat.zero_add,Nat.reduceSub,List.replicate,List.cons_append,List.nil_append,getI,nil3,lenR,c3,Nat.reduceAdd,cst3,zo0,yg0,if_true,ixR,atI2,inR,zm2,xf3,Bool.not_eq_true',decide_eq_false_iff_not]
  simp [inD,datM,dat,dats,PyData.eqv,PyData.depth,PyData.depthAll]
  exact q
 ·dsimp only at e; subst e
  simp only [zx4,ifs3,or3,b3,o3,zc0,wa0,v3,yd0,encS,List.map_cons,List.map_nil,zw4,List.length_cons,List.length_nil,Nat.zero_add,Nat.reduceSub,List.replicate,List.cons_append,List.nil_append,getI,nil3,lenR,c3,Nat.reduceAdd,cst3,zo0,yg0,if_true,ixR,atI2,inR,zm2,xf3,Bool.not_eq_true',decide_eq_false_iff_not]
  simp [inD,datM,dat,dats,PyData.eqv,PyData.depth,PyData.depthAll]
  exact q
theorem wr8 {p:Pen}:(PyData.tuple [.int p.1,.int p.2.1,.int p.2.2]).eqv (PyData.tuple [.int 0,.int 0,.int 0])=decide (p=st):=by
 obtain ⟨x,y,w⟩:=p
 rw [Bool.eq_iff_iff]
 simp [PyData.eqv,PyData.eqvAll,st,Prod.mk.injEq]
theorem yb8 (ds:List D) (μ:Mu) (Q:VK3) (h:zg6 ds μ Q):xj7 wz1 yl1 (xu1 2) { nx:=λ _ μ'=>Q .non μ',rt:=Q } (yd0 we7 ds) μ:=by
 obtain ⟨n,part,pen,box,p,s,left,rfl,h1,h2,hb,hm,q⟩:=h
 cases box with
 | none=>exact And.intro (show 2<=sizeLine by decide) q
 | some b =>
  unfold ask at q
  rw [if_neg (by intro h; cases h)] at q
  show eqR (.tup [.int part.1,.int part.2.1,.int part.2.2]) (.tup [.int 0,.int 0,.int 0]) μ (λ d μ1=>_)
  rw [yo2,wr8]
  by_cases h3:part=st
  ·rw [if_pos h3] at q
   rw [if_pos (decide_eq_true h3)]
   exact And.intro (show 2<=sizeLine by decide) q
  ·rw [if_neg h3] at q
   rw [if_neg (by rw [decide_eq_false h3]; decide)]
   show wl0 wz1 yl1 (xu1 2) _ [some (.int n),some (encP part),some (encP pen),some (encB (some b)),some (.ref p),none,none,none,none] μ
   simp only [wl0,seq3,ifs3,b3,o3,v3,getI,encP,c3,ixR,atI2,ret3,tup3,wa0,zc0,nil3,List.length_cons,List.length_nil,Nat.zero_add,Nat.reduceAdd,yg0,xf3,Bool.not_eq_true',decide_eq_false_iff_not]
   by_cases h4:part.2.2=0
   ·rw [if_neg (by simp [h4])] at q
    rw [if_neg (by simp [h4])]
    obtain ⟨f,e1⟩:∃ f,bfr pen (some b)=some f:=⟨_,rfl⟩
    obtain ⟨g,e2⟩:∃ g,bfr (led pen part) (some b)=some g:=⟨_,rfl⟩
    have sx:=xv4 h2 h4 hb e1 e2
    rw [e1,e2] at q
    refine ⟨pen,some b,rfl,h2,pen,part,rfl,h2,led pen part,some b,rfl,ys0 _ _,?_⟩
    rw [e1,e2]
    show wr0 wz1 yl1 (xu1 2) _ [some (.int n),some (encP part),some (encP pen),some (encB (some b)),some (.ref p),some (encB (some f)),some (encB (some g)),none,none] μ
    conv=>whnf
    rw [hm]
    refine ⟨rfl,?_⟩
    conv=>whnf
    rw [hm]
    refine ⟨rfl,n,f.1,f.2.2.1,g.1 - f.1,s.1,gx s,rfl,by split <;> decide,sx.1,?_⟩
    conv=>whnf
    rw [hm]
    refine ⟨rfl,?_⟩
    conv=>whnf
    rw [hm]
    refine ⟨rfl,n,f.2.1,f.2.2.2,g.2.1 - f.2.1,s.2.1,gy s,rfl,by split <;> decide,sx.2,?_⟩
    exact And.intro (show 2<=sizeLine by decide) q
   ·rw [if_pos h4] at q; rw [if_pos h4]; exact ⟨by decide,q⟩
end Pv
namespace Pv
open PySem Mw
noncomputable def lk (n:Int) (part:Pen) (i:Int):Int:=if part=st then n else if part.2.2=0 then 1 else (n - i + 3) / 4
noncomputable def rngI (a:Int × Int):List Int:=(List.range (a.2 - a.1).toNat).map λ i=>a.1 + (i:Nat)
theorem xx7 (a:Int × Int):rngD a.1 (a.2 - a.1).toNat=(rngI a).map D.int:=by simp [rngD,rngI]
mutual
inductive OW:List Dd->Pen->Stk->Int->Nat->Prop where
 | nil {pen:Pen} {s:Stk}:OW [] pen s 0 0
 | cons {d:Dd} {r:List Dd} {pen:Pen} {s:Stk} {c c':Int} {k k':Nat}:OD d pen s c k->OW r (led pen (pd d)) s c' k'->OW (d :: r) pen s (c + c') (k + k')
inductive OD:Dd->Pen->Stk->Int->Nat->Prop where
 | one {d:Dd} {pen:Pen} {s:Stk}:dep d=0->OD d pen s (if inb s (bfr pen (bxd d))=true then 1 else 0) 0
 | times {n:Int} {w:List Dd} {pen:Pen} {s:Stk} {c:Int} {k:Nat}:bdd (pb w)->OL (rngI (ask n (pb w) pen (bxa w none st) s)) n w pen s c k->OD (.times n w) pen s c k
inductive OL:List Int->Int->List Dd->Pen->Stk->Int->Nat->Prop where
 | nil {n:Int} {w:List Dd} {pen:Pen} {s:Stk}:OL [] n w pen s 0 0
 | out {i n:Int} {l:List Int} {w:List Dd} {pen:Pen} {s:Stk} {c:Int} {k:Nat}:inb s (bfr (led pen (rep (pb w) i)) (bxa w none st))=false->0<=i->i<=G->OL l n w pen s c k->OL (i :: l) n w pen s c k
 | inn {i n:Int} {l:List Int} {w:List Dd} {pen:Pen} {s:Stk} {c c1:Int} {k k1:Nat}:inb s (bfr (led pen (rep (pb w) i)) (bxa w none st))=true->0<=i->i<=G->OW w (led pen (rep (pb w) i)) s c1 k1 -> -(2 ^ 64) < c1->c1 < 2 ^ 64->OL l n w pen s c k->OL (i :: l) n w pen s (lk n (pb w) i * c1 + c) (1 + k1 + k)
end
noncomputable def spOt (j:Nat):Sp3:=λ ds μ Q=>∃ n w pen p s left c k,ds=[.int n,.tup (encs w),encP pen,.ref p] /\ deps w + 1 < j /\ deps w<=3 /\ cnts w<=60 /\ oks w /\ 0<=n /\ n<=G /\ Hd pen /\ bdd (pb w) /\ μ p=some (yb1 s left) /\ OL (rngI (ask n (pb w) pen (bxa w none st) s)) n w pen s c k /\ (k:Int)<=left /\ ∀ μ',ExtB p μ μ'->μ' p=some (yb1 s (left - k))->Q (.int c) μ'
noncomputable def spOd (j:Nat):Sp3:=λ ds μ Q=>∃ d pen p s left c k,ds=[enc d,encP pen,.ref p] /\ dep d < j /\ dep d<=4 /\ cnt d<=60 /\ okd d /\ Hd pen /\ μ p=some (yb1 s left) /\ OD d pen s c k /\ (k:Int)<=left /\ ∀ μ',ExtB p μ μ'->μ' p=some (yb1 s (left - k))->Q (.int c) μ'
noncomputable def spOw (j:Nat):Sp3:=λ ds μ Q=>∃ w pen p s left c k,ds=[.tup (encs w),encP pen,.ref p] /\ deps w < j /\ deps w<=4 /\ cnts w<=60 /\ oks w /\ Hd pen /\ μ p=some (yb1 s left) /\ OW w pen s c k /\ (k:Int)<=left /\ ∀ μ',ExtB p μ μ'->μ' p=some (yb1 s (left - k))->Q (.int c) μ'
theorem xa8 (j:Nat) (ds:List D) (μ:Mu) (Q:VK3) (h:spOd j ds μ Q):wh7 ya5 wz1 (spDb 5) (spOt j) { nx:=λ _ μ'=>Q .non μ',rt:=Q } (yd0 zd7 ds) μ:=by
 obtain ⟨d,pen,p,s,left,c,k,rfl,h1,h2,h3,h4,hp,hm,ho,hk,q⟩:=h
 cases ho with
 | times hb ol =>
  rename_i n w
  simp only [okd,dep,cnt] at h1 h2 h3 h4
  exact ⟨n,w,pen,p,s,left,c,k,rfl,by omega,by omega,by omega,h4.2,h4.1.1,h4.1.2,hp,hb,hm,ol,hk,q⟩
 | one hd =>
  have fin:∀ μ1,Ext μ μ1->(if inb s (bfr pen (bxd d))=true then Q (.int 1) μ1 else Q (.int 0) μ1):=λ μ1 e1=>by
   have q1:=q μ1 (e1.b p) (by rw [e1 _ _ hm]; simp)
   split
   ·next hi=>rw [if_pos hi] at q1; exact q1
   ·next hi=>rw [if_neg hi] at q1; exact q1
  have db:spDb 5 [enc d] μ (λ v μ1=>∃ b,v=encB b /\ b=bxd d /\ Ext μ μ1):=⟨d,rfl,by omega,by omega,h3,h4,λ μ1 e1=>⟨_,rfl,rfl,e1⟩⟩
  cases d with
  | times n w=>simp only [dep] at hd; omega
  | _ =>
   conv=>whnf
   rw [hm]
   refine ⟨⟨rfl,rfl⟩,_,rfl,by omega,by omega,h3,h4,λ μ1 e1=>⟨pen,_,rfl,hp,p,s,left,_,rfl,e1 _ _ hm,?_⟩⟩
   exact fin μ1 e1
noncomputable def WOw (w:List Dd) (pen:Pen) (p:Addr) (s:Stk) (left c:Int) (k:Nat) (μ:Mu):List D->St3->Mu->Prop:=λ l ρ μ'=>∃ (r:List Dd) (pen':Pen) (c0 c1:Int) (k0 k1:Nat) (dd:Option D),l=encs r /\ ρ=[some (.tup (encs w)),some (encP pen),some (.ref p),some (.int c0),some (encP pen'),dd] /\ oks r /\ deps r<=deps w /\ cnts r<=cnts w /\ Hd pen' /\ ExtB p μ μ' /\ μ' p=some (yb1 s (left - k0)) /\ OW r pen' s c1 k1 /\ c0 + c1=c /\ k0 + k1=k
theorem zz7 (j:Nat) (ds:List D) (μ:Mu) (Q:VK3) (h:spOw j ds μ Q):yh7 yl1 (spOd j) (spPd 5) { nx:=λ _ μ'=>Q .non μ',rt:=Q } (yd0 xd7 ds) μ:=by
 obtain ⟨w,pen,p,s,left,c,k,rfl,h1,h2,h3,h4,hp,hm,ho,hk,q⟩:=h
 refine xr0 (WOw w pen p s left c k μ) ?_ (λ _ _ _ _=>trivial) ?_ ?_
 ·exact ⟨w,pen,0,c,0,k,none,rfl,rfl,h4,Nat.le_refl _,Nat.le_refl _,hp,ExtB.refl _ _,by rw [hm]; simp,ho,by omega,by omega⟩
 ·rintro ρ μ' ⟨r,pen',c0,c1,k0,k1,dd,e,rfl,_,_,_,_,ex,hm',o1,e1,e2⟩
  cases r with
  | cons _ _=>simp [encs] at e
  | nil =>
   cases o1
   have e3:c0=c:=by omega
   have e4:k0=k:=by omega
   subst e3 e4
   exact q μ' ex hm'
 ·rintro x rest ρ μ' ⟨r,pen',c0,c1,k0,k1,dd,e,rfl,ok,dp,cn,hp',ex,hm',o1,e1,e2⟩
  cases r with
  | nil=>simp [encs] at e
  | cons d r =>
   simp only [encs,List.cons.injEq] at e
   obtain ⟨rfl,rfl⟩:=e
   simp only [oks,deps,cnts] at ok dp cn
   cases o1 with
   | cons od ow =>
    rename_i ca cb ka kb
    refine ⟨d,pen',p,s,left - k0,ca,ka,rfl,by omega,by omega,by omega,ok.1,hp',hm',od,by omega,λ μ1 x1 x2=>?_⟩
    refine ⟨d,rfl,by omega,by omega,by omega,ok.1,pen',pd d,rfl,hp',?_⟩
    refine ⟨r,led pen' (pd d),c0 + ca,cb,k0 + ka,kb,_,rfl,rfl,ok.2,by omega,by omega,ys0 _ _,ex.trans x1,?_,ow,by omega,by omega⟩
    rw [x2]
    congr 2
    omega
noncomputable def WOt (n:Int) (w:List Dd) (pen:Pen) (p:Addr) (s:Stk) (left c:Int) (k:Nat) (μ:Mu):List D->St3->Mu->Prop:=λ l ρ μ'=>∃ (is:List Int) (c0 c1:Int) (k0 k1:Nat) (dd ss:Option D),l=is.map D.int /\ ρ=[some (.int n),some (.tup (encs w)),some (encP pen),some (.ref p),some (encP (pb w)),some (encB (bxa w none st)),some (.int c0),some (encI (ask n (pb w) pen (bxa w none st) s)),dd,ss] /\ ExtB p μ μ' /\ μ' p=some (yb1 s (left - k0)) /\ OL is n w pen s c1 k1 /\ c0 + c1=c /\ k0 + k1=k
theorem wz7 (j:Nat) (ds:List D) (μ:Mu) (Q:VK3) (h:spOt (j + 1) ds μ Q):zh7 spCd ya5 wz1 wx3 zg6 yl1 (spOw j) (spPb 5) zx3 (spWb 5) { nx:=λ _ μ'=>Q .non μ',rt:=Q } (yd0 yd7 ds) μ:=by
 obtain ⟨n,w,pen,p,s,left,c,k,rfl,h1,h2,h3,h4,n0,n1,hp,hb,hm,ho,hk,q⟩:=h
 obtain ⟨b1,b2⟩:=yg4 (xg4 w h4) (by omega) (by omega)
 refine ⟨w,rfl,by omega,by omega,by omega,h4,w,rfl,by omega,by omega,by omega,h4,λ μ1 e1=>⟨n,pb w,pen,bxa w none st,p,s,left,rfl,xu0 w,hp,hb,e1 _ _ hm,?_⟩⟩
 refine xr0 (WOt n w pen p s left c k μ) ?_ (λ _ _ _ _=>trivial) ?_ ?_
 ·exact ⟨_,0,c,0,k,none,none,xx7 _,rfl,e1.b p,by rw [e1 _ _ hm]; simp,ho,by omega,by omega⟩
 ·rintro ρ μ' ⟨is,c0,c1,k0,k1,dd,ss,e,rfl,ex,hm',o1,e1,e2⟩
  cases is with
  | cons _ _=>simp at e
  | nil =>
   cases o1
   have e3:c0=c:=by omega
   have e4:k0=k:=by omega
   subst e3 e4
   exact q μ' ex hm'
 ·rintro x rest ρ μ' ⟨is,c0,c1,k0,k1,dd,ss,e,rfl,ex,hm',o1,e1,e2⟩
  cases is with
  | nil=>simp at e
  | cons i is =>
   simp only [List.map_cons,List.cons.injEq] at e
   obtain ⟨rfl,rfl⟩:=e
   cases o1 with
   | out hi i0 i1 ol =>
    refine ⟨pb w,i,rfl,xu0 w,i0,i1,b1,b2,pen,rep (pb w) i,rfl,hp,?_⟩
    conv=>whnf
    rw [hm']
    refine ⟨⟨rfl,rfl⟩,led pen (rep (pb w) i),bxa w none st,rfl,ys0 _ _,p,s,left - k0,_,rfl,hm',?_⟩
    rw [hi]
    exact ⟨is,c0,c1,k0,k1,_,_,rfl,rfl,ex,hm',ol,e1,e2⟩
   | inn hi i0 i1 ow l1 l2 ol =>
    rename_i cb ca kb ka
    refine ⟨pb w,i,rfl,xu0 w,i0,i1,b1,b2,pen,rep (pb w) i,rfl,hp,?_⟩
    conv=>whnf
    rw [hm']
    refine ⟨⟨rfl,rfl⟩,led pen (rep (pb w) i),bxa w none st,rfl,ys0 _ _,p,s,left - k0,_,rfl,hm',?_⟩
    rw [hi]
    conv=>whnf
    rw [hm']
    refine ⟨⟨rfl,rfl⟩,p,s,left - k0,rfl,hm',by omega,?_⟩
    refine ⟨i,n,pb w,rfl,w,led pen (rep (pb w) i),p,s,left - k0 - 1,ca,ka,rfl,by omega,by omega,by omega,h4,ys0 _ _,xc0,ow,by omega,λ μ2 x1 x2=>?_⟩
    refine ⟨.inl (.inr ⟨l1,l2⟩),is,c0 + lk n (pb w) i * ca,cb,k0 + (1 + ka),kb,_,_,rfl,rfl,(ex.trans ExtB.upd).trans x1,?_,ol,by omega,by omega⟩
    rw [x2]
    congr 2
    omega
noncomputable def spDo:Sp3:=λ ds μ Q=>∃ w s c k,ds=[.tup (encs w),encS s] /\ Wd w /\ wy s /\ OW w st s c k /\ k<=1000 /\ ∀ μ',Ext μ μ'->Q (.int c) μ'
theorem xb8 (ds:List D) (μ:Mu) (Q:VK3) (h:spDo ds μ Q):wi7 xy3 zy3 za5 (spOw 5) { nx:=λ _ μ'=>Q .non μ',rt:=Q } (yd0 ze7 ds) μ:=by
 obtain ⟨w,s,c,k,rfl,hw,hs,ho,hk,q⟩:=h
 obtain ⟨w1,w2,w3⟩:=hw
 refine ⟨w,rfl,⟨w1,w2,w3⟩,s,rfl,hs,λ p hp=>⟨p,s,rfl,hs,xc0,rfl,w,st,p,s,1000,c,k,rfl,by omega,by omega,by omega,w1,xp1,xc0,ho,by omega,λ μ' x1 x2=>q μ' λ a o ha=>?_⟩⟩
 have hap:a ≠ p:=yj0 ha hp
 exact x1 a o hap (by rw [wd0 hap,wd0 hap]; exact ha)
theorem inb_iff {s:Stk} {b:Bx}:inb s (some b)=true ↔ Inb b s:=by
 simp only [inb,Bool.and_eq_true,decide_eq_true_eq]
 exact Iff.rfl
theorem wk4 {l:List Stk} {o:Option Bx} {s:Stk} (h:IsBox l o) (hs:s ∈ l):inb s o=true:=by
 cases o with
 | none=>have e:l=[]:=h; rw [e] at hs; cases hs
 | some b=>exact inb_iff.mpr (h.1 s hs)
noncomputable def Cn (l:List Stk) (pen p:Pen) (s:Stk) (i:Nat):Nat:=(l.map (mvS (led pen (pw p i)))).count s
theorem yy5 {l:List Stk} {o:Option Bx} {pen p:Pen} {s:Stk} {i:Nat} (hw:wys l) (h:IsBox l o) (hn:Cn l pen p s i ≠ 0):inb s (bfr (led pen (pw p i)) o)=true:=by
 refine wk4 (IsBox.fr (ys0 _ _) hw h) ?_
 exact List.count_pos_iff.mp (Nat.pos_of_ne_zero hn)
theorem ya7 {l:List Stk} {o:Option Bx} {pen p:Pen} {s:Stk} {i:Nat} (hw:wys l) (h:IsBox l o) (hn:inb s (bfr (led pen (pw p i)) o)=false):Cn l pen p s i=0:=by
 rcases Nat.eq_zero_or_pos (Cn l pen p s i) with z | z
 ·exact z
 ·have:=yy5 hw h (Nat.pos_iff_ne_zero.mp z)
  rw [hn] at this
  cases this
noncomputable def Sn (f:Nat->Nat):Nat->Nat
 | 0=>0
 | n + 1=>Sn f n + f n
theorem zh2 (l:List Stk) {pen p:Pen} (hp:Hd pen) (s:Stk):∀ n,((tms l p n).map (mvS pen)).count s=Sn (Cn l pen p s) n
 | 0=>by simp [wy2,Sn]
 | n + 1=>by
  rw [xz1,List.map_append,List.count_append,zh2 l hp s n,<- wq0 hp (xd2 _ _)]
  rfl
noncomputable def sumL (f:Int->Int):List Int->Int
 | []=>0
 | i :: r=>f i + sumL f r
theorem xa3 (f:Int->Int):∀ a b,sumL f (a ++ b)=sumL f a + sumL f b
 | [],b=>by simp [sumL]
 | i :: r,b=>by simp only [List.cons_append,sumL,xa3 f r b,Int.add_assoc]
theorem zf1 {f g:Int->Int}:∀ {l:List Int},(∀ i ∈ l,f i=g i)->sumL f l=sumL g l
 | [],_=>rfl
 | i :: r,h=>by simp only [sumL]; rw [h i (List.mem_cons_self ..),zf1 λ j hj=>h j (List.mem_cons_of_mem _ hj)]
theorem xg2 (f:Nat->Nat) (n:Nat):∀ m,(∀ i,n<=i->i < n + m->f i=0)->Sn f (n + m)=Sn f n
 | 0,_=>rfl
 | m + 1,h=>by
  show Sn f (n + m) + f (n + m)=_
  rw [xg2 f n m λ i a b=>h i a (by omega),h (n + m) (by omega) (by omega)]
  rfl
theorem xv3 (f:Nat->Nat) (A:Nat):∀ m,sumL (λ i=>(f i.toNat:Int)) ((List.range m).map λ i=>(A:Int) + (i:Nat))=(Sn f (A + m):Int) - Sn f A
 | 0=>by simp [sumL]
 | m + 1=>by
  rw [List.range_succ,List.map_append,xa3,xv3 f A m]
  show _ + ((f ((A:Int) + (m:Nat)).toNat:Int) + 0)=((Sn f (A + m) + f (A + m):Nat):Int) - _
  rw [show ((A:Int) + (m:Nat)).toNat=A + m by omega]
  omega
theorem ye6 (f:Nat->Nat) {a b n:Int} (ha:0<=a) (hb:b<=n) (hn:0<=n) (hz:∀ i:Nat,(i:Int) < n->¬ (a<=i /\ (i:Int) < b)->f i=0):sumL (λ i=>(f i.toNat:Int)) (rngI (a,b))=(Sn f n.toNat:Int):=by
 have z0:∀ m:Nat,(m:Int)<=a->(m:Int)<=n->Sn f m=0:=λ m h h'=>by
  have:=xg2 f 0 m λ i _ hi=>hz i (by omega) (by omega)
  rw [Nat.zero_add] at this
  rw [this]; rfl
 unfold rngI
 dsimp only
 by_cases c:a<=b
 ·have e:(λ i:Nat=>a + (i:Int))=λ i:Nat=>((a.toNat:Nat):Int) + (i:Int):=by
    funext i; omega
  have r:=xv3 f a.toNat (b - a).toNat
  rw [show (List.range (b - a).toNat).map (λ i:Nat=>a + (i:Int))=(List.range (b - a).toNat).map (λ i:Nat=>((a.toNat:Nat):Int) + (i:Int)) from congrArg (λ g=>List.map g _) e,r,z0 a.toNat (by omega) (by omega)]
  have t:=xg2 f (a.toNat + (b - a).toNat) (n.toNat - (a.toNat + (b - a).toNat)) λ i h1 h2=>hz i (by omega) (by omega)
  rw [show a.toNat + (b - a).toNat + (n.toNat - (a.toNat + (b - a).toNat))=n.toNat by omega] at t
  rw [t]
  omega
 ·rw [show (b - a).toNat=0 by omega]
  have t:=xg2 f 0 n.toNat λ i _ h2=>hz i (by omega) (by omega)
  rw [Nat.zero_add] at t
  rw [t]
  rfl
theorem xb3 {n low high sh least greatest:Int} {i:Int} (hs:0<=sh) (h1:low + i * sh<=least) (h2:greatest<=high + i * sh) (h0:0<=i) (hi:i < n):(spn0 n low high sh least greatest).1<=i /\ i < (spn0 n low high sh least greatest).2:=by
 unfold spn0
 by_cases c:sh=0
 ·subst c
  rw [if_pos rfl,if_pos (by omega)]
  exact ⟨h0,hi⟩
 ·rw [if_neg c]
  have sp:0 < sh:=by omega
  have a1:i<=(least - low) / sh:=(Int.le_ediv_iff_mul_le sp).mpr (by omega)
  have a2 : -i<=(high - greatest) / sh:=(Int.le_ediv_iff_mul_le sp).mpr (by rw [Int.neg_mul]; omega)
  dsimp only
  constructor
  ·split <;> omega
  ·split <;> omega
theorem ww3 {n low high sh least greatest:Int} {i:Int} (h1:low + i * sh<=least) (h2:greatest<=high + i * sh) (h0:0<=i) (hi:i < n):(spn n low high sh least greatest).1<=i /\ i < (spn n low high sh least greatest).2:=by
 unfold spn
 by_cases c:sh < 0
 ·rw [if_pos c]
  exact xb3 (by omega) (by rw [Int.mul_neg]; omega) (by rw [Int.mul_neg]; omega) h0 hi
 ·rw [if_neg c]
  exact xb3 (by omega) h1 h2 h0 hi
theorem wf6 {n low high sh least greatest:Int} (hn:0<=n):0<=(spn0 n low high sh least greatest).1 /\ (spn0 n low high sh least greatest).2<=n:=by
 unfold spn0
 split
 ·split
  ·exact ⟨Int.le_refl _,Int.le_refl _⟩
  ·exact ⟨Int.le_refl _,hn⟩
 ·dsimp only
  constructor <;> split <;> omega
theorem wa3 {n low high sh least greatest:Int} (hn:0<=n):0<=(spn n low high sh least greatest).1 /\ (spn n low high sh least greatest).2<=n:=by
 unfold spn
 split <;> exact wf6 hn
theorem zv5 (x a b:Int):mn (x + a) (x + b)=x + mn a b:=by unfold mn; split <;> split <;> omega
theorem yv5 (x a b:Int):mx (x + a) (x + b)=x + mx a b:=by unfold mx; split <;> split <;> omega
noncomputable def dX (pen p:Pen):Int:=p.1 * cs pen.2.2 - p.2.1 * sn pen.2.2
noncomputable def dY (pen p:Pen):Int:=p.1 * sn pen.2.2 + p.2.1 * cs pen.2.2
theorem wi3 {pen p:Pen} (h1:Hd pen) (h4:p.2.2=0) (i:Int) {b f:Bx} (e:bfr pen (some b)=some f):bfr (led pen (p.1 * i,p.2.1 * i,0)) (some b)=some (f.1 + i * dX pen p,f.2.1 + i * dY pen p,f.2.2.1 + i * dX pen p,f.2.2.2 + i * dY pen p):=by
 cases e
 have e3:(led pen (p.1 * i,p.2.1 * i,0)).2.2=pen.2.2:=by
  show (pen.2.2 + 0) % 4=_
  rcases h1 with h | h | h | h <;> rw [h] <;> rfl
 have a1:∀ c d:Int,(led (led pen (p.1 * i,p.2.1 * i,0)) (c,d,0)).1=i * dX pen p + (led pen (c,d,0)).1:=λ c d=>by
  show (led pen (p.1 * i,p.2.1 * i,0)).1 + c * cs (led pen (p.1 * i,p.2.1 * i,0)).2.2 - d * sn (led pen (p.1 * i,p.2.1 * i,0)).2.2=i * dX pen p + (pen.1 + c * cs pen.2.2 - d * sn pen.2.2)
  rw [e3]
  show pen.1 + p.1 * i * cs pen.2.2 - p.2.1 * i * sn pen.2.2 + c * cs pen.2.2 - d * sn pen.2.2=_
  unfold dX
  grind
 have a2:∀ c d:Int,(led (led pen (p.1 * i,p.2.1 * i,0)) (c,d,0)).2.1=i * dY pen p + (led pen (c,d,0)).2.1:=λ c d=>by
  show (led pen (p.1 * i,p.2.1 * i,0)).2.1 + c * sn (led pen (p.1 * i,p.2.1 * i,0)).2.2 + d * cs (led pen (p.1 * i,p.2.1 * i,0)).2.2=i * dY pen p + (pen.2.1 + c * sn pen.2.2 + d * cs pen.2.2)
  rw [e3]
  show pen.2.1 + p.1 * i * sn pen.2.2 + p.2.1 * i * cs pen.2.2 + c * sn pen.2.2 + d * cs pen.2.2=_
  unfold dY
  grind
 unfold bfr
 dsimp only
 rw [a1,a1,a2,a2,zv5,zv5,yv5,yv5]
 refine congrArg some (Prod.ext ?_ (Prod.ext ?_ (Prod.ext ?_ ?_))) <;> exact Int.add_comm _ _
theorem ye8 (i:Nat):pw st i=st:=by
 induction i with
 | zero=>rfl
 | succ i ih=>show led (pw st i) st=st; rw [ih]; exact ze1 xp1
theorem yg2 {f:Nat->Nat} {c:Nat} (h:∀ i,f i=c):∀ n,Sn f n=n * c
 | 0=>by simp [Sn]
 | n + 1=>by rw [Sn,yg2 h n,h,Nat.succ_mul]
theorem xw4 {f:Nat->Nat} (h:∀ i,f i=f (i % 4)):∀ n,Sn f n=(n + 3) / 4 * f 0 + (n + 2) / 4 * f 1 + (n + 1) / 4 * f 2 + n / 4 * f 3
 | 0=>by simp [Sn]
 | n + 1=>by
  rw [Sn,xw4 h n,h n]
  have r:=Nat.div_add_mod n 4
  have r4:=Nat.mod_lt n (show 0 < 4 by decide)
  generalize hm:n / 4=m at r
  generalize hr:n % 4=q at r r4
  have:q=0 \/ q=1 \/ q=2 \/ q=3:=by omega
  rcases this with rfl | rfl | rfl | rfl
  ·rw [show (n + 1 + 3) / 4=m + 1 by omega,show (n + 1 + 2) / 4=m by omega,show (n + 1 + 1) / 4=m by omega,show (n + 1) / 4=m by omega]; simp only [Nat.add_mul,Nat.one_mul]; omega
  ·rw [show (n + 1 + 3) / 4=m + 1 by omega,show (n + 1 + 2) / 4=m + 1 by omega,show (n + 1 + 1) / 4=m by omega,show (n + 1) / 4=m by omega]; simp only [Nat.add_mul,Nat.one_mul]; omega
  ·rw [show (n + 1 + 3) / 4=m + 1 by omega,show (n + 1 + 2) / 4=m + 1 by omega,show (n + 1 + 1) / 4=m + 1 by omega,show (n + 1) / 4=m by omega]; simp only [Nat.add_mul,Nat.one_mul]; omega
  ·rw [show (n + 1 + 3) / 4=m + 1 by omega,show (n + 1 + 2) / 4=m + 1 by omega,show (n + 1 + 1) / 4=m + 1 by omega,show (n + 1) / 4=m + 1 by omega]; simp only [Nat.add_mul,Nat.one_mul]; omega
theorem zi5 {a:Int × Int} {i:Int} (h:i ∈ rngI a):a.1<=i /\ i < a.2:=by
 unfold rngI at h
 obtain ⟨k,hk,rfl⟩:=List.mem_map.mp h
 rw [List.mem_range] at hk
 omega
theorem yj5 (a:Int × Int):(rngI a).length=(a.2 - a.1).toNat:=by simp [rngI]
theorem xw8 {n:Int} {p pen:Pen} {o:Option Bx} {s:Stk} (hn:0<=n):0<=(ask n p pen o s).1 /\ (ask n p pen o s).2<=n:=by
 unfold ask
 split
 ·exact ⟨Int.le_refl _,hn⟩
 split
 ·exact ⟨Int.le_refl _,by show lo1 n 1<=n; unfold lo1; split <;> omega⟩
 split
 ·exact ⟨Int.le_refl _,by show lo1 n 4<=n; unfold lo1; split <;> omega⟩
 split
 ·rename_i f g _ _
  have a1:=@wa3 n f.1 f.2.2.1 (g.1 - f.1) s.1 (gx s) hn
  have a2:=@wa3 n f.2.1 f.2.2.2 (g.2.1 - f.2.1) s.2.1 (gy s) hn
  dsimp only [hi1,lo1]
  constructor <;> split <;> omega
 ·exact ⟨Int.le_refl _,hn⟩
theorem xc7 {l:List Stk} {o:Option Bx} {pen p:Pen} {s:Stk} {n:Int} (hp:Hd pen) (hq:Hd p) (hw:wys l) (hb:IsBox l o) (hn:0<=n) :
    sumL (λ i=>lk n p i * (Cn l pen p s i.toNat:Nat)) (rngI (ask n p pen o s))=(Sn (Cn l pen p s) n.toNat:Nat):=by
 by_cases c0:o=none
 ·subst c0
  have e:l=[]:=hb
  subst e
  have z:∀ i,Cn [] pen p s i=0:=λ i=>by simp [Cn]
  rw [show ask n p pen none s=(0,0) by simp [ask],yg2 z]
  simp [rngI,sumL]
 by_cases c1:p=st
 ·subst c1
  have z:∀ i,Cn l pen st s i=Cn l pen st s 0:=λ i=>by unfold Cn; rw [ye8,ye8]
  rw [yg2 z,show ask n st pen o s=(0,lo1 n 1) by unfold ask; rw [if_neg c0,if_pos rfl]]
  by_cases c:n=0
  ·subst c
   show (0:Int)=((0 * _:Nat):Int)
   rw [Nat.zero_mul]; rfl
  ·rw [show lo1 n 1=1 by unfold lo1; split <;> omega,show rngI (0,1)=[0] from rfl]
   show lk n st 0 * ((Cn l pen st s 0:Nat):Int) + 0=_
   rw [show lk n st 0=n from if_pos rfl,Int.natCast_mul,Int.toNat_of_nonneg hn,Int.add_zero]
 by_cases c2:p.2.2=0
 ·cases o with
  | none=>exact absurd rfl c0
  | some b =>
   obtain ⟨f,ef⟩:∃ f,bfr pen (some b)=some f:=⟨_,rfl⟩
   have eg:bfr (led pen p) (some b)=some (f.1 + dX pen p,f.2.1 + dY pen p,f.2.2.1 + dX pen p,f.2.2.2 + dY pen p):=by
    have:=wi3 hp c2 1 ef
    rw [Int.mul_one,Int.mul_one,show ((p.1,p.2.1,0):Pen)=p by rw [<- c2]] at this
    simp only [Int.one_mul] at this
    exact this
   have ea:ask n p pen (some b) s=(hi1 (spn n f.1 f.2.2.1 (dX pen p) s.1 (gx s)).1 (spn n f.2.1 f.2.2.2 (dY pen p) s.2.1 (gy s)).1,lo1 (spn n f.1 f.2.2.1 (dX pen p) s.1 (gx s)).2 (spn n f.2.1 f.2.2.2 (dY pen p) s.2.1 (gy s)).2):=by
    unfold ask
    rw [if_neg c0,if_neg c1,if_neg (λ h=>h c2),ef,eg]
    dsimp only
    rw [show f.1 + dX pen p - f.1=dX pen p by omega,show f.2.1 + dY pen p - f.2.1=dY pen p by omega]
   rw [ea]
   have a1:=@wa3 n f.1 f.2.2.1 (dX pen p) s.1 (gx s) hn
   have a2:=@wa3 n f.2.1 f.2.2.2 (dY pen p) s.2.1 (gy s) hn
   rw [zf1 (g:=λ i=>((Cn l pen p s i.toNat:Nat):Int)) λ i _=>by unfold lk; rw [if_neg c1,if_pos c2,Int.one_mul]]
   refine ye6 _ ?_ ?_ hn ?_
   ·unfold hi1; split <;> omega
   ·unfold lo1; split <;> omega
   ·intro i hi hni
    refine Decidable.byContradiction λ hc=>hni ?_
    have q:=yy5 hw hb hc
    rw [zb2 c2 i,wi3 hp c2 i ef] at q
    obtain ⟨q1,q2,q3,q4⟩:=inb_iff.mp q
    have u:=ww3 (n:=n) (i:=i) (greatest:=gx s) q1 q3 (by omega) hi
    have v:=ww3 (n:=n) (i:=i) (greatest:=gy s) q2 q4 (by omega) hi
    unfold hi1 lo1
    constructor <;> split <;> omega
 ·have z:∀ i,Cn l pen p s i=Cn l pen p s (i % 4):=λ i=>by unfold Cn; rw [we4 hq c2 i]
  have lkv:∀ i,lk n p i=(n - i + 3) / 4:=λ i=>by unfold lk; rw [if_neg c1,if_neg c2]
  rw [xw4 z,show ask n p pen o s=(0,lo1 n 4) by unfold ask; rw [if_neg c0,if_neg c1,if_pos c2]]
  rw [zf1 (g:=λ i=>(n - i + 3) / 4 * ((Cn l pen p s i.toNat:Nat):Int)) λ i _=>by rw [lkv]]
  clear lkv z
  generalize Cn l pen p s=C
  obtain ⟨m,rfl⟩:=Int.eq_ofNat_of_zero_le hn
  rw [Int.toNat_natCast]
  rcases m with _ | _ | _ | _ | m
  ·rw [show rngI (0,lo1 ((0:Nat):Int) 4)=[] from rfl]
   simp [sumL]
  ·rw [show rngI (0,lo1 ((0 + 1:Nat):Int) 4)=[0] from rfl]
   simp [sumL]
  ·rw [show rngI (0,lo1 ((0 + 1 + 1:Nat):Int) 4)=[0,1] from rfl]
   simp [sumL]
  ·rw [show rngI (0,lo1 ((0 + 1 + 1 + 1:Nat):Int) 4)=[0,1,2] from rfl]
   simp [sumL]
   omega
  ·rw [show lo1 ((m + 1 + 1 + 1 + 1:Nat):Int) 4=4 by unfold lo1; split <;> omega,show rngI (0,4)=[0,1,2,3] from rfl]
   simp only [sumL]
   rw [show (((m + 1 + 1 + 1 + 1:Nat):Int) - 0 + 3) / 4=(((m + 1 + 1 + 1 + 1 + 3) / 4:Nat):Int) by omega,show (((m + 1 + 1 + 1 + 1:Nat):Int) - 1 + 3) / 4=(((m + 1 + 1 + 1 + 1 + 2) / 4:Nat):Int) by omega,show (((m + 1 + 1 + 1 + 1:Nat):Int) - 2 + 3) / 4=(((m + 1 + 1 + 1 + 1 + 1) / 4:Nat):Int) by omega,show (((m + 1 + 1 + 1 + 1:Nat):Int) - 3 + 3) / 4=(((m + 1 + 1 + 1 + 1) / 4:Nat):Int) by omega]
   rw [show (0:Int).toNat=0 from rfl,show (1:Int).toNat=1 from rfl,show (2:Int).toNat=2 from rfl,show (3:Int).toNat=3 from rfl]
   simp only [<- Int.natCast_mul]
   omega
mutual
noncomputable def Bd:Dd->Nat
 | .times n w=>n.toNat * (1 + Bs w)
 | _=>0
noncomputable def Bs:List Dd->Nat
 | []=>0
 | d :: r=>Bd d + Bs r
end
mutual
noncomputable def gd:Dd->Prop
 | .times _ w=>bdd (pb w) /\ (ze0 w).length < 2 ^ 64 /\ gds w
 | _=>True
noncomputable def gds:List Dd->Prop
 | []=>True
 | d :: r=>gd d /\ gds r
end
theorem zu5 {w:List Dd} {n:Int} {pen:Pen} {s:Stk} {K:Nat} (ow:∀ pen,Hd pen->∃ k,k<=K /\ OW w pen s ((((ze0 w).map (mvS pen)).count s:Nat):Int) k) (hw:oks w) (hl:(ze0 w).length < 2 ^ 64) :
    ∀ is:List Int,(∀ i ∈ is,0<=i /\ i<=G)->∃ k,k<=is.length * (1 + K) /\ OL is n w pen s (sumL (λ i=>lk n (pb w) i * ((Cn (ze0 w) pen (pb w) s i.toNat:Nat):Int)) is) k
 | [],_=>⟨0,by simp,.nil⟩
 | i :: r,h=>by
  obtain ⟨k,hk,o⟩:=zu5 (n:=n) (pen:=pen) ow hw hl r λ j hj=>h j (List.mem_cons_of_mem _ hj)
  obtain ⟨h0,h1⟩:=h i (List.mem_cons_self ..)
  have e:rep (pb w) i=pw (pb w) i.toNat:=yk2 (xu0 w) h0
  have len:(i :: r).length * (1 + K)=r.length * (1 + K) + (1 + K):=by rw [List.length_cons,Nat.succ_mul]
  by_cases c:inb s (bfr (led pen (rep (pb w) i)) (bxa w none st))=true
  ·obtain ⟨k1,hk1,o1⟩:=ow (led pen (rep (pb w) i)) (ys0 _ _)
   have lc:Cn (ze0 w) pen (pb w) s i.toNat<=(ze0 w).length:=by
    unfold Cn
    have:=List.count_le_length (a:=s) (l:=(ze0 w).map (mvS (led pen (pw (pb w) i.toNat))))
    rw [List.length_map] at this
    exact this
   refine ⟨1 + k1 + k,by rw [len]; omega,?_⟩
   refine OL.inn c h0 h1 ?_ (by omega) (by omega) o
   have o2:=o1
   rw [e] at o2 ⊢
   exact o2
  ·have c':inb s (bfr (led pen (rep (pb w) i)) (bxa w none st))=false:=by simpa using c
   have z:Cn (ze0 w) pen (pb w) s i.toNat=0:=ya7 (wp0 w) (zr1 w hw) (by rw [<- e]; exact c')
   refine ⟨k,by rw [len]; omega,?_⟩
   have o2:=OL.out c' h0 h1 o
   simp only [sumL,z,Int.natCast_zero,Int.mul_zero,Int.zero_add]
   exact o2
theorem wu8 {x y h n:Int} (hn:0 < n) (hp:h=0 \/ h=1 \/ h=2 \/ h=3):bfr (x,y,h) (some (0,0,n,0))=if h=0 then some (x,y,x + n,y) else if h=1 then some (x,y,x,y + n) else if h=2 then some (x - n,y,x,y) else some (x,y - n,x,y):=by
 rcases hp with rfl | rfl | rfl | rfl
 ·have a:¬ x + n < x:=by omega
  have b:x < x + n:=by omega
  simp [bfr,led,cs,sn,mn,mx,a,b]
 ·have a:¬ y + n < y:=by omega
  have b:y < y + n:=by omega
  simp [bfr,led,cs,sn,mn,mx,a,b]
 ·have a:x + -n < x:=by omega
  have b:¬ x < x + -n:=by omega
  simp [bfr,led,cs,sn,mn,mx,a,b,Int.sub_eq_add_neg]
 ·have a:y + -n < y:=by omega
  have b:¬ y < y + -n:=by omega
  simp [bfr,led,cs,sn,mn,mx,a,b,Int.sub_eq_add_neg]
theorem ym5 {pen:Pen} (hp:Hd pen) {s:Stk} (hs:wy s) {n:Int} (hn:0<=n) (hG:n<=G):((((strk (.go n)).map (mvS pen)).count s:Nat):Int)=if inb s (bfr pen (bxd (.go n)))=true then 1 else 0:=by
 have hb:=xu4 (.go n) ⟨hn,hG⟩
 by_cases c:n=0
 ·subst c
  simp [strk,bxd,bfr,inb]
 have bx:bxd (.go n)=some (0,0,n,0):=by simp only [bxd]; rw [if_neg c]
 have iff:s ∈ (strk (.go n)).map (mvS pen) ↔ inb s (bfr pen (bxd (.go n)))=true:=by
  refine ⟨λ h=>wk4 (IsBox.fr hp (zy1 _) hb) h,λ h=>?_⟩
  rw [bx] at h
  simp only [strk]
  rw [List.map_map]
  obtain ⟨x,y,k⟩:=pen
  obtain ⟨a,b,w⟩:=s
  unfold Hd at hp
  dsimp only at hp
  rw [wu8 (by omega) hp] at h
  rcases hp with rfl | rfl | rfl | rfl
  ·obtain ⟨q1,q2,q3,q4⟩:=inb_iff.mp h
   dsimp only at q1 q2 q3 q4
   rcases hs with e | e <;> dsimp only at e <;> subst e
   ·exact List.mem_map.mpr ⟨(a - x).toNat,List.mem_range.mpr (by omega),by simp [mvS]; omega⟩
   ·omega
  ·obtain ⟨q1,q2,q3,q4⟩:=inb_iff.mp h
   dsimp only at q1 q2 q3 q4
   rcases hs with e | e <;> dsimp only at e <;> subst e
   ·omega
   ·exact List.mem_map.mpr ⟨(b - y).toNat,List.mem_range.mpr (by omega),by simp [mvS]; omega⟩
  ·obtain ⟨q1,q2,q3,q4⟩:=inb_iff.mp h
   dsimp only at q1 q2 q3 q4
   rcases hs with e | e <;> dsimp only at e <;> subst e
   ·exact List.mem_map.mpr ⟨(x - 1 - a).toNat,List.mem_range.mpr (by omega),by simp [mvS]; omega⟩
   ·omega
  ·obtain ⟨q1,q2,q3,q4⟩:=inb_iff.mp h
   dsimp only at q1 q2 q3 q4
   rcases hs with e | e <;> dsimp only at e <;> subst e
   ·omega
   ·exact List.mem_map.mpr ⟨(y - 1 - b).toNat,List.mem_range.mpr (by omega),by simp [mvS]; omega⟩
 have nd:((strk (.go n)).map (mvS pen)).Nodup:=by
  simp only [strk]
  rw [List.map_map]
  refine List.pairwise_map.mpr (List.nodup_range.imp λ {i j} h e=>h ?_)
  obtain ⟨x,y,k⟩:=pen
  unfold Hd at hp
  dsimp only at hp
  rcases hp with rfl | rfl | rfl | rfl <;> simp [mvS] at e <;> omega
 by_cases m:s ∈ (strk (.go n)).map (mvS pen)
 ·rw [if_pos (iff.mp m),nd.count,if_pos m]; rfl
 ·rw [if_neg (λ h=>m (iff.mpr h)),List.count_eq_zero.mpr m]; rfl
mutual
theorem od:∀ d,okd d->gd d->∀ (pen:Pen) (s:Stk),Hd pen->wy s->∃ k,k<=Bd d /\ OD d pen s ((((strk d).map (mvS pen)).count s:Nat):Int) k
 | .go n,h,_,pen,s,hp,hs=>⟨0,Nat.zero_le _,by rw [ym5 hp hs h.1 h.2]; exact OD.one (by simp only [dep])⟩
 | .jump n,_,_,pen,s,_,_=>⟨0,Nat.zero_le _,by
     have:=OD.one (d:=.jump n) (pen:=pen) (s:=s) (by simp only [dep])
     simpa [bxd,bfr,inb,strk] using this⟩
 | .turn n,_,_,pen,s,_,_=>⟨0,Nat.zero_le _,by
     have:=OD.one (d:=.turn n) (pen:=pen) (s:=s) (by simp only [dep])
     simpa [bxd,bfr,inb,strk] using this⟩
 | .times n w,h,g,pen,s,hp,hs=>by
  simp only [okd] at h
  simp only [gd] at g
  have ai:=@xw8 n (pb w) pen (bxa w none st) s h.1.1
  obtain ⟨k,hk,o⟩:=zu5 (n:=n) (pen:=pen) (s:=s) (K:=Bs w) (λ pen' hp'=>ow w h.2 g.2.2 pen' s hp' hs) h.2 g.2.1 (rngI (ask n (pb w) pen (bxa w none st) s)) λ i hi=>by
   have:=zi5 hi
   omega
  rw [xc7 hp (xu0 w) (wp0 w) (zr1 w h.2) h.1.1] at o
  refine ⟨k,?_,?_⟩
  ·simp only [Bd]
   refine Nat.le_trans hk (Nat.mul_le_mul_right _ ?_)
   rw [yj5]
   omega
  ·simp only [strk]
   rw [zh2 _ hp]
   exact OD.times g.1 o
theorem ow:∀ w,oks w->gds w->∀ (pen:Pen) (s:Stk),Hd pen->wy s->∃ k,k<=Bs w /\ OW w pen s ((((ze0 w).map (mvS pen)).count s:Nat):Int) k
 | [],_,_,pen,s,_,_=>⟨0,Nat.zero_le _,by simp only [ze0,List.map_nil,List.count_nil]; exact OW.nil⟩
 | d :: r,h,g,pen,s,hp,hs=>by
  simp only [oks] at h
  simp only [gds] at g
  obtain ⟨k1,b1,o1⟩:=od d h.1 g.1 pen s hp hs
  obtain ⟨k2,b2,o2⟩:=ow r h.2 g.2 (led pen (pd d)) s (ys0 _ _) hs
  refine ⟨k1 + k2,by simp only [Bs]; omega,?_⟩
  simp only [ze0,List.map_append,List.count_append,Int.natCast_add]
  rw [<- wq0 hp (yp1 d h.1)]
  exact OW.cons o1 o2
end
end Pv
namespace Pv
open PySem Mw
mutual
noncomputable def sq:Dd->Prop
 | .go n=>0<=n /\ n<=2
 | .jump n=>-2<=n /\ n<=2
 | .turn n=>-4<=n /\ n<=4
 | .times n w=>(0<=n /\ n<=3) /\ w.length<=2 /\ sqs w
noncomputable def sqs:List Dd->Prop
 | []=>True
 | d :: r=>sq d /\ sqs r
end
theorem zt1:∀ a b,sqs (a ++ b) ↔ sqs a /\ sqs b
 | [],b=>by simp [sqs]
 | d :: r,b=>by simp only [List.cons_append,sqs,zt1 r b,and_assoc]
theorem wj1:∀ a b,encs (a ++ b)=encs a ++ encs b
 | [],b=>by simp [encs]
 | d :: r,b=>by simp only [List.cons_append,encs,wj1 r b]
theorem ws2 (l:List Stk) (p:Pen):∀ n,(tms l p n).length=n * l.length
 | 0=>by simp [wy2]
 | n + 1=>by rw [xz1,List.length_append,ws2 l p n,List.length_map,Nat.add_mul]; omega
theorem wh3 {α:Type} (l:List α):∀ n,(List.replicate n l).flatten.length=n * l.length
 | 0=>by simp
 | n + 1=>by rw [List.replicate_succ,List.flatten_cons,List.length_append,wh3 l n,Nat.add_mul]; omega
theorem yd1 {a b:Nat} (h:a<=b):6 ^ a<=6 ^ b:=Nat.pow_le_pow_right (by decide) h
theorem wy1 {a b:Nat} (h:a<=b):2 ^ a<=2 ^ b:=Nat.pow_le_pow_right (by decide) h
mutual
theorem yl7:∀ d,sq d->okd d /\ (strk d).length<=2 * 6 ^ dep d /\ (ro d).length<=6 ^ dep d /\ cnt d + 1<=2 * 2 ^ dep d
 | .go n,h=>by
  simp only [sq] at h
  simp only [okd,G,strk,ro,dep,cnt,List.length_map,List.length_range,List.length_cons,List.length_nil]
  omega
 | .jump n,h=>by
  simp only [sq] at h
  simp only [okd,G,strk,ro,dep,cnt,List.length_cons,List.length_nil]
  omega
 | .turn n,h=>by
  simp only [sq] at h
  simp only [okd,G,strk,ro,dep,cnt,List.length_cons,List.length_nil]
  omega
 | .times n w,h=>by
  simp only [sq] at h
  obtain ⟨h1,h2,h3⟩:=h
  obtain ⟨a1,a2,a3,a4⟩:=zw3 w h3
  simp only [okd,G,strk,ro,dep,cnt]
  rw [ws2,wh3,Nat.add_comm 1 (deps w),Nat.pow_succ,Nat.pow_succ]
  have b1:w.length * (2 * 6 ^ deps w)<=2 * (2 * 6 ^ deps w):=Nat.mul_le_mul_right _ h2
  have b2:w.length * 6 ^ deps w<=2 * 6 ^ deps w:=Nat.mul_le_mul_right _ h2
  have b3:w.length * (2 * 2 ^ deps w)<=2 * (2 * 2 ^ deps w):=Nat.mul_le_mul_right _ h2
  have c1:n.toNat * (ze0 w).length<=3 * (2 * (2 * 6 ^ deps w)):=Nat.mul_le_mul (by omega) (Nat.le_trans a2 b1)
  have c2:n.toNat * (ros w).length<=3 * (2 * 6 ^ deps w):=Nat.mul_le_mul (by omega) (Nat.le_trans a3 b2)
  have c3:w.length=0 \/ w.length=1 \/ w.length=2:=by omega
  have c4:1<=2 ^ deps w:=Nat.pow_pos (by decide)
  refine ⟨⟨by omega,a1⟩,by omega,by omega,?_⟩
  rcases c3 with e | e | e <;> rw [e] at a4 <;> omega
theorem zw3:∀ w,sqs w->oks w /\ (ze0 w).length<=w.length * (2 * 6 ^ deps w) /\ (ros w).length<=w.length * 6 ^ deps w /\ cnts w + w.length<=w.length * (2 * 2 ^ deps w)
 | [],h=>by simp [oks,ze0,ros,cnts]
 | d :: r,h=>by
  simp only [sqs] at h
  obtain ⟨a1,a2,a3,a4⟩:=yl7 d h.1
  obtain ⟨b1,b2,b3,b4⟩:=zw3 r h.2
  simp only [oks,ze0,ros,cnts,deps,List.length_append,List.length_map,List.length_cons,Nat.add_mul,Nat.one_mul]
  have c1:6 ^ dep d<=6 ^ max (dep d) (deps r):=yd1 (by omega)
  have c2:6 ^ deps r<=6 ^ max (dep d) (deps r):=yd1 (by omega)
  have c3:2 ^ dep d<=2 ^ max (dep d) (deps r):=wy1 (by omega)
  have c4:2 ^ deps r<=2 ^ max (dep d) (deps r):=wy1 (by omega)
  have e1:r.length * (2 * 6 ^ deps r)<=r.length * (2 * 6 ^ max (dep d) (deps r)):=Nat.mul_le_mul_left _ (by omega)
  have e2:r.length * 6 ^ deps r<=r.length * 6 ^ max (dep d) (deps r):=Nat.mul_le_mul_left _ c2
  have e3:r.length * (2 * 2 ^ deps r)<=r.length * (2 * 2 ^ max (dep d) (deps r)):=Nat.mul_le_mul_left _ (by omega)
  exact ⟨⟨a1,b1⟩,by omega,by omega,by omega⟩
end
theorem zv3 {w:List Dd} (h:sqs w) (hd:deps w<=2) (hl:w.length<=4):Wd w /\ (ze0 w).length<=288 /\ (ros w).length<=144:=by
 obtain ⟨a1,a2,a3,a4⟩:=zw3 w h
 have c2:6 ^ deps w<=6 ^ 2:=yd1 hd
 have c4:2 ^ deps w<=2 ^ 2:=wy1 hd
 have b1:w.length * (2 * 6 ^ deps w)<=4 * (2 * 6 ^ 2):=Nat.mul_le_mul hl (by omega)
 have b2:w.length * 6 ^ deps w<=4 * 6 ^ 2:=Nat.mul_le_mul hl c2
 have b3:w.length * (2 * 2 ^ deps w)<=w.length * (2 * 2 ^ 2):=Nat.mul_le_mul_left _ (by omega)
 refine ⟨⟨a1,by omega,?_⟩,by omega,by omega⟩
 omega
noncomputable def xd1:Sp3:=λ ds μ Q=>∃ (ns:List Int) (k:Int),ds=[.fls (ns.map D.int),.int k] /\ 0<=k /\ ∀ a b p,0<=a->μ p=none->Q (.ref p) (updM μ p (.lst [.int a,.int b]))
theorem yg9 (ds:List D) (μ:Mu) (Q:VK3) (h:xd1 ds μ Q):t_q4 { nx:=λ _ μ'=>Q .non μ',rt:=Q } (yd0 N_q4 ds) μ:=by
 obtain ⟨ns,k,rfl,hk,q⟩:=h
 have e:((10:Int) ^ (18:Int).toNat)=1000000000000000000:=by decide
 have c:CPow 10 18:=⟨by decide,by decide,by decide⟩
 simp only [t_q4,seq3,set3,c3,ifs3,b3,o3,v3,yd0,List.map_cons,List.map_nil,N_q4,List.length_cons,List.length_nil,Nat.zero_add,Nat.reduceAdd,Nat.reduceSub,List.replicate,List.cons_append,List.nil_append,List.set_cons_succ,List.set_cons_zero,getI,zc0,wa0,nil3,lenR,ltR,xv0,decide_eq_true_eq,ixR,powR,int2,c,geR,e,ret3,lst3,subR,true_and,yg0,mulR,addR,modR]
 have key:∀ i:Int,(if 1000000000000000000<=i then 2<=sizeLine /\ ∀ p,μ p=none->Q (.ref p) (updM μ p (.lst [.int (i - 1000000000000000000),.int 1]))
     else CMul 7919 k /\ (0:Int) < 2147483647 /\ 2<=sizeLine /\ ∀ p,μ p=none->Q (.ref p) (updM μ p (.lst [.int ((i + 7919 * k) % 2147483647),.int 0]))):=by
  intro i
  split
  ·exact ⟨by decide,λ p hp=>q _ _ p (by omega) hp⟩
  ·exact ⟨.inl (.inl (by decide)),by decide,by decide,λ p hp=>q _ _ p (Int.emod_nonneg _ (by decide)) hp⟩
 split
 ·next h1 =>
  obtain ⟨d,hd,e⟩:=yz5 (l:=ns.map D.int) hk h1
  obtain ⟨i,_,rfl⟩:=List.mem_map.mp hd
  simp only [e]
  exact key i
 ·exact key 0
noncomputable def wt1:Sp3:=λ ds μ Q=>∃ (p:Addr) (m a b:Int),ds=[.ref p,.int m] /\ 0 < m /\ m < 2 ^ 80 /\ μ p=some (.lst [.int a,.int b]) /\ 0<=a ∧
 ∀ r a' b',0<=r->r < m->0<=a'->Q (.int r) (updM μ p (.lst [.int a',.int b']))
theorem xg9 (ds:List D) (μ:Mu) (Q:VK3) (h:wt1 ds μ Q):t_q5 { nx:=λ _ μ'=>Q .non μ',rt:=Q } (yd0 N_q5 ds) μ:=by
 obtain ⟨p,m,a,b,rfl,h1,h2,h3,h4,q⟩:=h
 simp only [t_q5,seq3,ifs3,and3,b3,o3,v3,yd0,List.map_cons,List.map_nil,N_q5,List.length_cons,List.length_nil,Nat.zero_add,Nat.reduceAdd,Nat.reduceSub,List.replicate,List.cons_append,List.nil_append,getI,c3,ixR,h3,atI1,gtR,xv0,decide_eq_true_eq,set3,modR,int2,asg3,List.set_cons_succ,List.set_cons_zero,wp1,sub3,ret3,yg0,mulR,addR,Bool.false_eq_true,if_false,xq1,atI0,ixN0,ixN1]
 have main:CMul a 48271 /\ (0:Int) < 2147483647 /\ (∀ c:Int,c=(a * 48271 + 69621) % 2147483647->CMul c c /\ CMul 16807 c /\ (0:Int) < 2147483629 /\ ∀ e:Int,e=(c * c + 16807 * c) % 2147483629->CMul e e /\ CMul 39373 e /\ (0:Int) < 2147483587 /\ ((0:Int) < 8 /\ (8:Int) < 2 ^ 120) /\ 0 < m ∧
     Q (.int ((e * e + 39373 * e) % 2147483587 / 8 % m)) (updM μ p (.lst [.int c,.int 0]))):=by
  refine ⟨.inl (.inr (by decide)),by decide,λ c hc=>?_⟩
  have n1:0<=c:=by rw [hc]; exact Int.emod_nonneg _ (by decide)
  have n2:c < 2147483647:=by rw [hc]; exact Int.emod_lt_of_pos _ (by decide)
  refine ⟨.inl (.inl (by omega)),.inl (.inl (by decide)),by decide,λ e he=>?_⟩
  have n3:0<=e:=by rw [he]; exact Int.emod_nonneg _ (by decide)
  have n4:e < 2147483629:=by rw [he]; exact Int.emod_lt_of_pos _ (by decide)
  exact ⟨.inl (.inl (by omega)),.inl (.inl (by decide)),by decide,⟨by decide,by decide⟩,h1,q _ _ _ (Int.emod_nonneg _ (by omega)) (Int.emod_lt_of_pos _ h1) n1⟩
 obtain ⟨m1,m2,m3⟩:=main
 obtain ⟨m4,m5,m6,m7⟩:=m3 _ rfl
 obtain ⟨m8,m9,m10,m11,m12,m13⟩:=m7 _ rfl
 split
 ·split
  ·refine ⟨h1,⟨h1,by omega⟩,?_⟩
   exact q _ _ _ (Int.emod_nonneg _ (by omega)) (Int.emod_lt_of_pos _ h1) (Int.ediv_nonneg h4 (by omega))
  ·simp only [xc0,atI0,List.length_cons,List.length_nil,Nat.zero_add,Nat.reduceAdd,ixN0,List.set_cons_zero,xq0]
   exact ⟨m1,m2,m4,m5,m6,m8,m9,m10,m11,m12,m13⟩
 ·simp only [xc0,atI0,List.length_cons,List.length_nil,Nat.zero_add,Nat.reduceAdd,ixN0,List.set_cons_zero,xq0]
  exact ⟨m1,m2,m4,m5,m6,m8,m9,m10,m11,m12,m13⟩
noncomputable def xk3 (j:Nat):Sp3:=λ ds μ Q=>∃ (p:Addr) (deep m:Int),ds=[.ref p,.int deep,.int m] /\ deep < j /\ 0<=deep /\ 0<=m /\ m<=1000 /\ ∃ a b,μ p=some (.lst [.int a,.int b]) /\ 0<=a ∧
 ∀ w a' b' μ',ExtB p μ μ'->μ' p=some (.lst [.int a',.int b'])->0<=a'->sqs w->(deps w:Int)<=deep->(w.length:Int)=m->Q (.tup (encs w)) μ'
noncomputable def spLd (j:Nat):Sp3:=λ ds μ Q=>∃ (p:Addr) (deep:Int),ds=[.ref p,.int deep] /\ deep < j /\ 0<=deep /\ ∃ a b,μ p=some (.lst [.int a,.int b]) /\ 0<=a ∧
 ∀ d a' b' μ',ExtB p μ μ'->μ' p=some (.lst [.int a',.int b'])->0<=a'->sq d->(dep d:Int)<=deep->Q (enc d) μ'
theorem yh9 (j:Nat) (ds:List D) (μ:Mu) (Q:VK3) (h:spLd (j + 1) ds μ Q):t_q0 (xk3 j) wt1 { nx:=λ _ μ'=>Q .non μ',rt:=Q } (yd0 N_q0 ds) μ:=by
 obtain ⟨p,deep,rfl,h1,h2,a,b,h3,h4,q⟩:=h
 simp only [t_q0,seq3,set3,zc0,wa0,v3,yd0,List.map_cons,List.map_nil,N_q0,List.length_cons,List.length_nil,Nat.zero_add,Nat.reduceAdd,Nat.reduceSub,List.replicate,List.cons_append,List.nil_append,getI,o3,c3,gtR,xv0,nil3,intR,addR,decide_eq_true_eq,ifs3,b3,List.set_cons_succ,List.set_cons_zero,ret3,tup3,subR,yg0,ltR]
 refine ⟨p,_,a,b,rfl,by split <;> omega,by split <;> omega,h3,h4,λ k a1 b1 k1 k2 k3=>?_⟩
 have ex:∀ o,ExtB p μ (updM μ p o):=λ o=>ExtB.upd
 simp only [xq1,decide_eq_true_eq]
 split
 ·refine ⟨p,9,a1,b1,rfl,by decide,by decide,xc0,k3,λ n a2 b2 n1 n2 n3=>?_⟩
  simp only [xq0]
  exact ⟨by decide,q (.turn (n - 4)) a2 b2 _ (ex _) xc0 n3 (by simp only [sq]; omega) (by simp only [dep]; omega)⟩
 ·split
  ·refine ⟨p,5,a1,b1,rfl,by decide,by decide,xc0,k3,λ n a2 b2 n1 n2 n3=>?_⟩
   simp only [xq0]
   exact ⟨by decide,q (.jump (n - 2)) a2 b2 _ (ex _) xc0 n3 (by simp only [sq]; omega) (by simp only [dep]; omega)⟩
  ·split
   ·refine ⟨p,3,a1,b1,rfl,by decide,by decide,xc0,k3,λ n a2 b2 n1 n2 n3=>?_⟩
    simp only [xq0]
    exact ⟨by decide,q (.go n) a2 b2 _ (ex _) xc0 n3 (by simp only [sq]; omega) (by simp only [dep]; omega)⟩
   ·next g1 g2 g3 =>
    have hd:0 < deep:=by
     by_cases hd:0 < deep
     ·exact hd
     ·simp [hd] at k2; omega
    refine ⟨p,4,a1,b1,rfl,by decide,by decide,xc0,k3,λ n a2 b2 n1 n2 n3=>?_⟩
    simp only [xq0]
    refine ⟨p,3,a2,b2,rfl,by decide,by decide,xc0,n3,λ m a3 b3 x1 x2 x3=>?_⟩
    simp only [xq0]
    refine ⟨p,deep - 1,m,rfl,by omega,by omega,x1,by omega,a3,b3,xc0,x3,λ w a4 b4 μ4 y1 y2 y3 y4 y5 y6=>?_⟩
    exact ⟨by decide,q (.times n w) a4 b4 μ4 ((ex _).trans y1) y2 y3 (by simp only [sq]; exact ⟨by omega,by omega,y4⟩) (by simp only [dep]; omega)⟩
theorem xh9 (j:Nat) (ds:List D) (μ:Mu) (Q:VK3) (h:xk3 j ds μ Q):t_q1 (spLd j) { nx:=λ _ μ'=>Q .non μ',rt:=Q } (yd0 N_q1 ds) μ:=by
 obtain ⟨p,deep,m,rfl,h1,h2,m0,m1,a,b,h3,h4,q⟩:=h
 have hz:(100000:Nat) < sizeLine:=by decide
 simp only [t_q1,ret3,zc0,wa0,wq1,ir3,v3,yd0,List.map_cons,List.map_nil,N_q1,List.length_cons,List.length_nil,Nat.zero_add,Nat.reduceAdd,Nat.reduceSub,List.replicate,List.cons_append,List.nil_append,getI,nil3,tupR,Option.bind_none,Option.bind_some]
 refine ⟨⟨by omega,by omega⟩,λ r hr=>?_⟩
 have hpr:p ≠ r:=yj0 h3 hr
 refine ⟨λ l ys ρ μ'=>ExtB p μ μ' /\ μ' r=some (.lst ys) /\ (∃ a b,μ' p=some (.lst [.int a,.int b]) /\ 0<=a) /\ (∃ o,ρ=[o,some (.ref p),some (.int deep)]) /\ ∃ w,ys=encs w /\ sqs w /\ (deps w:Int)<=deep /\ (l.length:Int) + w.length=m,?_,?_,?_,?_⟩
 ·refine ⟨λ c o hc hq=>by rw [wd0 (yj0 hq hr)]; exact hq,xc0,⟨a,b,by rw [wd0 hpr]; exact h3,h4⟩,⟨_,rfl⟩,[],by simp only [encs],by simp only [sqs],by simp only [deps]; omega,?_⟩
  simp only [rngD,List.length_map,List.length_range,List.length_nil]
  omega
 ·rintro l ys ρ μ' ⟨_,e,_⟩
  exact ⟨trivial,e⟩
 ·rintro ys ρ μ' ⟨ex,e,⟨a',b',e2,e3⟩,_,w,rfl,w1,w2,w3⟩
  simp only [e]
  exact q w a' b' μ' ex e2 e3 w1 w2 (by simpa using w3)
 ·rintro x l ys ρ μ' ⟨ex,e,⟨a',b',e2,e3⟩,⟨o,rfl⟩,w,rfl,w1,w2,w3⟩
  rw [List.length_cons] at w3
  refine ⟨by rw [yl0]; omega,?_⟩
  simp only [gn3,tt3,zc0,wa0,v3,List.set_cons_zero,getI,nil3,if_true]
  refine ⟨p,deep,rfl,h1,h2,a',b',e2,e3,λ d a2 b2 μ2 y1 y2 y3 y4 y5=>?_⟩
  have er:μ2 r=some (.lst (encs w)):=y1 r _ (Ne.symm hpr) e
  refine ⟨er,λ c o hc hq=>?_,xc0,⟨a2,b2,by rw [wd0 hpr]; exact y2,y3⟩,⟨_,rfl⟩,w ++ [d],?_,?_,?_,?_⟩
  ·rw [wd0 (yj0 hq hr)]; exact y1 c o hc (ex c o hc hq)
  ·rw [wj1]; simp only [encs]
  ·rw [zt1]; simp only [sqs]; exact ⟨w1,y4,trivial⟩
  ·rw [yq1]; simp only [deps]; omega
  ·rw [List.length_append]; simp only [List.length_cons,List.length_nil]; omega
end Pv
namespace Pv
open PySem Mw
mutual
noncomputable def t9:Dd->Prop
 | .times n w=>n<=9 /\ t9s w
 | _=>True
noncomputable def t9s:List Dd->Prop
 | []=>True
 | d :: r=>t9 d /\ t9s r
end
mutual
theorem za9:∀ d,sq d->t9 d
 | .go n,h=>by simp only [t9]
 | .jump n,h=>by simp only [t9]
 | .turn n,h=>by simp only [t9]
 | .times n w,h=>by simp only [sq] at h; simp only [t9]; exact ⟨by omega,wv3 w h.2.2⟩
theorem wv3:∀ w,sqs w->t9s w
 | [],_=>by simp only [t9s]
 | d :: r,h=>by simp only [sqs] at h; simp only [t9s]; exact ⟨za9 d h.1,wv3 r h.2⟩
end
noncomputable def spRo (j:Nat):Sp3:=λ ds μ Q=>∃ w,ds=[.tup (encs w)] /\ deps w < j /\ (ros w).length<=1000 /\ oks w /\ t9s w /\ ∀ p μ',Ext μ μ'->μ p=none->μ' p=some (.lst (encs (ros w)))->Q (.ref p) μ'
noncomputable def WRo (w:List Dd) (f:Addr) (μ:Mu) (l:List D) (ρ:St3) (μ':Mu):Prop:=∃ (r acc:List Dd) (a b:Option D),l=encs r /\ ρ=[some (.tup (encs w)),some (.ref f),a,b] /\ Ext μ μ' /\ μ' f=some (.lst (encs acc)) ∧
 acc ++ ros r=ros w /\ deps r<=deps w /\ oks r /\ t9s r
theorem wg9 (j:Nat) (ds:List D) (μ:Mu) (Q:VK3) (h:spRo (j + 1) ds μ Q):t_q2 (spRo j) { nx:=λ _ μ'=>Q .non μ',rt:=Q } (yd0 N_q2 ds) μ:=by
 obtain ⟨w,rfl,h1,h2,h3,h4,q⟩:=h
 have hz:(100000:Nat) < sizeLine:=by decide
 simp only [t_q2,seq3,set3,lst3,nil3,List.length_nil,for3,is3,v3,yd0,List.map_cons,List.map_nil,N_q2,List.length_cons,Nat.zero_add,Nat.reduceAdd,Nat.reduceSub,List.replicate,List.cons_append,List.nil_append,List.set_cons_succ,List.set_cons_zero,getI]
 refine ⟨by decide,λ f hf=>?_⟩
 refine xr0 (WRo w f μ) ?_ (λ _ _ _ _=>trivial) ?_ ?_
 ·exact ⟨w,[],none,none,rfl,rfl,Ext.new hf,by rw [xc0]; simp [encs],by simp,Nat.le_refl _,h3,h4⟩
 ·rintro ρ μ' ⟨r,acc,a,b,e,rfl,ex,ef,ea,_⟩
  cases r with
  | nil =>
   simp only [ros,List.append_nil] at ea
   simp only [ret3,v3,getI]
   rw [ea] at ef
   exact q f μ' ex hf ef
  | cons _ _=>simp [encs] at e
 ·rintro x rest ρ μ' ⟨r,acc,a,b,e,rfl,ex,ef,ea,r1,r3,r4⟩
  cases r with
  | nil=>simp [encs] at e
  | cons d r =>
   simp only [encs,List.cons.injEq] at e
   obtain ⟨rfl,rfl⟩:=e
   simp only [deps,oks,t9s,ros] at r1 r3 r4 ea
   have hlen:=congrArg List.length ea
   simp only [List.length_append] at hlen
   have plain:∀ (d':Dd),d'=d->ro d=[d']->WRo w f μ (encs r) [some (.tup (encs w)),some (.ref f),some (enc d),b] (updM μ' f (.lst (encs acc ++ [enc d]))):=λ d' hd hu=>by
    refine ⟨r,acc ++ [d'],_,_,rfl,rfl,λ g o hg=>?_,?_,?_,by omega,r3.2,r4.2⟩
    ·rw [wd0 (yj0 hg hf)]; exact ex g o hg
    ·rw [xc0,wj1,hd]; simp only [encs]
    ·rw [<- ea,hu]; simp
   cases d <;> simp only [gn3,ifs3,b3,o3,v3,enc,List.set_cons_succ,List.set_cons_zero,getI,c3,ixR,atI0,for3,ir3,wa0,atI1,nil3,xw0,mt3,appR,zo2,kn_go_times,decide_eq_true_eq,ef,if_false,kn_jump_times,kn_turn_times,if_true]
   case go n=>exact ⟨by rw [yl0]; omega,plain _ rfl (by simp only [ro])⟩
   case jump n=>exact ⟨by rw [yl0]; omega,plain _ rfl (by simp only [ro])⟩
   case turn n=>exact ⟨by rw [yl0]; omega,plain _ rfl (by simp only [ro])⟩
   case times n v =>
    simp only [okd,dep,t9] at r1 r3 r4
    have eu:ro (.times n v)=(List.replicate n.toNat (ros v)).flatten:=by simp only [ro]
    rw [eu,wh3] at hlen
    refine ⟨⟨by omega,by omega⟩,?_⟩
    refine xr0 (λ l2 ρ2 μ3=>∃ (i:Nat) (kk:Option D),ρ2=[some (.tup (encs w)),some (.ref f),some (enc (.times n v)),kk] /\ Ext μ μ3 /\ μ3 f=some (.lst (encs (acc ++ (List.replicate i (ros v)).flatten))) /\ i + l2.length=n.toNat) ?_ (λ _ _ _ _=>trivial) ?_ ?_
    ·exact ⟨0,b,by simp only [enc],ex,by rw [ef]; simp,by simp [rngD]⟩
    ·rintro ρ2 μ3 ⟨i,kk,rfl,e1,e3,e5⟩
     have hi:i=n.toNat:=by simpa using e5
     rw [hi,<- eu] at e3
     exact ⟨r,acc ++ ro (.times n v),_,_,rfl,rfl,e1,e3,by rw [<- ea]; simp,by omega,r3.2,r4.2⟩
    ·rintro y rest2 ρ2 μ3 ⟨i,kk,rfl,e1,e3,e5⟩
     rw [List.length_cons] at e5
     simp only [gn3,xw0,mt3,v3,enc,List.set_cons_succ,List.set_cons_zero,getI,e3,wa0,zc0,o3,c3,ixR,atI2,nil3,extR]
     have hz2:(i + 1) * (ros v).length<=n.toNat * (ros v).length:=Nat.mul_le_mul_right _ (by omega)
     rw [Nat.add_mul] at hz2
     refine ⟨v,rfl,by omega,by omega,r3.1.2,r4.1.2,λ g μ4 ex4 hg eg=>?_⟩
     have e6:=ex4 _ _ e3
     simp only [e6,eg,yl0]
     refine ⟨?_,i + 1,some y,by simp only [enc],λ c o hc=>?_,?_,by omega⟩
     ·rw [List.length_append,wh3]; omega
     ·rw [wd0 (yj0 hc hf)]; exact ex4 _ _ (e1 _ _ hc)
     ·rw [xc0,<- wj1,List.append_assoc,List.replicate_succ']; simp
theorem we6 {c:Pen} (h:Hd c) (i:Nat):encS (mvS c ((i:Int),0,0))=.tup [.int (c.1 + cs c.2.2 * i + (if cs c.2.2 < 0 then cs c.2.2 else 0)),.int (c.2.1 + sn c.2.2 * i + (if sn c.2.2 < 0 then sn c.2.2 else 0)),.int (c.2.2 % 4 % 2)]:=by
 obtain ⟨x,y,k⟩:=c
 unfold Hd at h
 dsimp only at h
 rcases h with rfl | rfl | rfl | rfl <;> simp [encS,mvS,cs,sn] <;> omega
theorem ym4 {p:Pen} (n:Int) (h:Hd p):led p (n,0,0)=(p.1 + n * cs p.2.2,p.2.1 + n * sn p.2.2,p.2.2):=by
 obtain ⟨x,y,k⟩:=p
 unfold Hd at h
 dsimp only at h
 rcases h with rfl | rfl | rfl | rfl <;> simp [led,cs,sn]
theorem yv6 (p:Pen) (n:Int):led p (0,0,n % 4)=(p.1,p.2.1,(p.2.2 + n) % 4):=by
 obtain ⟨x,y,k⟩:=p
 simp [led]
noncomputable def yx3:Sp3:=λ ds μ Q=>∃ w p,ds=[.tup (encs w),encP p] /\ Hd p /\ deps w<=5 /\ (ros w).length<=1000 /\ (ze0 w).length<=1000 /\ oks w /\ t9s w ∧
 ∀ f μ',Ext μ μ'->μ f=none->μ' f=some (.lst (((ze0 w).map (mvS p)).map encS))->Q (.tup [.ref f,encP (led p (pb w))]) μ'
noncomputable def WRun (w:List Dd) (p:Pen) (f g:Addr) (μ:Mu) (l:List D) (ρ:St3) (μ':Mu):Prop:=Ext μ μ' /\ μ' g=some (.lst (encs (ros w))) /\ ∃ (r pre:List Dd) (c:Pen) (o1 o2 o3 o4:Option D),l=encs r /\ pre ++ r=ros w /\ c=led p (pb pre) ∧
 ρ=[some (.tup (encs w)),some (encP p),some (.int c.1),some (.int c.2.1),some (.int c.2.2),some (.ref f),o1,o2,o3,o4] /\ μ' f=some (.lst (((ze0 pre).map (mvS p)).map encS))
theorem zk1 {w:List Dd} {p:Pen} {f g:Addr} {μ μ2:Mu} {r pre:List Dd} {d:Dd} (hp:Hd p) (ho:oks (pre ++ d :: r)) (e:pre ++ d :: r=ros w) (ex:Ext μ μ2) (eg:μ2 g=some (.lst (encs (ros w))))
    (ef:μ2 f=some (.lst (((ze0 pre).map (mvS p)).map encS ++ ((strk d).map (mvS (led p (pb pre)))).map encS))) {x y k:Int} (hc:led (led p (pb pre)) (pd d)=(x,y,k)) (o1 o2 o3 o4:Option D) :
    WRun w p f g μ (encs r) [some (.tup (encs w)),some (encP p),some (.int x),some (.int y),some (.int k),some (.ref f),o1,o2,o3,o4] μ2:=by
 have ho1:=(xp0 _ _).mp ho
 simp only [oks] at ho1
 have e1:led p (pb (pre ++ [d]))=(x,y,k):=by
  rw [xe1 _ _ ho1.1,<- hc]
  simp only [pb]
  rw [ze1 (yp1 d ho1.2.1),we1 _ hp (xu0 _)]
 refine ⟨ex,eg,r,pre ++ [d],(x,y,k),o1,o2,o3,o4,rfl,by rw [<- e]; simp,e1.symm,rfl,?_⟩
 rw [ef,xo0 _ _ ho1.1]
 simp only [ze0,List.map_nil,List.append_nil,List.map_append]
 rw [wq0 hp (xu0 _)]
theorem zg9 (ds:List D) (μ:Mu) (Q:VK3) (h:yx3 ds μ Q):t_q3 (spRo 6) { nx:=λ _ μ'=>Q .non μ',rt:=Q } (yd0 N_q3 ds) μ:=by
 obtain ⟨w,p,rfl,hp,h1,h2,h2',h3,h4,q⟩:=h
 have hz:(100000:Nat) < sizeLine:=by decide
 obtain ⟨a1,a2,a3⟩:=zb4 w h3
 have apl:=zl1 w
 simp only [t_q3,seq3,asg3,v3,yd0,encP,List.map_cons,List.map_nil,N_q3,List.length_cons,List.length_nil,Nat.zero_add,Nat.reduceAdd,Nat.reduceSub,List.replicate,List.cons_append,List.nil_append,getI,yv2,yx0,gn3,wv2,set3,lst3,nil3,for3,is3,zc0,wa0,List.set_cons_succ,List.set_cons_zero,modR,true_and]
 refine ⟨by decide,λ f hf=>?_⟩
 refine ⟨w,rfl,by omega,h2,h3,h4,λ g μ1 ex1 hg eg=>?_⟩
 have hgf:f ≠ g:=yj0 xc0 hg
 simp only [eg]
 refine xr0 (WRun w p f g μ) ?_ ?_ ?_ ?_
 ·refine ⟨(Ext.new hf).trans ex1,eg,ros w,[],p,none,none,none,none,rfl,rfl,by simp only [pb]; exact (ze1 hp).symm,rfl,?_⟩
  rw [ex1 f _ xc0]; simp [ze0]
 ·rintro l ρ μ' ⟨_,e,_⟩
  exact e
 ·rintro ρ μ' ⟨ex,_,r,pre,c,o1,o2,o3,o4,e,epr,ec,rfl,ef⟩
  cases r with
  | nil =>
   rw [List.append_nil] at epr
   subst epr
   rw [a3] at ef
   simp only [ret3,tup3,wa0,v3,getI,nil3,List.length_cons,List.length_nil,Nat.zero_add,Nat.reduceAdd]
   refine ⟨by decide,by decide,?_⟩
   have:=q f μ' ex hf ef
   rw [<- a2,<- ec] at this
   exact this
  | cons _ _=>simp [encs] at e
 ·rintro x rest ρ μ' ⟨ex,eg',r,pre,c,o1,o2,o3,o4,e,epr,ec,rfl,ef⟩
  cases r with
  | nil=>simp [encs] at e
  | cons d r =>
   simp only [encs,List.cons.injEq] at e
   obtain ⟨rfl,rfl⟩:=e
   have hc:Hd c:=by rw [ec]; exact ys0 _ _
   have ho:oks (pre ++ d :: r):=by rw [epr]; exact a1
   have hslen:(ze0 pre).length + (strk d).length<=1000:=by
    have e0:(ze0 (ros w)).length<=1000:=by rw [a3]; exact h2'
    rw [<- epr,xo0 _ _ ((xp0 _ _).mp ho).1] at e0
    simp only [ze0,List.length_append,List.length_map] at e0
    omega
   have fresh:∀ (t:Addr) (o:MO),μ' t=none->Ext μ (updM μ' t o) /\ updM μ' t o g=some (.lst (encs (ros w))) /\ updM μ' t o f=some (.lst (((ze0 pre).map (mvS p)).map encS)):=λ t o ht=>by
    refine ⟨λ c' o' h'=>?_,?_,?_⟩
    ·have z:=ex c' o' h'; rw [wd0 (yj0 z ht)]; exact z
    ·rw [wd0 (yj0 eg' ht)]; exact eg'
    ·rw [wd0 (yj0 ef ht)]; exact ef
   obtain ⟨m,hm⟩:=apl d (by rw [<- epr]; simp)
   rcases hm with rfl | rfl | rfl
   ·-- go
    simp only [yv2,enc,List.length_cons,List.length_nil,Nat.zero_add,Nat.reduceAdd,yx0,gn3,wv2,seq3,set3,Pv.o3,lst3,wa0,tup3,c3,nil3,un3,negR,v3,List.set_cons_succ,List.set_cons_zero,getI,ixR,ifs3,b3,addR,int2,mulR,for3,ir3,zo2,kn_go_jump,decide_eq_true_eq,if_false,kn_go_turn,true_and]
    refine ⟨by decide,by decide,by decide,by decide,by decide,λ t ht=>?_⟩
    obtain ⟨f1,f2,f3⟩:=fresh t (.lst [.tup [.int 1,.int 0],.tup [.int 0,.int 1],.tup [.int (-1),.int 0],.tup [.int 0,.int (-1)]]) ht
    simp only [xc0,yk1 hc]
    have hm0:0<=m:=by
     have:=((xp0 _ _).mp ho).2
     simp only [oks,okd] at this
     exact this.1.1
    simp only [strk,List.length_map,List.length_range] at hslen
    refine ⟨⟨by omega,by omega⟩,?_⟩
    generalize hν:updM μ' t _=ν at f1 f2 f3 ⊢
    refine xr0 (λ l2 ρ2 μ3=>Ext μ μ3 /\ μ3 g=some (.lst (encs (ros w))) /\ ∃ (i:Nat) (kk:Option D),i + l2.length=m.toNat ∧
     ρ2=[some (.tup (encs w)),some (encP p),some (.int (c.1 + cs c.2.2 * i)),some (.int (c.2.1 + sn c.2.2 * i)),some (.int c.2.2),some (.ref f),some (.str "go"),some (.int m),some (.tup [.int (cs c.2.2),.int (sn c.2.2)]),kk] ∧
     μ3 f=some (.lst (((ze0 pre).map (mvS p)).map encS ++ ((List.range i).map λ (k:Nat)=>encS (mvS c ((k:Int),0,0)))))) ?_ (λ _ _ _ _=>trivial) ?_ ?_
    ·exact ⟨f1,f2,0,o4,by simp [rngD],by simp [encP],by rw [f3]; simp⟩
    ·rintro ρ2 μ3 ⟨e1,e2,i,kk,e3,rfl,e4⟩
     have hi:i=m.toNat:=by simpa using e3
     have hi2:((i:Nat):Int)=m:=by omega
     refine zk1 hp ho epr e1 e2 ?_ (x:=c.1 + cs c.2.2 * i) (y:=c.2.1 + sn c.2.2 * i) (k:=c.2.2) ?_ _ _ _ _
     ·rw [e4,hi,<- ec]; simp only [strk,List.map_map]; rfl
     ·rw [<- ec]; simp only [pd]; rw [ym4 m hc,hi2,Int.mul_comm m,Int.mul_comm m]
    ·rintro y rest2 ρ2 μ3 ⟨e1,e2,i,kk,e3,rfl,e4⟩
     rw [List.length_cons] at e3
     simp only [gn3,seq3,xw0,mt3,v3,List.set_cons_succ,List.set_cons_zero,getI,e4,wa0,tup3,Pv.o3,zc0,c3,ixR,atI0,nil3,za1,addR,atI1,int2,List.length_cons,List.length_nil,Nat.zero_add,Nat.reduceAdd,appR,set3]
     refine ⟨by decide,?_⟩
     have hl:(((ze0 pre).map (mvS p)).map encS ++ ((List.range i).map λ (k:Nat)=>encS (mvS c ((k:Int),0,0)))).length < sizeLine:=by
      simp only [List.length_append,List.length_map,List.length_range]; omega
     refine ⟨by decide,hl,?_⟩
     refine ⟨λ c' o' h'=>?_,?_,i + 1,some y,by omega,?_,?_⟩
     ·have z:=e1 c' o' h'; rw [wd0 (yj0 h' hf)]; exact z
     ·rw [wd0 (Ne.symm hgf)]; exact e2
     ·have w1:c.1 + cs c.2.2 * (i:Int) + cs c.2.2=c.1 + cs c.2.2 * ((i + 1:Nat):Int):=by rw [show ((i + 1:Nat):Int)=(i:Int) + 1 by omega,Int.mul_add]; omega
      have w2:c.2.1 + sn c.2.2 * (i:Int) + sn c.2.2=c.2.1 + sn c.2.2 * ((i + 1:Nat):Int):=by rw [show ((i + 1:Nat):Int)=(i:Int) + 1 by omega,Int.mul_add]; omega
      rw [w1,w2]
     ·rw [xc0,List.range_succ,List.map_append,List.append_assoc]
      simp only [List.map_cons,List.map_nil]
      rw [we6 hc]
      have w3:c.2.2 % 4 % 2=c.2.2 % 2:=by omega
      rw [w3]
   ·-- jump
    simp only [yv2,enc,List.length_cons,List.length_nil,Nat.zero_add,Nat.reduceAdd,yx0,gn3,wv2,seq3,set3,Pv.o3,lst3,wa0,tup3,c3,nil3,un3,negR,v3,List.set_cons_succ,List.set_cons_zero,getI,ixR,ifs3,b3,addR,int2,mulR,for3,ir3,zo2,decide_eq_true_eq,if_true,kn_jump_turn,if_false,true_and]
    refine ⟨by decide,by decide,by decide,by decide,by decide,λ t ht=>?_⟩
    obtain ⟨f1,f2,f3⟩:=fresh t (.lst [.tup [.int 1,.int 0],.tup [.int 0,.int 1],.tup [.int (-1),.int 0],.tup [.int 0,.int (-1)]]) ht
    simp only [xc0,yk1 hc,atI0,atI1]
    refine ⟨.inl (.inr (ze2 _)),.inl (.inr (xa2 _)),?_⟩
    refine zk1 hp ho epr f1 f2 ?_ ?_ _ _ _ _
    ·rw [f3]; simp [strk]
    ·rw [<- ec]; simp only [pd]; rw [ym4 m hc]
   ·-- turn
    simp only [yv2,enc,List.length_cons,List.length_nil,Nat.zero_add,Nat.reduceAdd,yx0,gn3,wv2,seq3,set3,Pv.o3,lst3,wa0,tup3,c3,nil3,un3,negR,v3,List.set_cons_succ,List.set_cons_zero,getI,ixR,ifs3,b3,addR,int2,mulR,for3,ir3,zo2,kn_turn_jump,decide_eq_true_eq,if_false,if_true,true_and]
    refine ⟨by decide,by decide,by decide,by decide,by decide,λ t ht=>?_⟩
    obtain ⟨f1,f2,f3⟩:=fresh t (.lst [.tup [.int 1,.int 0],.tup [.int 0,.int 1],.tup [.int (-1),.int 0],.tup [.int 0,.int (-1)]]) ht
    simp only [xc0,yk1 hc]
    refine ⟨by decide,?_⟩
    refine zk1 hp ho epr f1 f2 ?_ ?_ _ _ _ _
    ·rw [f3]; simp [strk]
    ·rw [<- ec]; simp only [pd]; rw [yv6]
noncomputable def xl1:Sp3:=λ ds μ Q=>∃ i:Int,ds=[.int i] /\ Q (.bl true) μ
theorem wf9 (ds:List D) (μ:Mu) (Q:VK3) (h:xl1 ds μ Q):t_q6 { nx:=λ _ μ'=>Q .non μ',rt:=Q } (yd0 N_q6 ds) μ:=by
 obtain ⟨i,rfl,q⟩:=h
 simp only [t_q6,ret3,zx2,zc0,wa0,v3,yd0,List.map_cons,List.map_nil,N_q6,List.length_cons,List.length_nil,Nat.zero_add,Nat.reduceSub,List.replicate,List.cons_append,List.nil_append,getI,c3,nil3,isiR,tyN,isIn,and_true,if_true,xu6]
 simp [q]
end Pv
namespace Pv
open PySem Mw
mutual
theorem wa9:∀ d,sq d->pm (pd d)<=2 * 6 ^ dep d
 | .go n,h=>by
  simp only [sq] at h
  simp only [pd,dep,Int.pow_zero]
  rw [zs1]
  dsimp only
  omega
 | .jump n,h=>by
  simp only [sq] at h
  simp only [pd,dep,Int.pow_zero]
  rw [zs1]
  dsimp only
  omega
 | .turn n,h=>by
  simp only [pd,dep,Int.pow_zero]
  rw [zs1]
  dsimp only
  omega
 | .times n w,h=>by
  simp only [sq] at h
  obtain ⟨h1,h2,h3⟩:=h
  have i:=xw3 w h3
  simp only [pd,dep]
  rw [yk2 (xu0 w) h1.1,Nat.add_comm 1 (deps w),Int.pow_succ]
  have x0:(0:Int)<=6 ^ deps w:=Int.pow_nonneg (by decide)
  generalize (6:Int) ^ deps w=x at i x0
  have j:(w.length:Int) * (2 * x)<=2 * (2 * x):=Int.mul_le_mul_of_nonneg_right (by omega) (by omega)
  have k:=xp6 (Int.le_trans i j) n.toNat
  have l:(n.toNat:Int) * (2 * (2 * x))<=3 * (2 * (2 * x)):=Int.mul_le_mul_of_nonneg_right (by omega) (by omega)
  omega
theorem xw3:∀ w,sqs w->pm (pb w)<=w.length * (2 * 6 ^ deps w)
 | [],_=>by simp only [pb,List.length_nil,Int.natCast_zero,Int.zero_mul]; decide
 | d :: r,h=>by
  simp only [sqs] at h
  have a:=wa9 d h.1
  have b:=xw3 r h.2
  have c:=wf4 (yp1 d (yl7 d h.1).1) a b
  simp only [pb,deps,List.length_cons]
  have m1:(6:Int) ^ dep d<=6 ^ max (dep d) (deps r):=by
   have:=yd1 (show dep d<=max (dep d) (deps r) by omega)
   exact_mod_cast this
  have m2:(6:Int) ^ deps r<=6 ^ max (dep d) (deps r):=by
   have:=yd1 (show deps r<=max (dep d) (deps r) by omega)
   exact_mod_cast this
  generalize (6:Int) ^ max (dep d) (deps r)=z at m1 m2
  generalize (6:Int) ^ dep d=x at m1 a c
  generalize (6:Int) ^ deps r=y at m2 b c
  have e:(r.length:Int) * (2 * y)<=r.length * (2 * z):=Int.mul_le_mul_of_nonneg_left (by omega) (by omega)
  rw [Int.natCast_add,Int.add_mul]
  omega
end
theorem wg8 {p:Pen} (h:pm p<=1000):bdd p:=by
 rw [zs1] at h
 unfold bdd
 omega
theorem yh6 {e:Nat} (h:e<=2):(6:Int) ^ e<=36:=by
 have:e=0 \/ e=1 \/ e=2:=by omega
 rcases this with rfl | rfl | rfl <;> decide
theorem yf6 {w:List Dd} (h:sqs w) (hd:deps w<=2) (hl:w.length<=4):bdd (pb w):=by
 have a:=xw3 w h
 have b:=yh6 hd
 have x0:(0:Int)<=6 ^ deps w:=Int.pow_nonneg (by decide)
 generalize (6:Int) ^ deps w=x at a b x0
 have j:(w.length:Int) * (2 * x)<=4 * (2 * x):=Int.mul_le_mul_of_nonneg_right (by omega) (by omega)
 exact wg8 (by omega)
mutual
theorem xb9:∀ d,sq d->dep d<=3->gd d
 | .go n,_,_=>by simp only [gd]
 | .jump n,_,_=>by simp only [gd]
 | .turn n,_,_=>by simp only [gd]
 | .times n w,h,e=>by
  simp only [sq] at h
  simp only [dep] at e
  simp only [gd]
  have t:=(zv3 h.2.2 (by omega) (by omega)).2.1
  exact ⟨yf6 h.2.2 (by omega) (by omega),by omega,yw3 w h.2.2 (by omega)⟩
theorem yw3:∀ w,sqs w->deps w<=3->gds w
 | [],_,_=>by simp only [gds]
 | d :: r,h,e=>by
  simp only [sqs] at h
  simp only [deps] at e
  simp only [gds]
  exact ⟨xb9 d h.1 (by omega),yw3 r h.2 (by omega)⟩
end
theorem xn1 {a b:Nat} (h:a<=b):9 ^ a<=9 ^ b:=Nat.pow_le_pow_right (by decide) h
mutual
theorem sq_B:∀ d,sq d->Bd d + 1<=9 ^ dep d
 | .go n,_=>by simp [Bd,dep]
 | .jump n,_=>by simp [Bd,dep]
 | .turn n,_=>by simp [Bd,dep]
 | .times n w,h=>by
  simp only [sq] at h
  have i:=zf6 w h.2.2
  simp only [Bd,dep]
  rw [Nat.add_comm 1 (deps w),Nat.pow_succ]
  have x0:1<=9 ^ deps w:=Nat.pow_pos (by decide)
  generalize 9 ^ deps w=x at i x0
  have j:w.length * (x - 1)<=2 * (x - 1):=Nat.mul_le_mul_right _ h.2.1
  have k:n.toNat * (1 + Bs w)<=3 * (1 + Bs w):=Nat.mul_le_mul_right _ (by omega)
  omega
theorem zf6:∀ w,sqs w->Bs w<=w.length * (9 ^ deps w - 1)
 | [],_=>by simp [Bs]
 | d :: r,h=>by
  simp only [sqs] at h
  have a:=sq_B d h.1
  have b:=zf6 r h.2
  simp only [Bs,deps,List.length_cons,Nat.add_mul,Nat.one_mul]
  have m1:9 ^ dep d<=9 ^ max (dep d) (deps r):=xn1 (by omega)
  have m2:9 ^ deps r<=9 ^ max (dep d) (deps r):=xn1 (by omega)
  have e:r.length * (9 ^ deps r - 1)<=r.length * (9 ^ max (dep d) (deps r) - 1):=Nat.mul_le_mul_left _ (by omega)
  omega
end
theorem ys4:∀ L:List Int,dats (L.map D.int)=some (L.map PyData.int)
 | []=>rfl
 | i :: r=>by simp only [List.map_cons,dats,dat,ys4 r]
theorem xr4:∀ L:List Int,PyData.depthAll (L.map PyData.int)<=1
 | []=>by simp [PyData.depthAll]
 | i :: r=>by
  have:=xr4 r
  simp only [List.map_cons,PyData.depthAll,PyData.depth]
  omega
theorem ys8:∀ L:List Int,PyData.eqvAll (L.map PyData.int) (L.map PyData.int)=true
 | []=>by simp [PyData.eqvAll]
 | i :: r=>by simp [PyData.eqvAll,PyData.eqv,ys8 r]
noncomputable def dS (d:D):Stk:=match d with
 | .tup [.int a,.int b,.int c]=>(a,b,c)
 | _=>(0,0,0)
theorem xz6 {l:List D} {a b:Option Int} {x:D} (h:x ∈ cut3 l a b):x ∈ l:=List.mem_of_mem_drop (List.mem_of_mem_take h)
theorem yz6 {l:List D} {a b:Option Int}:(cut3 l a b).length<=l.length:=by
 unfold cut3
 rw [List.length_take,List.length_drop]
 omega
noncomputable def pT (s:Stk):PyData:=.tuple [.int s.1,.int s.2.1,.int s.2.2]
theorem yi3:∀ L:List Stk,dats (L.map encS)=some (L.map pT)
 | []=>rfl
 | t :: r=>by simp only [List.map_cons,dats,encS,dat,yi3 r,pT]
theorem wq4:∀ L:List Stk,PyData.depthAll (L.map pT)<=2
 | []=>by simp [PyData.depthAll]
 | t :: r=>by
  have:=wq4 r
  simp only [List.map_cons,PyData.depthAll,pT,PyData.depth]
  omega
theorem ye2 (L:List Stk):(PyData.list (L.map pT)).depth<=64:=by
 have:=wq4 L
 simp only [PyData.depth]
 omega
theorem yr4 (s:Stk):(pT s).depth<=64:=by simp [pT,PyData.depth,PyData.depthAll]
theorem xs8 (s t:Stk):PyData.eqv (pT s) (pT t)=decide (s=t):=by
 obtain ⟨a,b,c⟩:=s
 obtain ⟨d,e,f⟩:=t
 have q:∀ x y:Int,(x == y)=decide (x=y):=λ x y=>by by_cases h:x=y <;> simp [h]
 simp [pT,PyData.eqv,PyData.eqvAll,Bool.and_assoc,q]
theorem cntP (L:List Stk) (s:Stk):((L.map pT).countP λ e=>PyData.eqv e (pT s))=L.count s:=by
 rw [List.countP_map]
 unfold List.count
 apply List.countP_congr
 intro x _
 simp [xs8]
theorem xp9 {f:Addr} {L:List Stk} {s:Stk} {μ:Mu} {Q:VK3} (h:μ f=some (.lst (L.map encS))) (k:Q (.int ((L.count s:Nat):Int)) μ):cntR (.ref f) [encS s] μ Q:=by
 have z1:datM μ (.ref f)=some (.list (L.map pT)):=by simp only [datM,h,yi3]
 have z2:datM μ (encS s)=some (pT s):=by simp only [encS,datM,dat,dats,pT]
 unfold cntR
 simp only [z1,z2]
 refine ⟨⟨ye2 L,yr4 s⟩,?_⟩
 rw [cntP]
 exact k
theorem wm8 {f:Addr} {L:List Stk} {s:Stk} {μ:Mu} {Q:VK3} {i j:Nat} {ρ:St3} (h:μ f=some (.lst (L.map encS))) (hi:getI ρ i=some (.ref f)) (hj:getI ρ j=some (encS s)) (k:Q (.int ((L.count s:Nat):Int)) μ):mt3 cntR (v3 i) (wa0 (v3 j) nil3) ρ μ Q:=by
 simp only [mt3,v3,wa0,nil3,hi,hj,h]
 exact xp9 h k
theorem yu6 {i:Int} {μ:Mu} {K:VK3} (k:K (.bl false) μ):neR (.int i) (.int i) μ K:=by
 unfold neR
 simp only [eqS,decide_true,Bool.not_true]
 exact k
theorem xv5 {f q:Addr} {L:List Stk} {b:Bool} {μ:Mu} {K:VK3} (h1:μ f=some (.lst (L.map encS))) (h2:μ q=some (.lst [])) (hb:b = !decide (L=[])) (k:K (.bl b) μ):neR (.ref f) (.ref q) μ K:=by
 have z1:datM μ (.ref f)=some (.list (L.map pT)):=by simp only [datM,h1,yi3]
 have z2:datM μ (.ref q)=some (.list []):=by simp only [datM,h2,dats]
 rw [zj4 rfl z1 z2 (ye2 L) (by simp [PyData.depth,PyData.depthAll])]
 subst hb
 have e:PyData.eqv (.list (L.map pT)) (.list [])=decide (L=[]):=by
  cases L <;> simp [PyData.eqv,PyData.eqvAll]
 rw [e]
 exact k
theorem wm9 {f1 f2:Addr} {L:List Int} {μ:Mu} {K:VK3} (h1:μ f1=some (.lst (L.map D.int))) (h2:μ f2=some (.lst (L.map D.int))) (k:K (.bl false) μ):neR (.ref f1) (.ref f2) μ K:=by
 have z1:datM μ (.ref f1)=some (.list (L.map PyData.int)):=by simp only [datM,h1,ys4]
 have z2:datM μ (.ref f2)=some (.list (L.map PyData.int)):=by simp only [datM,h2,ys4]
 have dp:(PyData.list (L.map PyData.int)).depth<=64:=by
  have:=xr4 L
  simp only [PyData.depth]
  omega
 rw [zj4 rfl z1 z2 dp dp,show PyData.eqv (.list (L.map PyData.int)) (.list (L.map PyData.int))=true by simp only [PyData.eqv]; exact ys8 L]
 exact k
mutual
theorem ze6:∀ d,okd d->((strk d).length:Int)=sk d
 | .go n,h=>by
  simp only [okd] at h
  simp only [strk,sk,List.length_map,List.length_range]
  omega
 | .jump n,_=>by simp [strk,sk]
 | .turn n,_=>by simp [strk,sk]
 | .times n w,h=>by
  simp only [okd] at h
  simp only [strk,sk]
  rw [ws2,Int.natCast_mul,yz1 w h.2,Int.toNat_of_nonneg h.1.1]
theorem yz1:∀ w,oks w->((ze0 w).length:Int)=sks w
 | [],_=>by simp [ze0,sks]
 | d :: r,h=>by
  simp only [oks] at h
  simp only [ze0,sks,List.length_append,List.length_map,Int.natCast_add,ze6 d h.1,yz1 r h.2]
end
noncomputable def sumN (f:Stk->Nat):List Stk->Nat
 | []=>0
 | s :: r=>f s + sumN f r
theorem wz2 (f g:Stk->Nat):∀ U,sumN (λ s=>f s + g s) U=sumN f U + sumN g U
 | []=>rfl
 | s :: r=>by simp only [sumN,wz2 f g r]; omega
theorem wk1 (f:Stk->Nat):∀ U,(∀ s ∈ U,f s=0)->sumN f U=0
 | [],_=>rfl
 | s :: r,h=>by simp only [sumN]; rw [h s (List.mem_cons_self ..),wk1 f r λ t ht=>h t (List.mem_cons_of_mem _ ht)]
theorem yz2 (a:Stk):∀ U:List Stk,U.Nodup->a ∈ U->sumN (λ s=>if a=s then 1 else 0) U=1
 | [],_,h=>by cases h
 | s :: r,nd,h=>by
  obtain ⟨n1,n2⟩:=List.nodup_cons.mp nd
  simp only [sumN]
  by_cases e:a=s
  ·subst e
   rw [if_pos rfl,wk1 _ r λ t ht=>if_neg λ (e:a=t)=>n1 (by rw [e]; exact ht)]
  ·rw [if_neg e,yz2 a r n2 ((List.mem_cons.mp h).resolve_left e)]
theorem yi2 (U:List Stk) (nd:U.Nodup):∀ l:List Stk,(∀ x ∈ l,x ∈ U)->sumN (λ s=>l.count s) U=l.length
 | [],_=>by rw [wk1 _ _ λ s _=>List.count_nil]; rfl
 | a :: l,h=>by
  have i:=yi2 U nd l λ x hx=>h x (List.mem_cons_of_mem _ hx)
  have e:(λ s=>(a :: l).count s)=λ s=>l.count s + if a=s then 1 else 0:=by
   funext s
   rw [List.count_cons]
   congr 1
   by_cases c:a=s <;> simp [c]
  rw [e,wz2,i,yz2 a U nd (h a (List.mem_cons_self ..)),List.length_cons]
theorem zz2 (f:Stk->Nat):∀ U:List Stk,(U.map λ s=>((f s:Nat):Int)).sum=((sumN f U:Nat):Int)
 | []=>rfl
 | s :: r=>by simp only [List.map_cons,List.sum_cons,sumN,zz2 f r,Int.natCast_add]
theorem zw5:∀ L:List Int,ints? (L.map D.int)=some L
 | []=>rfl
 | i :: r=>by simp only [List.map_cons,ints?,zw5 r]
theorem zz6 {l:List D} (h:l.length<=12):cut3 l none (some 12)=l:=by
 show List.take (min 12 l.length - 0) (List.drop 0 l)=l
 rw [List.drop_zero,List.take_of_length_le (by omega)]
noncomputable def xa5:Sp3:=λ ds μ Q=>∃ ns:List Int,ds=[.fls (ns.map D.int)] /\ ns.length<=63 /\ ∀ μ',Q (.bl true) μ'
structure Gw (w:List Dd):Prop where
 wd:Wd w
 sl:(ze0 w).length<=288
 rl:(ros w).length<=144
 t9:t9s w
 o:∀ s,wy s->∃ k,k<=1000 /\ OW w st s (((ze0 w).count s:Nat):Int) k
theorem yo9 {w:List Dd} (h:sqs w) (hd:deps w<=2) (hl:w.length<=4):Gw w:=by
 obtain ⟨a,b,c⟩:=zv3 h hd hl
 refine ⟨a,b,c,wv3 w h,λ s hs=>?_⟩
 obtain ⟨k,hk,o⟩:=ow w a.1 (yw3 w h (by omega)) st s xp1 hs
 rw [xt0] at o
 refine ⟨k,?_,o⟩
 have bw:=zf6 w h
 have c9:9 ^ deps w<=9 ^ 2:=xn1 hd
 have:=Nat.mul_le_mul hl (show 9 ^ deps w - 1<=80 by omega)
 omega
theorem yn9 {Q:VK3} (q:∀ μ',Q (.bl true) μ') {w:List Dd} (H:Gw w) {f f1:Addr} {U:List Stk} (nd:U.Nodup) (mu:∀ x,x ∈ U ↔ x ∈ ze0 w) {o0 o1 o4 o5 o6 o7:Option D} (μ:Mu) (ef:μ f=some (.lst ((ze0 w).map encS)))
    (e1:μ f1=some (.lst (((cut3 (U.map encS) none (some 12)).map λ d=>(((ze0 w).count (dS d):Nat):Int)).map D.int))) :
    xi2 (xk3 3) yx3 xd1 wt1 xl1 spDo xx3 { nx:=λ _ μ'=>Q .non μ',rt:=Q } [o0,o1,some (.tup (encs w)),some (.ref f),o4,o5,o6,o7,some (.ref f1)] μ:=by
 refine ⟨ze0 w,ef,λ l n hl=>?_,λ ks n mk=>?_⟩
 ·have:=List.Nodup.length_le_of_subset n hl
  have:=H.sl
  omega
 by_cases c:12 < ks.length
 ·show if (decide ((12:Int) < ((ks.length:Nat):Int)))=true then _ else _
  rw [if_pos (decide_eq_true (by omega))]
  exact q μ
 ·show if (decide ((12:Int) < ((ks.length:Nat):Int)))=true then _ else _
  rw [if_neg (λ h=>by have:=of_decide_eq_true h; omega)]
  have lu:U.length<=12:=by
   have:=List.Nodup.length_le_of_subset nd (λ x hx=>(mk x).mpr ((mu x).mp hx))
   omega
  rw [zz6 (by rw [List.length_map]; exact lu)] at e1
  conv=>whnf
  rw [e1]
  conv=>whnf
  rw [zw5]
  refine ⟨w,rfl,H.wd,λ μ2 e2=>?_⟩
  have s1:=yi2 U nd (ze0 w) λ x hx=>(mu x).mpr hx
  have s2:=zz2 (λ s=>(ze0 w).count s) U
  have s3:=yz1 w H.wd.1
  have e:((U.map encS).map λ d=>(((ze0 w).count (dS d):Nat):Int)).sum=sks w:=by
   rw [<- s3,<- s1,<- s2,List.map_map]
   rfl
  rw [e]
  show Q (.bl (decide (sks w=sks w))) μ2
  rw [decide_eq_true rfl]
  exact q μ2
theorem zv6 {Q:VK3} (q:∀ μ',Q (.bl true) μ') {w:List Dd} (H:Gw w) {f:Addr} {s:Stk} (hy:wy s) {o0 o1 o5 o6 o7 o8:Option D} (μ:Mu) (ef:μ f=some (.lst ((ze0 w).map encS))) :
    xz2 (xk3 3) yx3 xd1 wt1 xl1 spDo xx3 { nx:=λ _ μ'=>Q .non μ',rt:=Q } [o0,o1,some (.tup (encs w)),some (.ref f),some (encS s),o5,o6,o7,o8] μ:=by
 have hz:(100000:Nat) < sizeLine:=by decide
 obtain ⟨k,hk,o⟩:=H.o s hy
 refine ⟨w,s,_,k,rfl,H.wd,hy,o,hk,λ μ1 e1=>?_⟩
 have ef1:=e1 _ _ ef
 refine ⟨_,rfl,?_⟩
 have z1:datM μ1 (.ref f)=some (.list ((ze0 w).map pT)):=by simp only [datM,ef1,yi3]
 have z2:datM μ1 (encS s)=some (pT s):=by simp only [encS,datM,dat,dats,pT]
 conv=>whnf
 rw [ef1]
 conv=>whnf
 rw [z1,z2]
 refine ⟨⟨ye2 _,yr4 s⟩,?_⟩
 rw [cntP]
 refine yu6 ?_
 refine ⟨ze0 w,ef1,λ l n hl=>?_,λ ks nd mk us pm up r hr=>?_⟩
 ·have:=List.Nodup.length_le_of_subset n hl
  have:=H.sl
  omega
 have ndu:us.Nodup:=pm.nodup_iff.mpr nd
 have mu:∀ x,x ∈ us ↔ x ∈ ze0 w:=λ x=>(pm.mem_iff).trans (mk x)
 have lu:us.length<=288:=by
  have:=List.Nodup.length_le_of_subset ndu (λ x hx=>(mu x).mp hx)
  have:=H.sl
  omega
 have e5:updM μ1 r (.lst (us.map encT)) r=some (.lst (us.map encT)):=xc0
 have ef2:updM μ1 r (.lst (us.map encT)) f=some (.lst ((ze0 w).map encS)):=by rw [wd0 (yj0 ef1 hr)]; exact ef1
 generalize updM μ1 r (.lst (us.map encT))=μ2 at e5 ef2
 conv=>whnf
 rw [e5]
 intro t ht
 have e6:updM μ2 t (.lst (cut3 (us.map encT) none (some 12))) t=some (.lst (cut3 (us.map encT) none (some 12))):=xc0
 have ef3:updM μ2 t (.lst (cut3 (us.map encT) none (some 12))) f=some (.lst ((ze0 w).map encS)):=by rw [wd0 (yj0 ef2 ht)]; exact ef2
 generalize updM μ2 t (.lst (cut3 (us.map encT) none (some 12)))=μ3 at e6 ef3
 have lc:(cut3 (us.map encT) none (some 12)).length<=sizeLine:=by
  have:=yz6 (l:=us.map encT) (a:=none) (b:=some 12)
  rw [List.length_map] at this
  omega
 have wyc:∀ d ∈ cut3 (us.map encT) none (some 12),∃ s,d=encS s /\ wy s:=λ d hd=>by
  obtain ⟨s,hs,rfl⟩:=List.mem_map.mp (xz6 hd)
  exact ⟨s,rfl,wp0 _ s ((mu s).mp hs)⟩
 conv=>whnf
 rw [e6]
 intro f1 hf1
 refine we2 (rest:=[some (.tup (encs w))]) (λ d=>.int (((ze0 w).count (dS d):Nat):Int)) hf1 lc (λ μ' x=>x _ _ e6) ?_ ?_
 ·intro x hx μ' R ex k
  obtain ⟨s,rfl,hs⟩:=wyc x hx
  obtain ⟨m,hm,o⟩:=H.o s hs
  exact ⟨w,s,_,m,rfl,H.wd,hs,o,hm,k⟩
 ·intro μ4 x4 y4
  have e7:=x4 _ _ e6
  have ef4:=x4 _ _ ef3
  conv=>whnf
  rw [e7]
  intro f2 hf2
  refine we2 (rest:=[some (.ref f)]) (λ d=>.int (((ze0 w).count (dS d):Nat):Int)) hf2 lc (λ μ' x=>x _ _ e7) ?_ ?_
  ·intro x hx μ' R ex k
   obtain ⟨s,rfl,hs⟩:=wyc x hx
   exact wm8 (s:=s) (i:=1) (j:=0) (ρ:=[some (encS s),some (.ref f)]) (ex _ _ ef4) rfl rfl (k _ (Ext.refl _))
  ·intro μ5 x5 y5
   have y6:=x5 _ _ y4
   have e:(cut3 (us.map encT) none (some 12)).map (λ d=>D.int (((ze0 w).count (dS d):Nat):Int))=((cut3 (us.map encT) none (some 12)).map λ d=>(((ze0 w).count (dS d):Nat):Int)).map D.int:=by rw [List.map_map]; rfl
   rw [e] at y5 y6
   refine wm9 y6 y5 ?_
   exact yn9 q H ndu mu μ5 (x5 _ _ ef4) y6
theorem ix_l {p:Addr} {l:List D} {i:Int} {d:D} {μ:Mu} {K:VK3} (h:μ p=some (.lst l)) (e:atI l i=some d) (k:K d μ):ixR (.ref p) (.int i) μ K:=by
 unfold ixR
 simp only [h,e]
 exact k
theorem za8 (ds:List D) (μ:Mu) (Q:VK3) (h:xa5 ds μ Q):yi7 (xk3 3) yx3 xd1 wt1 xl1 spDo xx3 { nx:=λ _ μ'=>Q .non μ',rt:=Q } (yd0 xe7 ds) μ:=by
 obtain ⟨ns,rfl,hl,q⟩:=h
 have hz:(100000:Nat) < sizeLine:=by decide
 have z3:3<=sizeLine:=by decide
 refine ⟨ns,0,rfl,by decide,λ a b p ha hp=>?_⟩
 refine ⟨p,5,a,b,rfl,by decide,by decide,xc0,ha,λ m a1 b1 m1 m2 a1n=>?_⟩
 refine ⟨p,2,m,rfl,by decide,by decide,m1,by omega,a1,b1,xc0,a1n,λ w a2 b2 μ1 x1 x2 x3 x4 x5 x6=>?_⟩
 have H:=yo9 x4 (by omega) (by omega)
 refine ⟨z3,w,st,rfl,xp1,by have:=H.wd.2.1; omega,by have:=H.rl; omega,by have:=H.sl; omega,H.wd.1,H.t9,λ f μ2 e2 hf ef=>?_⟩
 rw [xt0] at ef
 have ep2:=e2 _ _ x2
 have pf:f ≠ p:=λ e=>by rw [e] at ef; rw [ef] at ep2; cases hw:ze0 w <;> rw [hw] at ep2 <;> simp [encS] at ep2
 refine ⟨p,9,a2,b2,rfl,by decide,by decide,ep2,x3,λ x a3 b3 _ _ a3n=>?_⟩
 refine ⟨p,9,a3,b3,rfl,by decide,by decide,xc0,a3n,λ y a4 b4 _ _ a4n=>?_⟩
 refine ⟨p,2,a4,b4,rfl,by decide,by decide,xc0,a4n,λ z a5 b5 g0 g2 a5n=>?_⟩
 refine ⟨z3,?_⟩
 have e3:updM (updM (updM μ2 p (.lst [.int a3,.int b3])) p (.lst [.int a4,.int b4])) p (.lst [.int a5,.int b5]) f=some (.lst ((ze0 w).map encS)):=by
  rw [wd0 pf,wd0 pf,wd0 pf]; exact ef
 have ep3:updM (updM (updM μ2 p (.lst [.int a3,.int b3])) p (.lst [.int a4,.int b4])) p (.lst [.int a5,.int b5]) p=some (.lst [.int a5,.int b5]):=xc0
 generalize updM (updM (updM μ2 p (.lst [.int a3,.int b3])) p (.lst [.int a4,.int b4])) p (.lst [.int a5,.int b5])=μ3 at e3 ep3
 have wy0:wy (x - 4,y - 4,z):=by show z=0 \/ z=1; omega
 refine ⟨Nat.zero_le _,λ g hg=>?_⟩
 have gp:p ≠ g:=yj0 ep3 hg
 have e4:updM μ3 g (.lst []) f=some (.lst ((ze0 w).map encS)):=by rw [wd0 (yj0 e3 hg)]; exact e3
 have ep4:updM μ3 g (.lst []) p=some (.lst [.int a5,.int b5]):=by rw [wd0 gp]; exact ep3
 have eg:updM μ3 g (.lst []) g=some (.lst []):=xc0
 generalize updM μ3 g (.lst [])=μ4 at e4 ep4 eg
 by_cases c:ze0 w=[]
 ·refine xv5 (b:=false) e4 eg (by simp [c]) ?_
  exact zv6 q H (s:=(x - 4,y - 4,z)) wy0 μ4 e4
 refine xv5 (b:=true) e4 eg (by simp [c]) ?_
 refine ⟨p,3,a5,b5,rfl,by decide,by decide,ep4,a5n,λ v a6 b6 v0 v3' a6n=>?_⟩
 have e5:updM μ4 p (.lst [.int a6,.int b6]) f=some (.lst ((ze0 w).map encS)):=by rw [wd0 pf]; exact e4
 have ep5:updM μ4 p (.lst [.int a6,.int b6]) p=some (.lst [.int a6,.int b6]):=xc0
 generalize updM μ4 p (.lst [.int a6,.int b6])=μ5 at e5 ep5
 by_cases cv:0 < v
 ·show if (decide (0 < v))=true then _ else _
  rw [if_pos (decide_eq_true cv)]
  conv=>whnf
  rw [e5]
  have lp:0 < (ze0 w).length:=List.length_pos_iff.mpr c
  have ls:=H.sl
  refine ⟨p,_,a6,b6,rfl,by rw [List.length_map]; omega,by rw [List.length_map]; omega,ep5,a6n,λ i a7 b7 i0 i1 a7n=>?_⟩
  obtain ⟨d,hd,ei⟩:=yz5 (l:=(ze0 w).map encS) i0 i1
  obtain ⟨s,hs,rfl⟩:=List.mem_map.mp hd
  have ws:=wp0 w s hs
  have e6:updM μ5 p (.lst [.int a7,.int b7]) f=some (.lst ((ze0 w).map encS)):=by rw [wd0 pf]; exact e5
  have ep6:updM μ5 p (.lst [.int a7,.int b7]) p=some (.lst [.int a7,.int b7]):=xc0
  generalize updM μ5 p (.lst [.int a7,.int b7])=μ6 at e6 ep6
  refine ix_l e6 ei ?_
  refine ⟨p,3,a7,b7,rfl,by decide,by decide,ep6,a7n,λ j a8 b8 j0 j1 a8n=>?_⟩
  refine ⟨⟨by decide,by decide⟩,show 2<=sizeLine by decide,λ g2 hg2=>?_⟩
  have e7:updM μ6 p (.lst [.int a8,.int b8]) f=some (.lst ((ze0 w).map encS)):=by rw [wd0 pf]; exact e6
  have ep7:updM μ6 p (.lst [.int a8,.int b8]) p=some (.lst [.int a8,.int b8]):=xc0
  generalize updM μ6 p (.lst [.int a8,.int b8])=μ7 at e7 ep7 hg2
  have pg:p ≠ g2:=yj0 ep7 hg2
  have fg:f ≠ g2:=yj0 e7 hg2
  have e8:updM μ7 g2 (.lst [.int s.2.2,.int (1 - s.2.2)]) f=some (.lst ((ze0 w).map encS)):=by rw [wd0 fg]; exact e7
  have ep8:updM μ7 g2 (.lst [.int s.2.2,.int (1 - s.2.2)]) p=some (.lst [.int a8,.int b8]):=by rw [wd0 pg]; exact ep7
  have eg8:updM μ7 g2 (.lst [.int s.2.2,.int (1 - s.2.2)]) g2=some (.lst [.int s.2.2,.int (1 - s.2.2)]):=xc0
  generalize updM μ7 g2 (.lst [.int s.2.2,.int (1 - s.2.2)])=μ8 at e8 ep8 eg8
  refine ⟨p,4,a8,b8,rfl,by decide,by decide,ep8,a8n,λ l a9 b9 l0 l1 a9n=>⟨⟨by decide,by decide⟩,?_⟩⟩
  have e9:updM μ8 p (.lst [.int a9,.int b9]) f=some (.lst ((ze0 w).map encS)):=by rw [wd0 pf]; exact e8
  have eg9:updM μ8 p (.lst [.int a9,.int b9]) g2=some (.lst [.int s.2.2,.int (1 - s.2.2)]):=by rw [wd0 (Ne.symm pg)]; exact eg8
  generalize updM μ8 p (.lst [.int a9,.int b9])=μ9 at e9 eg9
  have hw:∃ k:Int,(k=0 \/ k=1) /\ atI [D.int s.2.2,D.int (1 - s.2.2)] (l / 3)=some (.int k):=by
   have:l / 3=0 \/ l / 3=1:=by omega
   rcases this with h | h <;> rw [h]
   ·exact ⟨s.2.2,ws,rfl⟩
   ·exact ⟨1 - s.2.2,by rcases ws with h | h <;> omega,rfl⟩
  obtain ⟨k,hk,ek⟩:=hw
  refine ix_l eg9 ek ⟨z3,?_⟩
  exact zv6 q H (s:=(s.1 + j / 2,s.2.1,k)) hk μ9 e9
 ·show if (decide (0 < v))=true then _ else _
  rw [if_neg (λ h=>cv (of_decide_eq_true h))]
  exact zv6 q H (s:=(x - 4,y - 4,z)) wy0 μ5 e5
end Pv
namespace Pv
open PySem PySem.Spec PyProof.Rows L2
noncomputable def top (i:Nat):Stmt:=PySem.Challenge.pw_penwright_k38_how_often_drawn.main.body.getD i (.Pass ⟨0,0,0,0⟩)
noncomputable def mth (i j:Nat):Stmt:=match top i with
 | .ClassDef _ _ _ b _ _ _ _ _ _ _=>b.getD j (.Pass ⟨0,0,0,0⟩)
 | _=>.Pass ⟨0,0,0,0⟩
section
variable {P:Program} {w:World} {K:Fg} {mg:Str->Option Value} {base:Heap}
noncomputable abbrev wp3:Stmt:=top 13
theorem yp7:FnScope yr5 ["word"] (xb0 wp3):=⟨rfl,rfl,rfl,by decide +kernel,rfl,by decide +kernel,by decide +kernel⟩
theorem yw7 {k:Nat} {f:Addr} {cdv:Value} {A:Around} {outer:List Env} {s:Shared} {H:Hp} {E:XK} {sp_q13:Sp3} {k_q13:Nat} (c_q13:Cal P w K mg base k_q13 "checked_count" ["word", "depth"] sp_q13) (l_q13:k_q13<=k) (hr:Room k (A.deeper (envOfC "check_word" (xb0 wp3) s.heap.objs.size f cdv))) :
    RSs (cxOf CX0 P w K mg base yr5 "check_word" (xb0 wp3) f cdv A outer s H E).nox (xd0 wp3) (zd6 sp_q13) :=
 (wb0 (ws0 (yc0 (c_q13.mono l_q13) hr (xa0 (ya0 0) (xa0 za0 zb0)))))
noncomputable abbrev zp3:Stmt:=top 14
theorem sc_q13:FnScope xr5 ["word", "depth"] (xb0 zp3):=⟨rfl,rfl,rfl,by decide +kernel,rfl,by decide +kernel,by decide +kernel⟩
theorem xw7 {k:Nat} {f:Addr} {cdv:Value} {A:Around} {outer:List Env} {s:Shared} {H:Hp} {E:XK} {sp_q14:Sp3} {k_q14:Nat} (c_q14:Cal P w K mg base k_q14 "checked_deed_count" ["deed", "depth"] sp_q14) (l_q14:k_q14<=k) (z_isinstance:mg "isinstance" = none) (z_tuple:mg "tuple" = none) (g_MOST_DEEDS:Gd K mg "MOST_DEEDS" wu0) (g_MOST_DEEP:Gd K mg "MOST_DEEP" wa1) (hr:Room k (A.deeper (envOfC "checked_count" (xb0 zp3) s.heap.objs.size f cdv))) :
    RSs (cxOf CX0 P w K mg base xr5 "checked_count" (xb0 zp3) f cdv A outer s H E).nox (xd0 zp3) (yd6 sp_q14) :=
 (yb0 (xi0 (yc3 (zv1 (xf0 ye4 z_isinstance zm0 (xa0 (ya0 0) (xa0 (xd4 z_tuple wf2) zb0))))) (wb0 wn0) ye0) (yb0 (xi0 (yf0 q_gt (ya0 1) (re_g g_MOST_DEEP)) (wb0 wn0) ye0) (yb0 (xe0 (i:=2) sc_q13.nd za0) (yb0 (yu0 PassesOwn.never rfl (yw0 (ya0 0)) (wi0 (i:=3) sc_q13.nd) (yb0 (xe0 (i:=2) sc_q13.nd (we0 xn0 (ya0 2) (yc0 (c_q14.mono l_q14) hr (xa0 (ya0 3) (xa0 (ya0 1) zb0))))) (wb0 (xi0 (yf0 q_gt (ya0 2) (re_g g_MOST_DEEDS)) (wb0 wn0) ye0)))) (wb0 (zd0 (ya0 2)))))))
noncomputable abbrev yp3:Stmt:=top 15
theorem xp7:FnScope yf7 ["deed", "depth"] (xb0 yp3):=⟨rfl,rfl,rfl,by decide +kernel,rfl,by decide +kernel,by decide +kernel⟩
theorem wv7 {k:Nat} {f:Addr} {cdv:Value} {A:Around} {outer:List Env} {s:Shared} {H:Hp} {E:XK} {sp_q10:Sp3} {k_q10:Nat} (c_q10:Cal P w K mg base k_q10 "check_number" ["kind", "number"] sp_q10) (l_q10:k_q10<=k) {sp_q13:Sp3} {k_q13:Nat} (c_q13:Cal P w K mg base k_q13 "checked_count" ["word", "depth"] sp_q13) (l_q13:k_q13<=k) (z_isinstance:mg "isinstance" = none) (z_len:mg "len" = none) (z_tuple:mg "tuple" = none) (g_PLAIN_KINDS:Gd K mg "PLAIN_KINDS" zt0) (hr:Room k (A.deeper (envOfC "checked_deed_count" (xb0 yp3) s.heap.objs.size f cdv))) :
    RSs (cxOf CX0 P w K mg base yf7 "checked_deed_count" (xb0 yp3) f cdv A outer s H E).nox (xd0 yp3) (zj7 sp_q10 sp_q13) :=
 (yb0 (xi0 (yc3 (zv1 (xf0 ye4 z_isinstance zm0 (xa0 (ya0 0) (xa0 (xd4 z_tuple wf2) zb0))))) (wb0 wn0) ye0) (yb0 (xi0 (xk2 (yv1 (yf0 (q_eq (hu64 hr)) (xf0 xe4 z_len xy1 (xa0 (ya0 0) zb0)) za0) (wf1 (yf0 (q_in (hu65 hr)) (wc0 q_ix (ya0 0) za0) (re_g g_PLAIN_KINDS))))) (yb0 (ws0 (yc0 (c_q10.mono l_q10) hr (xa0 (wc0 q_ix (ya0 0) za0) (xa0 (wc0 q_ix (ya0 0) za0) zb0)))) (wb0 (zd0 za0))) ye0) (yb0 (xi0 (xk2 (yv1 (yf0 (q_eq (hu64 hr)) (xf0 xe4 z_len xy1 (xa0 (ya0 0) zb0)) za0) (wf1 (yf0 (q_eq (hu64 hr)) (wc0 q_ix (ya0 0) za0) zq0)))) (yb0 (ws0 (yc0 (c_q10.mono l_q10) hr (xa0 (wc0 q_ix (ya0 0) za0) (xa0 (wc0 q_ix (ya0 0) za0) zb0)))) (wb0 (zd0 (we0 xn0 za0 (yc0 (c_q13.mono l_q13) hr (xa0 (wc0 q_ix (ya0 0) za0) (xa0 (we0 xn0 (ya0 1) za0) zb0))))))) ye0) (wb0 wn0))))
noncomputable abbrev yq3:Stmt:=top 16
theorem wp7:FnScope zr5 ["kind", "number"] (xb0 yq3):=⟨rfl,rfl,rfl,by decide +kernel,rfl,by decide +kernel,by decide +kernel⟩
theorem ww7 {k:Nat} {f:Addr} {cdv:Value} {A:Around} {outer:List Env} {s:Shared} {H:Hp} {E:XK} (z_abs:mg "abs" = none) (z_int:mg "int" = none) (z_isinstance:mg "isinstance" = none) (g_GREATEST_NUMBER:Gd K mg "GREATEST_NUMBER" zn0) (g_KINDS_FROM_NOUGHT:Gd K mg "KINDS_FROM_NOUGHT" xl0) (hr:Room k (A.deeper (envOfC "check_number" (xb0 yq3) s.heap.objs.size f cdv))) :
    RSs (cxOf CX0 P w K mg base zr5 "check_number" (xb0 yq3) f cdv A outer s H E).nox (xd0 yq3) (wd6) :=
 (yb0 (xi0 (yc3 (zv1 (xf0 ye4 z_isinstance zm0 (xa0 (ya0 1) (xa0 (xd4 z_int wt4) zb0))))) (wb0 wn0) ye0) (yb0 (xi0 (yf0 q_gt (xf0 wi9 z_abs zu8 (xa0 (ya0 1) zb0)) (re_g g_GREATEST_NUMBER)) (wb0 wn0) ye0) (wb0 (xi0 (xk2 (yv1 (yf0 q_lt (ya0 1) za0) (wf1 (yf0 (q_in (hu65 hr)) (ya0 0) (re_g g_KINDS_FROM_NOUGHT))))) (wb0 wn0) ye0))))
noncomputable abbrev yn3:Stmt:=top 17
theorem sc_q23:FnScope wd7 ["pen", "part"] (xb0 yn3):=⟨rfl,rfl,rfl,by decide +kernel,rfl,by decide +kernel,by decide +kernel⟩
theorem zt7 {k:Nat} {f:Addr} {cdv:Value} {A:Around} {outer:List Env} {s:Shared} {H:Hp} {E:XK} (g_AHEAD:Gd K mg "AHEAD" wc2) (hr:Room k (A.deeper (envOfC "led" (xb0 yn3) s.heap.objs.size f cdv))) :
    RSs (cxOf CX0 P w K mg base wd7 "led" (xb0 yn3) f cdv A outer s H E).nox (xd0 yn3) (xi7) :=
 (yb0 (xe0 (i:=2) sc_q23.nd (wc0 q_ix (re_g g_AHEAD) (wc0 q_ix (ya0 0) za0))) (yb0 (xe0 (i:=3) sc_q23.nd (we0 xa1 (we0 xn0 (wc0 q_ix (ya0 0) za0) (we0 wv0 (wc0 q_ix (ya0 1) za0) (wc0 q_ix (ya0 2) za0))) (we0 wv0 (wc0 q_ix (ya0 1) za0) (wc0 q_ix (ya0 2) za0)))) (yb0 (xe0 (i:=4) sc_q23.nd (we0 xn0 (we0 xn0 (wc0 q_ix (ya0 0) za0) (we0 wv0 (wc0 q_ix (ya0 1) za0) (wc0 q_ix (ya0 2) za0))) (we0 wv0 (wc0 q_ix (ya0 1) za0) (wc0 q_ix (ya0 2) za0)))) (wb0 (zd0 (wg0 (xa0 (ya0 3) (xa0 (ya0 4) (xa0 (we0 ym1 (we0 xn0 (wc0 q_ix (ya0 0) za0) (wc0 q_ix (ya0 1) za0)) za0) zb0)))))))))
noncomputable abbrev xm3:Stmt:=top 18
theorem sc_q28:FnScope wc7 ["word"] (xb0 xm3):=⟨rfl,rfl,rfl,by decide +kernel,rfl,by decide +kernel,by decide +kernel⟩
theorem ys7 {k:Nat} {f:Addr} {cdv:Value} {A:Around} {outer:List Env} {s:Shared} {H:Hp} {E:XK} {sp_q23:Sp3} {k_q23:Nat} (c_q23:Cal P w K mg base k_q23 "led" ["pen", "part"] sp_q23) (l_q23:k_q23<=k) {sp_q29:Sp3} {k_q29:Nat} (c_q29:Cal P w K mg base k_q29 "pen_behind_deed" ["deed"] sp_q29) (l_q29:k_q29<=k) (g_START:Gd K mg "START" ym0) (hr:Room k (A.deeper (envOfC "pen_behind" (xb0 xm3) s.heap.objs.size f cdv))) :
    RSs (cxOf CX0 P w K mg base wc7 "pen_behind" (xb0 xm3) f cdv A outer s H E).nox (xd0 xm3) (xh7 sp_q23 sp_q29) :=
 (yb0 (xe0 (i:=1) sc_q28.nd (re_g g_START)) (yb0 (yu0 PassesOwn.never rfl (yw0 (ya0 0)) (wi0 (i:=2) sc_q28.nd) (wb0 (xe0 (i:=1) sc_q28.nd (yc0 (c_q23.mono l_q23) hr (xa0 (ya0 1) (xa0 (yc0 (c_q29.mono l_q29) hr (xa0 (ya0 2) zb0)) zb0)))))) (wb0 (zd0 (ya0 1)))))
noncomputable abbrev wl3:Stmt:=top 19
theorem wm7:FnScope zc7 ["deed"] (xb0 wl3):=⟨rfl,rfl,rfl,by decide +kernel,rfl,by decide +kernel,by decide +kernel⟩
theorem xs7 {k:Nat} {f:Addr} {cdv:Value} {A:Around} {outer:List Env} {s:Shared} {H:Hp} {E:XK} {sp_q28:Sp3} {k_q28:Nat} (c_q28:Cal P w K mg base k_q28 "pen_behind" ["word"] sp_q28) (l_q28:k_q28<=k) {sp_q30:Sp3} {k_q30:Nat} (c_q30:Cal P w K mg base k_q30 "pen_repeated" ["part", "number"] sp_q30) (l_q30:k_q30<=k) (hr:Room k (A.deeper (envOfC "pen_behind_deed" (xb0 wl3) s.heap.objs.size f cdv))) :
    RSs (cxOf CX0 P w K mg base zc7 "pen_behind_deed" (xb0 wl3) f cdv A outer s H E).nox (xd0 wl3) (wg7 sp_q28 sp_q30) :=
 (yb0 (xi0 (yf0 (q_eq (hu64 hr)) (wc0 q_ix (ya0 0) za0) zq0) (wb0 (zd0 (wg0 (xa0 za0 (xa0 za0 (xa0 (we0 ym1 (wc0 q_ix (ya0 0) za0) za0) zb0)))))) ye0) (yb0 (xi0 (yf0 (q_eq (hu64 hr)) (wc0 q_ix (ya0 0) za0) zq0) (wb0 (zd0 (yc0 (c_q30.mono l_q30) hr (xa0 (yc0 (c_q28.mono l_q28) hr (xa0 (wc0 q_ix (ya0 0) za0) zb0)) (xa0 (wc0 q_ix (ya0 0) za0) zb0))))) ye0) (wb0 (zd0 (wg0 (xa0 (wc0 q_ix (ya0 0) za0) (xa0 za0 (xa0 za0 zb0))))))))
noncomputable abbrev zl3:Stmt:=top 20
theorem sc_q30:FnScope wp5 ["part", "number"] (xb0 zl3):=⟨rfl,rfl,rfl,by decide +kernel,rfl,by decide +kernel,by decide +kernel⟩
theorem wr7 {k:Nat} {f:Addr} {cdv:Value} {A:Around} {outer:List Env} {s:Shared} {H:Hp} {E:XK} {sp_q23:Sp3} {k_q23:Nat} (c_q23:Cal P w K mg base k_q23 "led" ["pen", "part"] sp_q23) (l_q23:k_q23<=k) (z_range:mg "range" = none) (g_START:Gd K mg "START" ym0) (hr:Room k (A.deeper (envOfC "pen_repeated" (xb0 zl3) s.heap.objs.size f cdv))) :
    RSs (cxOf CX0 P w K mg base wp5 "pen_repeated" (xb0 zl3) f cdv A outer s H E).nox (xd0 zl3) (xc6 sp_q23) :=
 (yb0 (xi0 (yf0 (q_eq (hu64 hr)) (wc0 q_ix (ya0 0) za0) za0) (wb0 (zd0 (wg0 (xa0 (we0 wv0 (wc0 q_ix (ya0 0) za0) (ya0 1)) (xa0 (we0 wv0 (wc0 q_ix (ya0 0) za0) (ya0 1)) (xa0 za0 zb0)))))) ye0) (yb0 (xe0 (i:=2) sc_q30.nd (re_g g_START)) (yb0 (yu0 PassesOwn.never rfl (zd1 z_range (we0 ym1 (ya0 1) za0)) (wi0 (i:=3) sc_q30.nd) (wb0 (xe0 (i:=2) sc_q30.nd (yc0 (c_q23.mono l_q23) hr (xa0 (ya0 2) (xa0 (ya0 0) zb0)))))) (wb0 (zd0 (ya0 2))))))
noncomputable abbrev xl3:Stmt:=top 21
theorem zm7:FnScope yp5 ["word"] (xb0 xl3):=⟨rfl,rfl,rfl,by decide +kernel,rfl,by decide +kernel,by decide +kernel⟩
theorem yr7 {k:Nat} {f:Addr} {cdv:Value} {A:Around} {outer:List Env} {s:Shared} {H:Hp} {E:XK} {sp_q12:Sp3} {k_q12:Nat} (c_q12:Cal P w K mg base k_q12 "check_word" ["word"] sp_q12) (l_q12:k_q12<=k) {sp_q15:Sp3} {k_q15:Nat} (c_q15:Cal P w K mg base k_q15 "count_strokes" ["word"] sp_q15) (l_q15:k_q15<=k) (hr:Room k (A.deeper (envOfC "strokes_drawn" (xb0 xl3) s.heap.objs.size f cdv))) :
    RSs (cxOf CX0 P w K mg base yp5 "strokes_drawn" (xb0 xl3) f cdv A outer s H E).nox (xd0 xl3) (zb6 sp_q12 sp_q15) :=
 (yb0 (ws0 (yc0 (c_q12.mono l_q12) hr (xa0 (ya0 0) zb0))) (wb0 (zd0 (yc0 (c_q15.mono l_q15) hr (xa0 (ya0 0) zb0)))))
noncomputable abbrev xp3:Stmt:=top 22
theorem wo7:FnScope wq5 ["word"] (xb0 xp3):=⟨rfl,rfl,rfl,by decide +kernel,rfl,by decide +kernel,by decide +kernel⟩
theorem zv7 {k:Nat} {f:Addr} {cdv:Value} {A:Around} {outer:List Env} {s:Shared} {H:Hp} {E:XK} {sp_q16:Sp3} {k_q16:Nat} (c_q16:Cal P w K mg base k_q16 "count_strokes_of_deed" ["deed"] sp_q16) (l_q16:k_q16<=k) (z_sum:mg "sum" = none) (hr:Room k (A.deeper (envOfC "count_strokes" (xb0 xp3) s.heap.objs.size f cdv))) :
    RSs (cxOf CX0 P w K mg base wq5 "count_strokes" (xb0 xp3) f cdv A outer s H E).nox (xd0 xp3) (xd6 sp_q16) :=
 (wb0 (zd0 (xf0 wd8 z_sum wy5 (xa0 (zk6 (NN:=["deed"]) (by decide +kernel) (by decide +kernel) (by decide +kernel) (yw0 (ya0 0)) (λ _ _ _ _ _=>(wi0 (i:=0) (show List.Nodup (["deed"]:List Str) by decide +kernel))) (λ _ _ _ _ _=>xb2) (λ _ _ _ _ _=>(yc0 (c_q16.mono l_q16) hr (xa0 (ya0 0) zb0)))) zb0))))
noncomputable abbrev wo3:Stmt:=top 23
theorem zo7:FnScope xf7 ["deed"] (xb0 wo3):=⟨rfl,rfl,rfl,by decide +kernel,rfl,by decide +kernel,by decide +kernel⟩
theorem yv7 {k:Nat} {f:Addr} {cdv:Value} {A:Around} {outer:List Env} {s:Shared} {H:Hp} {E:XK} {sp_q15:Sp3} {k_q15:Nat} (c_q15:Cal P w K mg base k_q15 "count_strokes" ["word"] sp_q15) (l_q15:k_q15<=k) (hr:Room k (A.deeper (envOfC "count_strokes_of_deed" (xb0 wo3) s.heap.objs.size f cdv))) :
    RSs (cxOf CX0 P w K mg base xf7 "count_strokes_of_deed" (xb0 wo3) f cdv A outer s H E).nox (xd0 wo3) (yj7 sp_q15) :=
 (yb0 (xi0 (yf0 (q_eq (hu64 hr)) (wc0 q_ix (ya0 0) za0) zq0) (wb0 (zd0 (wc0 q_ix (ya0 0) za0))) ye0) (yb0 (xi0 (yf0 (q_eq (hu64 hr)) (wc0 q_ix (ya0 0) za0) zq0) (wb0 (zd0 (we0 wv0 (wc0 q_ix (ya0 0) za0) (yc0 (c_q15.mono l_q15) hr (xa0 (wc0 q_ix (ya0 0) za0) zb0))))) ye0) (wb0 (zd0 za0))))
noncomputable abbrev xq3:Stmt:=top 26
theorem zp7:FnScope zw4 ["stroke"] (xb0 xq3):=⟨rfl,rfl,rfl,by decide +kernel,rfl,by decide +kernel,by decide +kernel⟩
theorem zw7 {k:Nat} {f:Addr} {cdv:Value} {A:Around} {outer:List Env} {s:Shared} {H:Hp} {E:XK} (z_len:mg "len" = none) (g_WAYS:Gd K mg "WAYS" zm2) (hr:Room k (A.deeper (envOfC "check_stroke" (xb0 xq3) s.heap.objs.size f cdv))) :
    RSs (cxOf CX0 P w K mg base zw4 "check_stroke" (xb0 xq3) f cdv A outer s H E).nox (xd0 xq3) (zx4) :=
 (wb0 (xi0 (xk2 (yq7 (yf0 (q_ne (hu64 hr)) (xf0 xe4 z_len xy1 (xa0 (ya0 0) zb0)) za0) (zt5 (yf0 (xm6 (hu65 hr)) (wc0 q_ix (ya0 0) za0) (re_g g_WAYS))))) (wb0 wn0) ye0))
noncomputable abbrev zn3:Stmt:=top 27
theorem zn7:FnScope ye7 ["stroke"] (xb0 zn3):=⟨rfl,rfl,rfl,by decide +kernel,rfl,by decide +kernel,by decide +kernel⟩
theorem xu7 {k:Nat} {f:Addr} {cdv:Value} {A:Around} {outer:List Env} {s:Shared} {H:Hp} {E:XK} (hr:Room k (A.deeper (envOfC "ends_of" (xb0 zn3) s.heap.objs.size f cdv))) :
    RSs (cxOf CX0 P w K mg base ye7 "ends_of" (xb0 zn3) f cdv A outer s H E).nox (xd0 zn3) (zi7) :=
 (yb0 (xi0 (yf0 (q_eq (hu64 hr)) (wc0 q_ix (ya0 0) za0) za0) (wb0 (zd0 (wg0 (xa0 (wg0 (xa0 (wc0 q_ix (ya0 0) za0) (xa0 (wc0 q_ix (ya0 0) za0) zb0))) (xa0 (wg0 (xa0 (we0 xn0 (wc0 q_ix (ya0 0) za0) za0) (xa0 (wc0 q_ix (ya0 0) za0) zb0))) zb0))))) ye0) (wb0 (zd0 (wg0 (xa0 (wg0 (xa0 (wc0 q_ix (ya0 0) za0) (xa0 (wc0 q_ix (ya0 0) za0) zb0))) (xa0 (wg0 (xa0 (wc0 q_ix (ya0 0) za0) (xa0 (we0 xn0 (wc0 q_ix (ya0 0) za0) za0) zb0))) zb0))))))
noncomputable abbrev wk3:Stmt:=top 30
theorem sc_q33:FnScope xp5 ["word"] (xb0 wk3):=⟨rfl,rfl,rfl,by decide +kernel,rfl,by decide +kernel,by decide +kernel⟩
theorem xr7 {k:Nat} {f:Addr} {cdv:Value} {A:Around} {outer:List Env} {s:Shared} {H:Hp} {E:XK} {sp_q7:Sp3} {k_q7:Nat} (c_q7:Cal P w K mg base k_q7 "box_from" ["pen", "box"] sp_q7) (l_q7:k_q7<=k) {sp_q9:Sp3} {k_q9:Nat} (c_q9:Cal P w K mg base k_q9 "box_round" ["one", "other"] sp_q9) (l_q9:k_q9<=k) {sp_q17:Sp3} {k_q17:Nat} (c_q17:Cal P w K mg base k_q17 "deed_box" ["deed"] sp_q17) (l_q17:k_q17<=k) {sp_q23:Sp3} {k_q23:Nat} (c_q23:Cal P w K mg base k_q23 "led" ["pen", "part"] sp_q23) (l_q23:k_q23<=k) {sp_q29:Sp3} {k_q29:Nat} (c_q29:Cal P w K mg base k_q29 "pen_behind_deed" ["deed"] sp_q29) (l_q29:k_q29<=k) (g_START:Gd K mg "START" ym0) (hr:Room k (A.deeper (envOfC "word_box" (xb0 wk3) s.heap.objs.size f cdv))) :
    RSs (cxOf CX0 P w K mg base xp5 "word_box" (xb0 wk3) f cdv A outer s H E).nox (xd0 wk3) (yb6 sp_q7 sp_q9 sp_q17 sp_q23 sp_q29) :=
 (yb0 (xe0 (i:=1) sc_q33.nd zw0) (yb0 (xe0 (i:=2) sc_q33.nd (re_g g_START)) (yb0 (yu0 PassesOwn.never rfl (yw0 (ya0 0)) (wi0 (i:=3) sc_q33.nd) (yb0 (xe0 (i:=1) sc_q33.nd (yc0 (c_q9.mono l_q9) hr (xa0 (ya0 1) (xa0 (yc0 (c_q7.mono l_q7) hr (xa0 (ya0 2) (xa0 (yc0 (c_q17.mono l_q17) hr (xa0 (ya0 3) zb0)) zb0))) zb0)))) (wb0 (xe0 (i:=2) sc_q33.nd (yc0 (c_q23.mono l_q23) hr (xa0 (ya0 2) (xa0 (yc0 (c_q29.mono l_q29) hr (xa0 (ya0 3) zb0)) zb0))))))) (wb0 (zd0 (ya0 1))))))
noncomputable abbrev zo3:Stmt:=top 31
theorem yo7:FnScope zq5 ["deed"] (xb0 zo3):=⟨rfl,rfl,rfl,by decide +kernel,rfl,by decide +kernel,by decide +kernel⟩
theorem xv7 {k:Nat} {f:Addr} {cdv:Value} {A:Around} {outer:List Env} {s:Shared} {H:Hp} {E:XK} {sp_q8:Sp3} {k_q8:Nat} (c_q8:Cal P w K mg base k_q8 "box_repeated" ["box", "part", "number"] sp_q8) (l_q8:k_q8<=k) {sp_q28:Sp3} {k_q28:Nat} (c_q28:Cal P w K mg base k_q28 "pen_behind" ["word"] sp_q28) (l_q28:k_q28<=k) {sp_q33:Sp3} {k_q33:Nat} (c_q33:Cal P w K mg base k_q33 "word_box" ["word"] sp_q33) (l_q33:k_q33<=k) (hr:Room k (A.deeper (envOfC "deed_box" (xb0 zo3) s.heap.objs.size f cdv))) :
    RSs (cxOf CX0 P w K mg base zq5 "deed_box" (xb0 zo3) f cdv A outer s H E).nox (xd0 zo3) (wc6 sp_q8 sp_q28 sp_q33) :=
 (yb0 (xi0 (yf0 (q_eq (hu64 hr)) (wc0 q_ix (ya0 0) za0) za0) (wb0 (zd0 zw0)) ye0) (yb0 (xi0 (yf0 (q_eq (hu64 hr)) (wc0 q_ix (ya0 0) za0) zq0) (wb0 (zd0 (wg0 (xa0 za0 (xa0 za0 (xa0 (wc0 q_ix (ya0 0) za0) (xa0 za0 zb0))))))) ye0) (yb0 (xi0 (yf0 (q_eq (hu64 hr)) (wc0 q_ix (ya0 0) za0) zq0) (wb0 (zd0 (yc0 (c_q8.mono l_q8) hr (xa0 (yc0 (c_q33.mono l_q33) hr (xa0 (wc0 q_ix (ya0 0) za0) zb0)) (xa0 (yc0 (c_q28.mono l_q28) hr (xa0 (wc0 q_ix (ya0 0) za0) zb0)) (xa0 (wc0 q_ix (ya0 0) za0) zb0)))))) ye0) (wb0 (zd0 zw0)))))
noncomputable abbrev s_q8:Stmt:=top 32
theorem sc_q8:FnScope N_q8 ["box", "part", "number"] (xb0 s_q8):=⟨rfl,rfl,rfl,by decide +kernel,rfl,by decide +kernel,by decide +kernel⟩
theorem yc9 {k:Nat} {f:Addr} {cdv:Value} {A:Around} {outer:List Env} {s:Shared} {H:Hp} {E:XK} {sp_q7:Sp3} {k_q7:Nat} (c_q7:Cal P w K mg base k_q7 "box_from" ["pen", "box"] sp_q7) (l_q7:k_q7<=k) {sp_q9:Sp3} {k_q9:Nat} (c_q9:Cal P w K mg base k_q9 "box_round" ["one", "other"] sp_q9) (l_q9:k_q9<=k) {sp_q27:Sp3} {k_q27:Nat} (c_q27:Cal P w K mg base k_q27 "outermost_doings" ["part", "number"] sp_q27) (l_q27:k_q27<=k) {sp_q30:Sp3} {k_q30:Nat} (c_q30:Cal P w K mg base k_q30 "pen_repeated" ["part", "number"] sp_q30) (l_q30:k_q30<=k) (hr:Room k (A.deeper (envOfC "box_repeated" (xb0 s_q8) s.heap.objs.size f cdv))) :
    RSs (cxOf CX0 P w K mg base N_q8 "box_repeated" (xb0 s_q8) f cdv A outer s H E).nox (xd0 s_q8) (t_q8 sp_q7 sp_q9 sp_q27 sp_q30) :=
 (yb0 (xe0 (i:=3) sc_q8.nd zw0) (yb0 (yu0 PassesOwn.never rfl (yw0 (yc0 (c_q27.mono l_q27) hr (xa0 (ya0 1) (xa0 (ya0 2) zb0)))) (wi0 (i:=4) sc_q8.nd) (wb0 (xe0 (i:=3) sc_q8.nd (yc0 (c_q9.mono l_q9) hr (xa0 (ya0 3) (xa0 (yc0 (c_q7.mono l_q7) hr (xa0 (yc0 (c_q30.mono l_q30) hr (xa0 (ya0 1) (xa0 (ya0 4) zb0))) (xa0 (ya0 0) zb0))) zb0)))))) (wb0 (zd0 (ya0 3)))))
noncomputable abbrev ym3:Stmt:=top 33
theorem xn7:FnScope xq5 ["part", "number"] (xb0 ym3):=⟨rfl,rfl,rfl,by decide +kernel,rfl,by decide +kernel,by decide +kernel⟩
theorem zs7 {k:Nat} {f:Addr} {cdv:Value} {A:Around} {outer:List Env} {s:Shared} {H:Hp} {E:XK} (z_list:mg "list" = none) (z_min:mg "min" = none) (z_range:mg "range" = none) (hr:Room k (A.deeper (envOfC "outermost_doings" (xb0 ym3) s.heap.objs.size f cdv))) :
    RSs (cxOf CX0 P w K mg base xq5 "outermost_doings" (xb0 ym3) f cdv A outer s H E).nox (xd0 ym3) (yc6) :=
 (yb0 (xi0 (yf0 (q_eq (hu64 hr)) (wc0 q_ix (ya0 0) za0) za0) (wb0 (zd0 (zh1 (xa0 za0 (xa0 (we0 xa1 (ya0 1) za0) zb0))))) ye0) (wb0 (zd0 (xk6 (xf0 (zu0 rfl) z_min yv0 (xa0 (ya0 1) (xa0 za0 zb0))) z_list z_range))))
noncomputable abbrev s_q9:Stmt:=top 34
theorem sc_q9:FnScope N_q9 ["one", "other"] (xb0 s_q9):=⟨rfl,rfl,rfl,by decide +kernel,rfl,by decide +kernel,by decide +kernel⟩
theorem xc9 {k:Nat} {f:Addr} {cdv:Value} {A:Around} {outer:List Env} {s:Shared} {H:Hp} {E:XK} (z_max:mg "max" = none) (z_min:mg "min" = none) (hr:Room k (A.deeper (envOfC "box_round" (xb0 s_q9) s.heap.objs.size f cdv))) :
    RSs (cxOf CX0 P w K mg base N_q9 "box_round" (xb0 s_q9) f cdv A outer s H E).nox (xd0 s_q9) (t_q9) :=
 (yb0 (xi0 (yf0 ze4 (ya0 0) zw0) (wb0 (zd0 (ya0 1))) ye0) (yb0 (xi0 (yf0 ze4 (ya0 1) zw0) (wb0 (zd0 (ya0 0))) ye0) (yb0 (xe0 (i:=2) sc_q9.nd (wg0 (xa0 (xf0 (zu0 rfl) z_min yv0 (xa0 (wc0 q_ix (ya0 0) za0) (xa0 (wc0 q_ix (ya0 1) za0) zb0))) (xa0 (xf0 (zu0 rfl) z_min yv0 (xa0 (wc0 q_ix (ya0 0) za0) (xa0 (wc0 q_ix (ya0 1) za0) zb0))) zb0)))) (wb0 (zd0 (we0 xn0 (ya0 2) (wg0 (xa0 (xf0 (zq3 rfl) z_max wx1 (xa0 (wc0 q_ix (ya0 0) za0) (xa0 (wc0 q_ix (ya0 1) za0) zb0))) (xa0 (xf0 (zq3 rfl) z_max wx1 (xa0 (wc0 q_ix (ya0 0) za0) (xa0 (wc0 q_ix (ya0 1) za0) zb0))) zb0)))))))))
noncomputable abbrev s_q7:Stmt:=top 35
theorem sc_q7:FnScope N_q7 ["pen", "box"] (xb0 s_q7):=⟨rfl,rfl,rfl,by decide +kernel,rfl,by decide +kernel,by decide +kernel⟩
theorem zc9 {k:Nat} {f:Addr} {cdv:Value} {A:Around} {outer:List Env} {s:Shared} {H:Hp} {E:XK} {sp_q23:Sp3} {k_q23:Nat} (c_q23:Cal P w K mg base k_q23 "led" ["pen", "part"] sp_q23) (l_q23:k_q23<=k) (z_max:mg "max" = none) (z_min:mg "min" = none) (hr:Room k (A.deeper (envOfC "box_from" (xb0 s_q7) s.heap.objs.size f cdv))) :
    RSs (cxOf CX0 P w K mg base N_q7 "box_from" (xb0 s_q7) f cdv A outer s H E).nox (xd0 s_q7) (t_q7 sp_q23) :=
 (yb0 (xi0 (yf0 ze4 (ya0 1) zw0) (wb0 (zd0 zw0)) ye0) (yb0 (xe0 (i:=2) sc_q7.nd (yc0 (c_q23.mono l_q23) hr (xa0 (ya0 0) (xa0 (wg0 (xa0 (wc0 q_ix (ya0 1) za0) (xa0 (wc0 q_ix (ya0 1) za0) (xa0 za0 zb0)))) zb0)))) (yb0 (xe0 (i:=3) sc_q7.nd (yc0 (c_q23.mono l_q23) hr (xa0 (ya0 0) (xa0 (wg0 (xa0 (wc0 q_ix (ya0 1) za0) (xa0 (wc0 q_ix (ya0 1) za0) (xa0 za0 zb0)))) zb0)))) (yb0 (xe0 (i:=4) sc_q7.nd (wg0 (xa0 (xf0 (zu0 rfl) z_min yv0 (xa0 (wc0 q_ix (ya0 2) za0) (xa0 (wc0 q_ix (ya0 3) za0) zb0))) (xa0 (xf0 (zu0 rfl) z_min yv0 (xa0 (wc0 q_ix (ya0 2) za0) (xa0 (wc0 q_ix (ya0 3) za0) zb0))) zb0)))) (wb0 (zd0 (we0 xn0 (ya0 4) (wg0 (xa0 (xf0 (zq3 rfl) z_max wx1 (xa0 (wc0 q_ix (ya0 2) za0) (xa0 (wc0 q_ix (ya0 3) za0) zb0))) (xa0 (xf0 (zq3 rfl) z_max wx1 (xa0 (wc0 q_ix (ya0 2) za0) (xa0 (wc0 q_ix (ya0 3) za0) zb0))) zb0))))))))))
noncomputable abbrev wn3:Stmt:=top 36
theorem wn7:FnScope ze7 ["word", "stroke"] (xb0 wn3):=⟨rfl,rfl,rfl,by decide +kernel,rfl,by decide +kernel,by decide +kernel⟩
theorem yu7 {k:Nat} {f:Addr} {cdv:Value} {A:Around} {outer:List Env} {s:Shared} {H:Hp} {E:XK} {C_Look:Addr} {sp_Look___init__:Sp3} {k_Look___init__:Nat} (c_Look___init__:CalT P w K mg base k_Look___init__ C_Look "__init__" ["self", "stroke"] sp_Look___init__) (l_Look___init__:k_Look___init__ < k) {sp_q11:Sp3} {k_q11:Nat} (c_q11:Cal P w K mg base k_q11 "check_stroke" ["stroke"] sp_q11) (l_q11:k_q11<=k) {sp_q12:Sp3} {k_q12:Nat} (c_q12:Cal P w K mg base k_q12 "check_word" ["word"] sp_q12) (l_q12:k_q12<=k) {sp_q26:Sp3} {k_q26:Nat} (c_q26:Cal P w K mg base k_q26 "often_in_word" ["word", "pen", "look"] sp_q26) (l_q26:k_q26<=k) (oc_Look:ObjC K "Look" C_Look) (mk_Look:PySem.W.makesIn K C_Look=true) (kp_Look:PySem.W.keepIn K (.ref C_Look)=true) (m_Look:mg "Look" = some (.ref C_Look)) (g_START:Gd K mg "START" ym0) (hr:Room k (A.deeper (envOfC "drawn_often" (xb0 wn3) s.heap.objs.size f cdv))) :
    RSs (cxOf CX0 P w K mg base ze7 "drawn_often" (xb0 wn3) f cdv A outer s H E).nox (xd0 wn3) (wi7 sp_Look___init__ sp_q11 sp_q12 sp_q26) :=
 (yb0 (ws0 (yc0 (c_q12.mono l_q12) hr (xa0 (ya0 0) zb0))) (yb0 (ws0 (yc0 (c_q11.mono l_q11) hr (xa0 (ya0 1) zb0))) (wb0 (zd0 (yc0 (c_q26.mono l_q26) hr (xa0 (ya0 0) (xa0 (re_g g_START) (xa0 (wj6 oc_Look mk_Look kp_Look c_Look___init__ m_Look (hr.mono l_Look___init__) (xa0 (ya0 1) zb0)) zb0))))))))
noncomputable abbrev zm3:Stmt:=top 38
theorem sc_q26:FnScope xd7 ["word", "pen", "look"] (xb0 zm3):=⟨rfl,rfl,rfl,by decide +kernel,rfl,by decide +kernel,by decide +kernel⟩
theorem ws7 {k:Nat} {f:Addr} {cdv:Value} {A:Around} {outer:List Env} {s:Shared} {H:Hp} {E:XK} {sp_q23:Sp3} {k_q23:Nat} (c_q23:Cal P w K mg base k_q23 "led" ["pen", "part"] sp_q23) (l_q23:k_q23<=k) {sp_q24:Sp3} {k_q24:Nat} (c_q24:Cal P w K mg base k_q24 "often_in_deed" ["deed", "pen", "look"] sp_q24) (l_q24:k_q24<=k) {sp_q29:Sp3} {k_q29:Nat} (c_q29:Cal P w K mg base k_q29 "pen_behind_deed" ["deed"] sp_q29) (l_q29:k_q29<=k) (hr:Room k (A.deeper (envOfC "often_in_word" (xb0 zm3) s.heap.objs.size f cdv))) :
    RSs (cxOf CX0 P w K mg base xd7 "often_in_word" (xb0 zm3) f cdv A outer s H E).nox (xd0 zm3) (yh7 sp_q23 sp_q24 sp_q29) :=
 (yb0 (xe0 (i:=3) sc_q26.nd za0) (yb0 (xe0 (i:=4) sc_q26.nd (ya0 1)) (yb0 (yu0 PassesOwn.never rfl (yw0 (ya0 0)) (wi0 (i:=5) sc_q26.nd) (yb0 (xe0 (i:=3) sc_q26.nd (we0 xn0 (ya0 3) (yc0 (c_q24.mono l_q24) hr (xa0 (ya0 5) (xa0 (ya0 4) (xa0 (ya0 2) zb0)))))) (wb0 (xe0 (i:=4) sc_q26.nd (yc0 (c_q23.mono l_q23) hr (xa0 (ya0 4) (xa0 (yc0 (c_q29.mono l_q29) hr (xa0 (ya0 5) zb0)) zb0))))))) (wb0 (zd0 (ya0 3))))))
noncomputable abbrev xn3:Stmt:=top 39
theorem yn7:FnScope zd7 ["deed", "pen", "look"] (xb0 xn3):=⟨rfl,rfl,rfl,by decide +kernel,rfl,by decide +kernel,by decide +kernel⟩
theorem yt7 {k:Nat} {f:Addr} {cdv:Value} {A:Around} {outer:List Env} {s:Shared} {H:Hp} {E:XK} {C_Look:Addr} {sp_Look_is_within:Sp3} {k_Look_is_within:Nat} (c_Look_is_within:CalT P w K mg base k_Look_is_within C_Look "is_within" ["self", "box"] sp_Look_is_within) (l_Look_is_within:k_Look_is_within<=k) {sp_q7:Sp3} {k_q7:Nat} (c_q7:Cal P w K mg base k_q7 "box_from" ["pen", "box"] sp_q7) (l_q7:k_q7<=k) {sp_q17:Sp3} {k_q17:Nat} (c_q17:Cal P w K mg base k_q17 "deed_box" ["deed"] sp_q17) (l_q17:k_q17<=k) {sp_q25:Sp3} {k_q25:Nat} (c_q25:Cal P w K mg base k_q25 "often_in_times" ["number", "word", "pen", "look"] sp_q25) (l_q25:k_q25<=k) (oc_Look:ObjC K "Look" C_Look) (hr:Room k (A.deeper (envOfC "often_in_deed" (xb0 xn3) s.heap.objs.size f cdv))) :
    RSs (cxOf CX0 P w K mg base zd7 "often_in_deed" (xb0 xn3) f cdv A outer s H E).nox (xd0 xn3) (wh7 sp_Look_is_within sp_q7 sp_q17 sp_q25) :=
 (yb0 (xi0 (yf0 (q_eq (hu64 hr)) (wc0 q_ix (ya0 0) za0) zq0) (wb0 (zd0 (yc0 (c_q25.mono l_q25) hr (xa0 (wc0 q_ix (ya0 0) za0) (xa0 (wc0 q_ix (ya0 0) za0) (xa0 (ya0 1) (xa0 (ya0 2) zb0))))))) ye0) (wb0 (zd0 (zx7 (zv1 (yd4 (ya0 2) oc_Look (c_Look_is_within.mono l_Look_is_within) hr (xa0 (yc0 (c_q7.mono l_q7) hr (xa0 (ya0 1) (xa0 (yc0 (c_q17.mono l_q17) hr (xa0 (ya0 0) zb0)) zb0))) zb0))) za0 za0))))
noncomputable abbrev wm3:Stmt:=top 40
theorem sc_q25:FnScope yd7 ["number", "word", "pen", "look"] (xb0 wm3):=⟨rfl,rfl,rfl,by decide +kernel,rfl,by decide +kernel,by decide +kernel⟩
theorem xt7 {k:Nat} {f:Addr} {cdv:Value} {A:Around} {outer:List Env} {s:Shared} {H:Hp} {E:XK} {C_Look:Addr} {sp_Look_count_doing:Sp3} {k_Look_count_doing:Nat} (c_Look_count_doing:CalT P w K mg base k_Look_count_doing C_Look "count_doing" ["self"] sp_Look_count_doing) (l_Look_count_doing:k_Look_count_doing<=k) {sp_Look_is_within:Sp3} {k_Look_is_within:Nat} (c_Look_is_within:CalT P w K mg base k_Look_is_within C_Look "is_within" ["self", "box"] sp_Look_is_within) (l_Look_is_within:k_Look_is_within<=k) {sp_q7:Sp3} {k_q7:Nat} (c_q7:Cal P w K mg base k_q7 "box_from" ["pen", "box"] sp_q7) (l_q7:k_q7<=k) {sp_q18:Sp3} {k_q18:Nat} (c_q18:Cal P w K mg base k_q18 "doings_like" ["doing", "number", "part"] sp_q18) (l_q18:k_q18<=k) {sp_q19:Sp3} {k_q19:Nat} (c_q19:Cal P w K mg base k_q19 "doings_to_ask" ["number", "part", "pen", "box", "look"] sp_q19) (l_q19:k_q19<=k) {sp_q23:Sp3} {k_q23:Nat} (c_q23:Cal P w K mg base k_q23 "led" ["pen", "part"] sp_q23) (l_q23:k_q23<=k) {sp_q26:Sp3} {k_q26:Nat} (c_q26:Cal P w K mg base k_q26 "often_in_word" ["word", "pen", "look"] sp_q26) (l_q26:k_q26<=k) {sp_q28:Sp3} {k_q28:Nat} (c_q28:Cal P w K mg base k_q28 "pen_behind" ["word"] sp_q28) (l_q28:k_q28<=k) {sp_q30:Sp3} {k_q30:Nat} (c_q30:Cal P w K mg base k_q30 "pen_repeated" ["part", "number"] sp_q30) (l_q30:k_q30<=k) {sp_q33:Sp3} {k_q33:Nat} (c_q33:Cal P w K mg base k_q33 "word_box" ["word"] sp_q33) (l_q33:k_q33<=k) (oc_Look:ObjC K "Look" C_Look) (z_range:mg "range" = none) (hr:Room k (A.deeper (envOfC "often_in_times" (xb0 wm3) s.heap.objs.size f cdv))) :
    RSs (cxOf CX0 P w K mg base yd7 "often_in_times" (xb0 wm3) f cdv A outer s H E).nox (xd0 wm3) (zh7 sp_Look_count_doing sp_Look_is_within sp_q7 sp_q18 sp_q19 sp_q23 sp_q26 sp_q28 sp_q30 sp_q33) :=
 (yb0 (xe0 (i:=4) sc_q25.nd (yc0 (c_q28.mono l_q28) hr (xa0 (ya0 1) zb0))) (yb0 (xe0 (i:=5) sc_q25.nd (yc0 (c_q33.mono l_q33) hr (xa0 (ya0 1) zb0))) (yb0 (xe0 (i:=6) sc_q25.nd za0) (yb0 (xe0 (i:=7) sc_q25.nd (yc0 (c_q19.mono l_q19) hr (xa0 (ya0 0) (xa0 (ya0 4) (xa0 (ya0 2) (xa0 (ya0 5) (xa0 (ya0 3) zb0))))))) (yb0 (yu0 PassesOwn.never rfl (wb4 z_range (wc0 q_ix (ya0 7) za0) (wc0 q_ix (ya0 7) za0)) (wi0 (i:=8) sc_q25.nd) (yb0 (xe0 (i:=9) sc_q25.nd (yc0 (c_q23.mono l_q23) hr (xa0 (ya0 2) (xa0 (yc0 (c_q30.mono l_q30) hr (xa0 (ya0 4) (xa0 (ya0 8) zb0))) zb0)))) (wb0 (xi0 (zv1 (yd4 (ya0 3) oc_Look (c_Look_is_within.mono l_Look_is_within) hr (xa0 (yc0 (c_q7.mono l_q7) hr (xa0 (ya0 9) (xa0 (ya0 5) zb0))) zb0))) (yb0 (ws0 (xe5 (ya0 3) oc_Look (c_Look_count_doing.mono l_Look_count_doing) hr)) (wb0 (xe0 (i:=6) sc_q25.nd (we0 xn0 (ya0 6) (we0 wv0 (yc0 (c_q18.mono l_q18) hr (xa0 (ya0 8) (xa0 (ya0 0) (xa0 (ya0 4) zb0)))) (yc0 (c_q26.mono l_q26) hr (xa0 (ya0 1) (xa0 (ya0 9) (xa0 (ya0 3) zb0))))))))) ye0)))) (wb0 (zd0 (ya0 6))))))))
noncomputable abbrev xo3:Stmt:=top 41
theorem sc_q19:FnScope we7 ["number", "part", "pen", "box", "look"] (xb0 xo3):=⟨rfl,rfl,rfl,by decide +kernel,rfl,by decide +kernel,by decide +kernel⟩
theorem zu7 {k:Nat} {f:Addr} {cdv:Value} {A:Around} {outer:List Env} {s:Shared} {H:Hp} {E:XK} {sp_q7:Sp3} {k_q7:Nat} (c_q7:Cal P w K mg base k_q7 "box_from" ["pen", "box"] sp_q7) (l_q7:k_q7<=k) {sp_q23:Sp3} {k_q23:Nat} (c_q23:Cal P w K mg base k_q23 "led" ["pen", "part"] sp_q23) (l_q23:k_q23<=k) {sp_q31:Sp3} {k_q31:Nat} (c_q31:Cal P w K mg base k_q31 "span_of_doings" ["number", "low", "high", "shift", "least", "greatest"] sp_q31) (l_q31:k_q31<=k) {C_Look:Addr} (oc_Look:ObjC K "Look" C_Look) (na_Look_greatest:NoAttr K C_Look "greatest") (na_Look_least:NoAttr K C_Look "least") (z_max:mg "max" = none) (z_min:mg "min" = none) (g_START:Gd K mg "START" ym0) (hr:Room k (A.deeper (envOfC "doings_to_ask" (xb0 xo3) s.heap.objs.size f cdv))) :
    RSs (cxOf CX0 P w K mg base we7 "doings_to_ask" (xb0 xo3) f cdv A outer s H E).nox (xd0 xo3) (xj7 sp_q7 sp_q23 sp_q31) :=
 (yb0 (xi0 (yf0 ze4 (ya0 3) zw0) (wb0 (zd0 (wg0 (xa0 za0 (xa0 za0 zb0))))) ye0) (yb0 (xi0 (yf0 (q_eq (hu64 hr)) (ya0 1) (re_g g_START)) (wb0 (zd0 (wg0 (xa0 za0 (xa0 (xf0 (zu0 rfl) z_min yv0 (xa0 (ya0 0) (xa0 za0 zb0))) zb0))))) ye0) (yb0 (xi0 (yf0 (q_ne (hu64 hr)) (wc0 q_ix (ya0 1) za0) za0) (wb0 (zd0 (wg0 (xa0 za0 (xa0 (xf0 (zu0 rfl) z_min yv0 (xa0 (ya0 0) (xa0 za0 zb0))) zb0))))) ye0) (yb0 (xe0 (i:=5) sc_q19.nd (yc0 (c_q7.mono l_q7) hr (xa0 (ya0 2) (xa0 (ya0 3) zb0)))) (yb0 (xe0 (i:=6) sc_q19.nd (yc0 (c_q7.mono l_q7) hr (xa0 (yc0 (c_q23.mono l_q23) hr (xa0 (ya0 2) (xa0 (ya0 1) zb0))) (xa0 (ya0 3) zb0)))) (yb0 (xe0 (i:=7) sc_q19.nd (yc0 (c_q31.mono l_q31) hr (xa0 (ya0 0) (xa0 (wc0 q_ix (ya0 5) za0) (xa0 (wc0 q_ix (ya0 5) za0) (xa0 (we0 xa1 (wc0 q_ix (ya0 6) za0) (wc0 q_ix (ya0 5) za0)) (xa0 (wc0 q_ix (ww0 (ya0 4) oc_Look na_Look_least) za0) (xa0 (wc0 q_ix (ww0 (ya0 4) oc_Look na_Look_greatest) za0) zb0)))))))) (yb0 (xe0 (i:=8) sc_q19.nd (yc0 (c_q31.mono l_q31) hr (xa0 (ya0 0) (xa0 (wc0 q_ix (ya0 5) za0) (xa0 (wc0 q_ix (ya0 5) za0) (xa0 (we0 xa1 (wc0 q_ix (ya0 6) za0) (wc0 q_ix (ya0 5) za0)) (xa0 (wc0 q_ix (ww0 (ya0 4) oc_Look na_Look_least) za0) (xa0 (wc0 q_ix (ww0 (ya0 4) oc_Look na_Look_greatest) za0) zb0)))))))) (wb0 (zd0 (wg0 (xa0 (xf0 (zq3 rfl) z_max wx1 (xa0 (wc0 q_ix (ya0 7) za0) (xa0 (wc0 q_ix (ya0 8) za0) zb0))) (xa0 (xf0 (zu0 rfl) z_min yv0 (xa0 (wc0 q_ix (ya0 7) za0) (xa0 (wc0 q_ix (ya0 8) za0) zb0))) zb0))))))))))))
noncomputable abbrev yl3:Stmt:=top 42
theorem sc_q31:FnScope zp5 ["number", "low", "high", "shift", "least", "greatest"] (xb0 yl3):=⟨rfl,rfl,rfl,by decide +kernel,rfl,by decide +kernel,by decide +kernel⟩
theorem zr7 {k:Nat} {f:Addr} {cdv:Value} {A:Around} {outer:List Env} {s:Shared} {H:Hp} {E:XK} {sp_q31:Sp3} {k_q31:Nat} (c_q31:Cal P w K mg base k_q31 "span_of_doings" ["number", "low", "high", "shift", "least", "greatest"] sp_q31) (l_q31:k_q31<=k) (z_max:mg "max" = none) (z_min:mg "min" = none) (hr:Room k (A.deeper (envOfC "span_of_doings" (xb0 yl3) s.heap.objs.size f cdv))) :
    RSs (cxOf CX0 P w K mg base zp5 "span_of_doings" (xb0 yl3) f cdv A outer s H E).nox (xd0 yl3) (wb6 sp_q31) :=
 (yb0 (xi0 (yf0 q_lt (ya0 3) za0) (wb0 (zd0 (yc0 (c_q31.mono l_q31) hr (xa0 (ya0 0) (xa0 (zk2 yl2 (ya0 2)) (xa0 (zk2 yl2 (ya0 1)) (xa0 (zk2 yl2 (ya0 3)) (xa0 (zk2 yl2 (ya0 5)) (xa0 (zk2 yl2 (ya0 4)) zb0))))))))) ye0) (yb0 (xi0 (yf0 (q_eq (hu64 hr)) (ya0 3) za0) (wb0 (zd0 (zx7 (xk2 (yv1 (yf0 q_le (ya0 1) (ya0 4)) (wf1 (yf0 q_le (ya0 5) (ya0 2))))) (wg0 (xa0 za0 (xa0 (ya0 0) zb0))) (wg0 (xa0 za0 (xa0 za0 zb0)))))) ye0) (yb0 (xe0 (i:=6) sc_q31.nd (zk2 yl2 (we0 zm1 (we0 xa1 (ya0 2) (ya0 5)) (ya0 3)))) (yb0 (xe0 (i:=7) sc_q31.nd (we0 zm1 (we0 xa1 (ya0 4) (ya0 1)) (ya0 3))) (wb0 (zd0 (wg0 (xa0 (xf0 (zq3 rfl) z_max wx1 (xa0 za0 (xa0 (ya0 6) zb0))) (xa0 (xf0 (zu0 rfl) z_min yv0 (xa0 (ya0 0) (xa0 (we0 xn0 (ya0 7) za0) zb0))) zb0)))))))))
noncomputable abbrev yo3:Stmt:=top 43
theorem xo7:FnScope yq5 ["doing", "number", "part"] (xb0 yo3):=⟨rfl,rfl,rfl,by decide +kernel,rfl,by decide +kernel,by decide +kernel⟩
theorem wu7 {k:Nat} {f:Addr} {cdv:Value} {A:Around} {outer:List Env} {s:Shared} {H:Hp} {E:XK} (g_START:Gd K mg "START" ym0) (hr:Room k (A.deeper (envOfC "doings_like" (xb0 yo3) s.heap.objs.size f cdv))) :
    RSs (cxOf CX0 P w K mg base yq5 "doings_like" (xb0 yo3) f cdv A outer s H E).nox (xd0 yo3) (zc6) :=
 (yb0 (xi0 (yf0 (q_eq (hu64 hr)) (ya0 2) (re_g g_START)) (wb0 (zd0 (ya0 1))) ye0) (yb0 (xi0 (yf0 (q_ne (hu64 hr)) (wc0 q_ix (ya0 2) za0) za0) (wb0 (zd0 (we0 zm1 (we0 xn0 (we0 xa1 (ya0 1) (ya0 0)) za0) za0))) ye0) (wb0 (zd0 za0))))
noncomputable abbrev s_q4:Stmt:=top 45
theorem sc_q4:FnScope N_q4 ["script", "k"] (xb0 s_q4):=⟨rfl,rfl,rfl,by decide +kernel,rfl,by decide +kernel,by decide +kernel⟩
theorem yd9 {k:Nat} {f:Addr} {cdv:Value} {A:Around} {outer:List Env} {s:Shared} {H:Hp} {E:XK} (z_len:mg "len" = none) (hr:Room k (A.deeper (envOfC "_law_state" (xb0 s_q4) s.heap.objs.size f cdv))) :
    RSs (cxOf CX0 P w K mg base N_q4 "_law_state" (xb0 s_q4) f cdv A outer s H E).nox (xd0 s_q4) (t_q4) :=
 (yb0 (xe0 (i:=2) sc_q4.nd za0) (yb0 (xi0 (yf0 q_lt (ya0 1) (xf0 xe4 z_len xy1 (xa0 (ya0 0) zb0))) (wb0 (xe0 (i:=2) sc_q4.nd (wc0 q_ix (ya0 0) (ya0 1)))) ye0) (yb0 (xi0 (yf0 q_ge (ya0 2) (we0 xe8 za0 za0)) (wb0 (zd0 (zh1 (xa0 (we0 xa1 (ya0 2) (we0 xe8 za0 za0)) (xa0 za0 zb0))))) ye0) (wb0 (zd0 (zh1 (xa0 (we0 ym1 (we0 xn0 (ya0 2) (we0 wv0 za0 (ya0 1))) za0) (xa0 za0 zb0))))))))
noncomputable abbrev s_q5:Stmt:=top 46
theorem sc_q5:FnScope N_q5 ["state", "many"] (xb0 s_q5):=⟨rfl,rfl,rfl,by decide +kernel,rfl,by decide +kernel,by decide +kernel⟩
theorem xd9 {k:Nat} {f:Addr} {cdv:Value} {A:Around} {outer:List Env} {s:Shared} {H:Hp} {E:XK} (hr:Room k (A.deeper (envOfC "_law_take" (xb0 s_q5) s.heap.objs.size f cdv))) :
    RSs (cxOf CX0 P w K mg base N_q5 "_law_take" (xb0 s_q5) f cdv A outer s H E).nox (xd0 s_q5) (t_q5) :=
 (yb0 (xi0 (xk2 (yv1 (yf0 (q_eq (hu64 hr)) (wc0 q_ix (ya0 0) za0) za0) (wf1 (yf0 q_gt (wc0 q_ix (ya0 0) za0) za0)))) (yb0 (xe0 (i:=2) sc_q5.nd (we0 ym1 (wc0 q_ix (ya0 0) za0) (ya0 1))) (yb0 (wc3 (we0 zm1 (wc0 q_ix (ya0 0) za0) (ya0 1)) (yc4 (ya0 0) za0)) (wb0 (zd0 (ya0 2))))) ye0) (yb0 (wc3 za0 (yc4 (ya0 0) za0)) (yb0 (wc3 (we0 ym1 (we0 xn0 (we0 wv0 (wc0 q_ix (ya0 0) za0) za0) za0) za0) (yc4 (ya0 0) za0)) (yb0 (xe0 (i:=3) sc_q5.nd (we0 ym1 (we0 xn0 (we0 wv0 (wc0 q_ix (ya0 0) za0) (wc0 q_ix (ya0 0) za0)) (we0 wv0 za0 (wc0 q_ix (ya0 0) za0))) za0)) (yb0 (xe0 (i:=3) sc_q5.nd (we0 ym1 (we0 xn0 (we0 wv0 (ya0 3) (ya0 3)) (we0 wv0 za0 (ya0 3))) za0)) (wb0 (zd0 (we0 ym1 (we0 zm1 (ya0 3) za0) (ya0 1)))))))))
noncomputable abbrev s_q6:Stmt:=top 47
theorem zb9:FnScope N_q6 ["found"] (xb0 s_q6):=⟨rfl,rfl,rfl,by decide +kernel,rfl,by decide +kernel,by decide +kernel⟩
theorem wc9 {k:Nat} {f:Addr} {cdv:Value} {A:Around} {outer:List Env} {s:Shared} {H:Hp} {E:XK} (z_bool:mg "bool" = none) (z_int:mg "int" = none) (z_isinstance:mg "isinstance" = none) (hr:Room k (A.deeper (envOfC "_law_whole" (xb0 s_q6) s.heap.objs.size f cdv))) :
    RSs (cxOf CX0 P w K mg base N_q6 "_law_whole" (xb0 s_q6) f cdv A outer s H E).nox (xd0 s_q6) (t_q6) :=
 (wb0 (zd0 (xe3 (xf0 ye4 z_isinstance zm0 (xa0 (ya0 0) (xa0 (xd4 z_int wt4) zb0))) (zd3 (yx7 (xf0 ye4 z_isinstance zm0 (xa0 (ya0 0) (xa0 (xd4 z_bool wa7) zb0))))))))
noncomputable abbrev s_q0:Stmt:=top 48
theorem sc_q0:FnScope N_q0 ["state", "deep"] (xb0 s_q0):=⟨rfl,rfl,rfl,by decide +kernel,rfl,by decide +kernel,by decide +kernel⟩
theorem ye9 {k:Nat} {f:Addr} {cdv:Value} {A:Around} {outer:List Env} {s:Shared} {H:Hp} {E:XK} {sp_q1:Sp3} {k_q1:Nat} (c_q1:Cal P w K mg base k_q1 "_law_deeds" ["state", "deep", "many"] sp_q1) (l_q1:k_q1<=k) {sp_q5:Sp3} {k_q5:Nat} (c_q5:Cal P w K mg base k_q5 "_law_take" ["state", "many"] sp_q5) (l_q5:k_q5<=k) (z_int:mg "int" = none) (hr:Room k (A.deeper (envOfC "_law_deed" (xb0 s_q0) s.heap.objs.size f cdv))) :
    RSs (cxOf CX0 P w K mg base N_q0 "_law_deed" (xb0 s_q0) f cdv A outer s H E).nox (xd0 s_q0) (t_q0 sp_q1 sp_q5) :=
 (yb0 (xe0 (i:=2) sc_q0.nd (yc0 (c_q5.mono l_q5) hr (xa0 (ya0 0) (xa0 (we0 xn0 za0 (wk2 zi9 z_int wt4 (xa0 (xm1 q_gt (ya0 1) za0) zb0))) zb0)))) (yb0 (xi0 (yf0 (q_eq (hu64 hr)) (ya0 2) za0) (wb0 (zd0 (wg0 (xa0 zq0 (xa0 (we0 xa1 (yc0 (c_q5.mono l_q5) hr (xa0 (ya0 0) (xa0 za0 zb0))) za0) zb0))))) ye0) (yb0 (xi0 (yf0 (q_eq (hu64 hr)) (ya0 2) za0) (wb0 (zd0 (wg0 (xa0 zq0 (xa0 (we0 xa1 (yc0 (c_q5.mono l_q5) hr (xa0 (ya0 0) (xa0 za0 zb0))) za0) zb0))))) ye0) (yb0 (xi0 (yf0 q_lt (ya0 2) za0) (wb0 (zd0 (wg0 (xa0 zq0 (xa0 (yc0 (c_q5.mono l_q5) hr (xa0 (ya0 0) (xa0 za0 zb0))) zb0))))) ye0) (wb0 (zd0 (wg0 (xa0 zq0 (xa0 (yc0 (c_q5.mono l_q5) hr (xa0 (ya0 0) (xa0 za0 zb0))) (xa0 (yc0 (c_q1.mono l_q1) hr (xa0 (ya0 0) (xa0 (we0 xa1 (ya0 1) za0) (xa0 (yc0 (c_q5.mono l_q5) hr (xa0 (ya0 0) (xa0 za0 zb0))) zb0)))) zb0))))))))))
noncomputable abbrev s_q1:Stmt:=top 49
theorem wb9:FnScope N_q1 ["state", "deep", "many"] (xb0 s_q1):=⟨rfl,rfl,rfl,by decide +kernel,rfl,by decide +kernel,by decide +kernel⟩
theorem xe9 {k:Nat} {f:Addr} {cdv:Value} {A:Around} {outer:List Env} {s:Shared} {H:Hp} {E:XK} {sp_q0:Sp3} {k_q0:Nat} (c_q0:Cal P w K mg base k_q0 "_law_deed" ["state", "deep"] sp_q0) (l_q0:k_q0<=k) (z_range:mg "range" = none) (z_tuple:mg "tuple" = none) (hr:Room k (A.deeper (envOfC "_law_deeds" (xb0 s_q1) s.heap.objs.size f cdv))) :
    RSs (cxOf CX0 P w K mg base N_q1 "_law_deeds" (xb0 s_q1) f cdv A outer s H E).nox (xd0 s_q1) (t_q1 sp_q0) :=
 (wb0 (zd0 (wk2 wl6 z_tuple wf2 (xa0 (yb2 (NN:=["k", "state", "deep"]) (js:=[none,some 0,some 1]) rfl zw2 (zd1 z_range (ya0 2)) (λ _ _ _ _ _=>(wi0 (i:=0) (show List.Nodup (["k", "state", "deep"]:List Str) by decide +kernel))) (λ _ _ _ _ _=>xb2) (λ _ _ _ _ _=>(yc0 (c_q0.mono l_q0) hr (xa0 (ya0 1) (xa0 (ya0 2) zb0)))) (by intro _; rfl)) zb0))))
noncomputable abbrev s_q2:Stmt:=top 50
theorem sc_q2:FnScope N_q2 ["deeds"] (xb0 s_q2):=⟨rfl,rfl,rfl,by decide +kernel,rfl,by decide +kernel,by decide +kernel⟩
theorem wd9 {k:Nat} {f:Addr} {cdv:Value} {A:Around} {outer:List Env} {s:Shared} {H:Hp} {E:XK} {sp_q2:Sp3} {k_q2:Nat} (c_q2:Cal P w K mg base k_q2 "_law_rolled_out" ["deeds"] sp_q2) (l_q2:k_q2<=k) (z_range:mg "range" = none) (hr:Room k (A.deeper (envOfC "_law_rolled_out" (xb0 s_q2) s.heap.objs.size f cdv))) :
    RSs (cxOf CX0 P w K mg base N_q2 "_law_rolled_out" (xb0 s_q2) f cdv A outer s H E).nox (xd0 s_q2) (t_q2 sp_q2) :=
 (yb0 (xe0 (i:=1) sc_q2.nd (zh1 zb0)) (yb0 (yu0 PassesOwn.never rfl (yw0 (ya0 0)) (wi0 (i:=2) sc_q2.nd) (wb0 (xi0 (yf0 (q_eq (hu64 hr)) (wc0 q_ix (ya0 2) za0) zq0) (wb0 (yu0 PassesOwn.never rfl (zd1 z_range (wc0 q_ix (ya0 2) za0)) (wi0 (i:=3) sc_q2.nd) (wb0 (ws0 (zd4 (ya0 1) (xa0 (yc0 (c_q2.mono l_q2) hr (xa0 (wc0 q_ix (ya0 2) za0) zb0)) zb0)))))) (wb0 (ws0 (xl2 (ya0 1) (xa0 (ya0 2) zb0))))))) (wb0 (zd0 (ya0 1)))))
noncomputable abbrev s_q3:Stmt:=top 51
theorem sc_q3:FnScope N_q3 ["deeds", "pen"] (xb0 s_q3):=⟨rfl,rfl,rfl,by decide +kernel,rfl,by decide +kernel,by decide +kernel⟩
theorem zd9 {k:Nat} {f:Addr} {cdv:Value} {A:Around} {outer:List Env} {s:Shared} {H:Hp} {E:XK} {sp_q2:Sp3} {k_q2:Nat} (c_q2:Cal P w K mg base k_q2 "_law_rolled_out" ["deeds"] sp_q2) (l_q2:k_q2<=k) (z_min:mg "min" = none) (z_range:mg "range" = none) (hr:Room k (A.deeper (envOfC "_law_run" (xb0 s_q3) s.heap.objs.size f cdv))) :
    RSs (cxOf CX0 P w K mg base N_q3 "_law_run" (xb0 s_q3) f cdv A outer s H E).nox (xd0 s_q3) (t_q3 sp_q2) :=
 (yb0 (wc3 (ya0 1) (wt5 rfl (wd1 (wi0 (i:=2) sc_q3.nd) (wd1 (wi0 (i:=3) sc_q3.nd) (wd1 (wi0 (i:=4) sc_q3.nd) xc4))))) (yb0 (xe0 (i:=5) sc_q3.nd (zh1 zb0)) (yb0 (yu0 PassesOwn.never rfl (yw0 (yc0 (c_q2.mono l_q2) hr (xa0 (ya0 0) zb0))) (wt5 rfl (wd1 (wi0 (i:=6) sc_q3.nd) (wd1 (wi0 (i:=7) sc_q3.nd) xc4))) (yb0 (xe0 (i:=8) sc_q3.nd (wc0 q_ix (zh1 (xa0 (wg0 (xa0 za0 (xa0 za0 zb0))) (xa0 (wg0 (xa0 za0 (xa0 za0 zb0))) (xa0 (wg0 (xa0 (zk2 yl2 za0) (xa0 za0 zb0))) (xa0 (wg0 (xa0 za0 (xa0 (zk2 yl2 za0) zb0))) zb0))))) (ya0 4))) (wb0 (xi0 (yf0 (q_eq (hu64 hr)) (ya0 6) zq0) (wb0 (xe0 (i:=4) sc_q3.nd (we0 ym1 (we0 xn0 (ya0 4) (ya0 7)) za0))) (wb0 (xi0 (yf0 (q_eq (hu64 hr)) (ya0 6) zq0) (yb0 (xe0 (i:=2) sc_q3.nd (we0 xn0 (ya0 2) (we0 wv0 (ya0 7) (wc0 q_ix (ya0 8) za0)))) (wb0 (xe0 (i:=3) sc_q3.nd (we0 xn0 (ya0 3) (we0 wv0 (ya0 7) (wc0 q_ix (ya0 8) za0)))))) (wb0 (yu0 PassesOwn.never rfl (zd1 z_range (ya0 7)) (wi0 (i:=9) sc_q3.nd) (yb0 (ws0 (xl2 (ya0 5) (xa0 (wg0 (xa0 (we0 xn0 (ya0 2) (xf0 (zu0 rfl) z_min yv0 (xa0 za0 (xa0 (wc0 q_ix (ya0 8) za0) zb0)))) (xa0 (we0 xn0 (ya0 3) (xf0 (zu0 rfl) z_min yv0 (xa0 za0 (xa0 (wc0 q_ix (ya0 8) za0) zb0)))) (xa0 (we0 ym1 (ya0 4) za0) zb0)))) zb0))) (yb0 (xe0 (i:=2) sc_q3.nd (we0 xn0 (ya0 2) (wc0 q_ix (ya0 8) za0))) (wb0 (xe0 (i:=3) sc_q3.nd (we0 xn0 (ya0 3) (wc0 q_ix (ya0 8) za0)))))))))))))) (wb0 (zd0 (wg0 (xa0 (ya0 5) (xa0 (wg0 (xa0 (ya0 2) (xa0 (ya0 3) (xa0 (ya0 4) zb0)))) zb0))))))))
noncomputable abbrev ys1:Stmt:=top 52
theorem sc_q22:FnScope xe7 ["script"] (xb0 ys1):=⟨rfl,rfl,rfl,by decide +kernel,rfl,by decide +kernel,by decide +kernel⟩
theorem wt7 {k:Nat} {f:Addr} {cdv:Value} {A:Around} {outer:List Env} {s:Shared} {H:Hp} {E:XK} {sp_q1:Sp3} {k_q1:Nat} (c_q1:Cal P w K mg base k_q1 "_law_deeds" ["state", "deep", "many"] sp_q1) (l_q1:k_q1<=k) {sp_q3:Sp3} {k_q3:Nat} (c_q3:Cal P w K mg base k_q3 "_law_run" ["deeds", "pen"] sp_q3) (l_q3:k_q3<=k) {sp_q4:Sp3} {k_q4:Nat} (c_q4:Cal P w K mg base k_q4 "_law_state" ["script", "k"] sp_q4) (l_q4:k_q4<=k) {sp_q5:Sp3} {k_q5:Nat} (c_q5:Cal P w K mg base k_q5 "_law_take" ["state", "many"] sp_q5) (l_q5:k_q5<=k) {sp_q6:Sp3} {k_q6:Nat} (c_q6:Cal P w K mg base k_q6 "_law_whole" ["found"] sp_q6) (l_q6:k_q6<=k) {sp_q20:Sp3} {k_q20:Nat} (c_q20:Cal P w K mg base k_q20 "drawn_often" ["word", "stroke"] sp_q20) (l_q20:k_q20<=k) {sp_q32:Sp3} {k_q32:Nat} (c_q32:Cal P w K mg base k_q32 "strokes_drawn" ["word"] sp_q32) (l_q32:k_q32<=k) (z_len:mg "len" = none) (z_set:mg "set" = none) (z_sorted:mg "sorted" = none) (z_sum:mg "sum" = none) (hr:Room k (A.deeper (envOfC "law" (xb0 ys1) s.heap.objs.size f cdv))) :
    RSs (cxOf CX0 P w K mg base xe7 "law" (xb0 ys1) f cdv A outer s H E).nox (xd0 ys1) (yi7 sp_q1 sp_q3 sp_q4 sp_q5 sp_q6 sp_q20 sp_q32) :=
 (yb0 (xe0 (i:=1) sc_q22.nd (yc0 (c_q4.mono l_q4) hr (xa0 (ya0 0) (xa0 za0 zb0)))) (yb0 (xe0 (i:=2) sc_q22.nd (yc0 (c_q1.mono l_q1) hr (xa0 (ya0 1) (xa0 za0 (xa0 (yc0 (c_q5.mono l_q5) hr (xa0 (ya0 1) (xa0 za0 zb0))) zb0))))) (yb0 (xe0 (i:=3) sc_q22.nd (wc0 q_ix (yc0 (c_q3.mono l_q3) hr (xa0 (ya0 2) (xa0 (wg0 (xa0 za0 (xa0 za0 (xa0 za0 zb0)))) zb0))) za0)) (yb0 (xe0 (i:=4) sc_q22.nd (wg0 (xa0 (we0 xa1 (yc0 (c_q5.mono l_q5) hr (xa0 (ya0 1) (xa0 za0 zb0))) za0) (xa0 (we0 xa1 (yc0 (c_q5.mono l_q5) hr (xa0 (ya0 1) (xa0 za0 zb0))) za0) (xa0 (yc0 (c_q5.mono l_q5) hr (xa0 (ya0 1) (xa0 za0 zb0))) zb0))))) (yb0 (xi0 (xk2 (yv1 (yf0 (q_ne (hu64 hr)) (ya0 3) (zh1 zb0)) (wf1 (yf0 q_gt (yc0 (c_q5.mono l_q5) hr (xa0 (ya0 1) (xa0 za0 zb0))) za0)))) (yb0 (xe0 (i:=5) sc_q22.nd (wc0 q_ix (ya0 3) (yc0 (c_q5.mono l_q5) hr (xa0 (ya0 1) (xa0 (xf0 xe4 z_len xy1 (xa0 (ya0 3) zb0)) zb0))))) (wb0 (xe0 (i:=4) sc_q22.nd (wg0 (xa0 (we0 xn0 (wc0 q_ix (ya0 5) za0) (we0 zm1 (yc0 (c_q5.mono l_q5) hr (xa0 (ya0 1) (xa0 za0 zb0))) za0)) (xa0 (wc0 q_ix (ya0 5) za0) (xa0 (wc0 q_ix (zh1 (xa0 (wc0 q_ix (ya0 5) za0) (xa0 (we0 xa1 za0 (wc0 q_ix (ya0 5) za0)) zb0))) (we0 zm1 (yc0 (c_q5.mono l_q5) hr (xa0 (ya0 1) (xa0 za0 zb0))) za0)) zb0))))))) ye0) (yb0 (xe0 (i:=6) sc_q22.nd (yc0 (c_q20.mono l_q20) hr (xa0 (ya0 2) (xa0 (ya0 4) zb0)))) (yb0 (xi0 (xk2 (yq7 (yc3 (zv1 (yc0 (c_q6.mono l_q6) hr (xa0 (ya0 6) zb0)))) (zt5 (yf0 (q_ne (hu64 hr)) (ya0 6) (wd3 (hu65 hr) (ya0 3) (xa0 (ya0 4) zb0)))))) (wb0 (zd0 xl6)) ye0) (yb0 (xe0 (i:=7) sc_q22.nd (wd5 q_sl (zj6 (yb4 (ya0 3) z_set (hu64 hr)) z_sorted) yj6 (xj6 za0))) (yb0 (xc5 (i:=8) sc_q22.nd (NN:=["seen", "deeds"]) (js:=[none,some 2]) rfl zw2 (yw0 (ya0 7)) (λ _ _ _ _ _=>(wi0 (i:=0) (show List.Nodup (["seen", "deeds"]:List Str) by decide +kernel))) (λ _ _ _ _ _=>xb2) (λ _ _ _ _ _=>(yc0 (c_q20.mono l_q20) hr (xa0 (ya0 1) (xa0 (ya0 0) zb0)))) (by intro _; rfl)) (yb0 (xi0 (yf0 (q_ne (hu64 hr)) (ya0 8) (yb2 (NN:=["seen", "drawn"]) (js:=[none,some 3]) rfl zw2 (yw0 (ya0 7)) (λ _ _ _ _ _=>(wi0 (i:=0) (show List.Nodup (["seen", "drawn"]:List Str) by decide +kernel))) (λ _ _ _ _ _=>xb2) (λ _ _ _ _ _=>(wd3 (hu65 hr) (ya0 1) (xa0 (ya0 0) zb0))) (by intro _; rfl))) (wb0 (zd0 xl6)) ye0) (wb0 (zd0 (we9 (xm1 q_gt (yk6 (yb4 (ya0 3) z_set (hu64 hr)) z_len) za0) (zd3 (xm1 (q_eq (hu64 hr)) (xf0 wd8 z_sum wy5 (xa0 (ya0 8) zb0)) (yc0 (c_q32.mono l_q32) hr (xa0 (ya0 2) zb0)))))))))))))))))
noncomputable abbrev zg0:Stmt:=mth 37 0
theorem sc_Look___init__:FnScope wm0 ["self", "stroke"] (xb0 zg0):=⟨rfl,rfl,rfl,by decide +kernel,rfl,by decide +kernel,by decide +kernel⟩
theorem wh1 {k:Nat} {f:Addr} {cdv:Value} {A:Around} {outer:List Env} {s:Shared} {H:Hp} {E:XK} {sp_q21:Sp3} {k_q21:Nat} (c_q21:Cal P w K mg base k_q21 "ends_of" ["stroke"] sp_q21) (l_q21:k_q21<=k) {C_Look:Addr} (oc_Look:ObjC K "Look" C_Look) (na_Look_greatest:NoAttr K C_Look "greatest") (na_Look_least:NoAttr K C_Look "least") (na_Look_left:NoAttr K C_Look "left") (g_MOST_LOOKED_AT:Gd K mg "MOST_LOOKED_AT" zk0) (hr:Room k (A.deeper (envOfC "Look.__init__" (xb0 zg0) s.heap.objs.size f cdv))) :
    RSs (cxOf CX0 P w K mg base wm0 "Look.__init__" (xb0 zg0) f cdv A outer s H E).nox (xd0 zg0) (yq0 sp_q21) :=
 (yb0 (xe0 (i:=2) sc_Look___init__.nd (yc0 (c_q21.mono l_q21) hr (xa0 (ya0 1) zb0))) (yb0 (zc3 (ya0 0) (wc0 q_ix (ya0 2) za0) oc_Look na_Look_least) (yb0 (zc3 (ya0 0) (wc0 q_ix (ya0 2) za0) oc_Look na_Look_greatest) (wb0 (zc3 (ya0 0) (re_g g_MOST_LOOKED_AT) oc_Look na_Look_left)))))
noncomputable abbrev wf0:Stmt:=mth 37 1
theorem sc_Look_is_within:FnScope wk0 ["self", "box"] (xb0 wf0):=⟨rfl,rfl,rfl,by decide +kernel,rfl,by decide +kernel,by decide +kernel⟩
theorem xg1 {k:Nat} {f:Addr} {cdv:Value} {A:Around} {outer:List Env} {s:Shared} {H:Hp} {E:XK} {C_Look:Addr} (oc_Look:ObjC K "Look" C_Look) (na_Look_greatest:NoAttr K C_Look "greatest") (na_Look_least:NoAttr K C_Look "least") (hr:Room k (A.deeper (envOfC "Look.is_within" (xb0 wf0) s.heap.objs.size f cdv))) :
    RSs (cxOf CX0 P w K mg base wk0 "Look.is_within" (xb0 wf0) f cdv A outer s H E).nox (xd0 wf0) (wo0) :=
 (yb0 (xi0 (yf0 ze4 (ya0 1) zw0) (wb0 (zd0 xl6)) ye0) (yb0 (xe0 (i:=2) sc_Look_is_within.nd (xe3 (xm1 q_le (wc0 q_ix (ya0 1) za0) (wc0 q_ix (ww0 (ya0 0) oc_Look na_Look_least) za0)) (zd3 (xm1 q_le (wc0 q_ix (ya0 1) za0) (wc0 q_ix (ww0 (ya0 0) oc_Look na_Look_least) za0))))) (wb0 (zd0 (xe3 (ya0 2) (xe3 (xm1 q_le (wc0 q_ix (ww0 (ya0 0) oc_Look na_Look_greatest) za0) (wc0 q_ix (ya0 1) za0)) (zd3 (xm1 q_le (wc0 q_ix (ww0 (ya0 0) oc_Look na_Look_greatest) za0) (wc0 q_ix (ya0 1) za0)))))))))
noncomputable abbrev zf0:Stmt:=mth 37 2
theorem xz0:FnScope zj0 ["self"] (xb0 zf0):=⟨rfl,rfl,rfl,by decide +kernel,rfl,by decide +kernel,by decide +kernel⟩
theorem yz0 {k:Nat} {f:Addr} {cdv:Value} {A:Around} {outer:List Env} {s:Shared} {H:Hp} {E:XK} {C_Look:Addr} (oc_Look:ObjC K "Look" C_Look) (na_Look_left:NoAttr K C_Look "left") (hr:Room k (A.deeper (envOfC "Look.count_doing" (xb0 zf0) s.heap.objs.size f cdv))) :
    RSs (cxOf CX0 P w K mg base zj0 "Look.count_doing" (xb0 zf0) f cdv A outer s H E).nox (xd0 zf0) (xm0) :=
 (yb0 (xi0 (yf0 (q_eq (hu64 hr)) (ww0 (ya0 0) oc_Look na_Look_left) za0) (wb0 wn0) ye0) (wb0 (zc3 (ya0 0) (we0 xa1 (ww0 (ya0 0) oc_Look na_Look_left) za0) oc_Look na_Look_left)))
end
end Pv
namespace Pv
open PySem PySem.Spec PyProof.Rows L2
theorem bn1 {P:List Value->Prop} (h:∀ a,P [a]) (us:List Value) (e:us.length=1):P us:=by
 match us,e with
 | [a],_=>exact h a
theorem bn2 {P:List Value->Prop} (h:∀ a b,P [a,b]) (us:List Value) (e:us.length=2):P us:=by
 match us,e with
 | [a,b],_=>exact h a b
theorem bn3 {P:List Value->Prop} (h:∀ a b c,P [a,b,c]) (us:List Value) (e:us.length=3):P us:=by
 match us,e with
 | [a,b,c],_=>exact h a b c
theorem bn4 {P:List Value->Prop} (h:∀ a b c d,P [a,b,c,d]) (us:List Value) (e:us.length=4):P us:=by
 match us,e with
 | [a,b,c,d],_=>exact h a b c d
theorem bn5 {P:List Value->Prop} (h:∀ a b c d e,P [a,b,c,d,e]) (us:List Value) (e:us.length=5):P us:=by
 match us,e with
 | [a,b,c,d,e],_=>exact h a b c d e
theorem bn6 {P:List Value->Prop} (h:∀ a b c d e f,P [a,b,c,d,e,f]) (us:List Value) (e:us.length=6):P us:=by
 match us,e with
 | [a,b,c,d,e,f],_=>exact h a b c d e f
noncomputable abbrev NsR (K:Fg) (x:Str) (p:Addr):Prop:=PySem.W.nsIn K mainGlobals x=some (some (.ref p))
noncomputable def FnA (K:Fg) (x:Str) (st:Stmt) (p:Addr):Prop:=∃ oc od sl kV dc pm an cd ct,K.lookup p=some ⟨oc,od,.func (PySem.W.fnOf x x (zr0 st) (xd0 st) (xb0 st) .none kV dc pm an cd ct),sl⟩ /\ PySem.W.codeIn K cd x=true /\ PySem.W.keepIn K (.ref p)=true
theorem fnA_mk {K:Fg} {x:Str} {st:Stmt} {p:Addr} {oc kV dc pm cd ct:Value} {od an:Option Addr} {sl:Array (Option Value)} (l:K.lookup p=some ⟨oc,od,.func (PySem.W.fnOf x x (zr0 st) (xd0 st) (xb0 st) .none kV dc pm an cd ct),sl⟩) (c:PySem.W.codeIn K cd x=true) (k:PySem.W.keepIn K (.ref p)=true):FnA K x st p:=⟨_,_,_,_,_,_,_,_,_,l,c,k⟩
theorem FnA.fn {K:Fg} {x:Str} {st:Stmt} {p:Addr} (h:FnA K x st p):∃ fd,Fun K x x st p fd:=by
 obtain ⟨_,_,_,_,_,_,_,_,_,l,c,k⟩:=h
 exact ⟨_,zn2 (st:=st) l c k⟩
theorem all_mk {l:PySem.W.OpenLaw} {w:World} {K:Fg} {h:Heap} {mg:Str->Option Value} {fa:Addr} (X:K.In h) (G:h.Ns mainGlobals mg) (hfa:mg "law" = some (.ref fa))
    {p_q12:Addr}
    {p_q13:Addr}
    {p_q14:Addr}
    {p_q10:Addr}
    {p_q23:Addr}
    {p_q28:Addr}
    {p_q29:Addr}
    {p_q30:Addr}
    {p_q32:Addr}
    {p_q15:Addr}
    {p_q16:Addr}
    {p_q11:Addr}
    {p_q21:Addr}
    {p_q33:Addr}
    {p_q17:Addr}
    {p_q8:Addr}
    {p_q27:Addr}
    {p_q9:Addr}
    {p_q7:Addr}
    {p_q20:Addr}
    {p_q26:Addr}
    {p_q24:Addr}
    {p_q25:Addr}
    {p_q19:Addr}
    {p_q31:Addr}
    {p_q18:Addr}
    {p_q4:Addr}
    {p_q5:Addr}
    {p_q6:Addr}
    {p_q0:Addr}
    {p_q1:Addr}
    {p_q2:Addr}
    {p_q3:Addr}
    {p_q22:Addr}
    {C_Look:Addr}
    {p_Look___init__:Addr} {od_Look___init__ an_Look___init__:Option Addr} {sl_Look___init__:Array (Option Value)} {oc_Look___init__ kV_Look___init__ dc_Look___init__ pm_Look___init__ cd_Look___init__ ct_Look___init__:Value}
    {p_Look_is_within:Addr} {od_Look_is_within an_Look_is_within:Option Addr} {sl_Look_is_within:Array (Option Value)} {oc_Look_is_within kV_Look_is_within dc_Look_is_within pm_Look_is_within cd_Look_is_within ct_Look_is_within:Value}
    {p_Look_count_doing:Addr} {od_Look_count_doing an_Look_count_doing:Option Addr} {sl_Look_count_doing:Array (Option Value)} {oc_Look_count_doing kV_Look_count_doing dc_Look_count_doing pm_Look_count_doing cd_Look_count_doing ct_Look_count_doing:Value}
    {t_1:Tok}
    {t_2:Tok}
    {t_3:Tok}
    {t_5:Tok}
    {t_6:Tok}
    {t_7:Tok}
    {q_4:Addr} {qo_4:Option Addr} {qn_4:Nat} {qs_4:Array (Option Value)}
    {t_9:Tok}
    {t_10:Tok}
    {q_8:Addr} {qo_8:Option Addr} {qn_8:Nat} {qs_8:Array (Option Value)}
    {t_12:Tok}
    {t_13:Tok}
    {t_14:Tok}
    {q_11:Addr} {qo_11:Option Addr} {qn_11:Nat} {qs_11:Array (Option Value)}
    {t_17:Tok}
    {t_18:Tok}
    {q_16:Addr} {qo_16:Option Addr} {qn_16:Nat} {qs_16:Array (Option Value)}
    {t_20:Tok}
    {t_21:Tok}
    {q_19:Addr} {qo_19:Option Addr} {qn_19:Nat} {qs_19:Array (Option Value)}
    {t_23:Tok}
    {t_24:Tok}
    {q_22:Addr} {qo_22:Option Addr} {qn_22:Nat} {qs_22:Array (Option Value)}
    {t_26:Tok}
    {t_27:Tok}
    {q_25:Addr} {qo_25:Option Addr} {qn_25:Nat} {qs_25:Array (Option Value)}
    {q_15:Addr} {qo_15:Option Addr} {qn_15:Nat} {qs_15:Array (Option Value)}
    {t_29:Tok}
    {t_30:Tok}
    {q_28:Addr} {qo_28:Option Addr} {qn_28:Nat} {qs_28:Array (Option Value)}
    {t_31:Tok}
    (a_q12:NsR K "check_word" p_q12) (A_q12:FnA K "check_word" wp3 p_q12)
    (a_q13:NsR K "checked_count" p_q13) (A_q13:FnA K "checked_count" zp3 p_q13)
    (a_q14:NsR K "checked_deed_count" p_q14) (A_q14:FnA K "checked_deed_count" yp3 p_q14)
    (a_q10:NsR K "check_number" p_q10) (A_q10:FnA K "check_number" yq3 p_q10)
    (a_q23:NsR K "led" p_q23) (A_q23:FnA K "led" yn3 p_q23)
    (a_q28:NsR K "pen_behind" p_q28) (A_q28:FnA K "pen_behind" xm3 p_q28)
    (a_q29:NsR K "pen_behind_deed" p_q29) (A_q29:FnA K "pen_behind_deed" wl3 p_q29)
    (a_q30:NsR K "pen_repeated" p_q30) (A_q30:FnA K "pen_repeated" zl3 p_q30)
    (a_q32:NsR K "strokes_drawn" p_q32) (A_q32:FnA K "strokes_drawn" xl3 p_q32)
    (a_q15:NsR K "count_strokes" p_q15) (A_q15:FnA K "count_strokes" xp3 p_q15)
    (a_q16:NsR K "count_strokes_of_deed" p_q16) (A_q16:FnA K "count_strokes_of_deed" wo3 p_q16)
    (a_q11:NsR K "check_stroke" p_q11) (A_q11:FnA K "check_stroke" xq3 p_q11)
    (a_q21:NsR K "ends_of" p_q21) (A_q21:FnA K "ends_of" zn3 p_q21)
    (a_q33:NsR K "word_box" p_q33) (A_q33:FnA K "word_box" wk3 p_q33)
    (a_q17:NsR K "deed_box" p_q17) (A_q17:FnA K "deed_box" zo3 p_q17)
    (a_q8:NsR K "box_repeated" p_q8) (A_q8:FnA K "box_repeated" s_q8 p_q8)
    (a_q27:NsR K "outermost_doings" p_q27) (A_q27:FnA K "outermost_doings" ym3 p_q27)
    (a_q9:NsR K "box_round" p_q9) (A_q9:FnA K "box_round" s_q9 p_q9)
    (a_q7:NsR K "box_from" p_q7) (A_q7:FnA K "box_from" s_q7 p_q7)
    (a_q20:NsR K "drawn_often" p_q20) (A_q20:FnA K "drawn_often" wn3 p_q20)
    (a_q26:NsR K "often_in_word" p_q26) (A_q26:FnA K "often_in_word" zm3 p_q26)
    (a_q24:NsR K "often_in_deed" p_q24) (A_q24:FnA K "often_in_deed" xn3 p_q24)
    (a_q25:NsR K "often_in_times" p_q25) (A_q25:FnA K "often_in_times" wm3 p_q25)
    (a_q19:NsR K "doings_to_ask" p_q19) (A_q19:FnA K "doings_to_ask" xo3 p_q19)
    (a_q31:NsR K "span_of_doings" p_q31) (A_q31:FnA K "span_of_doings" yl3 p_q31)
    (a_q18:NsR K "doings_like" p_q18) (A_q18:FnA K "doings_like" yo3 p_q18)
    (a_q4:NsR K "_law_state" p_q4) (A_q4:FnA K "_law_state" s_q4 p_q4)
    (a_q5:NsR K "_law_take" p_q5) (A_q5:FnA K "_law_take" s_q5 p_q5)
    (a_q6:NsR K "_law_whole" p_q6) (A_q6:FnA K "_law_whole" s_q6 p_q6)
    (a_q0:NsR K "_law_deed" p_q0) (A_q0:FnA K "_law_deed" s_q0 p_q0)
    (a_q1:NsR K "_law_deeds" p_q1) (A_q1:FnA K "_law_deeds" s_q1 p_q1)
    (a_q2:NsR K "_law_rolled_out" p_q2) (A_q2:FnA K "_law_rolled_out" s_q2 p_q2)
    (a_q3:NsR K "_law_run" p_q3) (A_q3:FnA K "_law_run" s_q3 p_q3)
    (a_q22:NsR K "law" p_q22) (A_q22:FnA K "law" ys1 p_q22)
    (ac_Look:PySem.W.nsIn K mainGlobals "Look" = some (some (.ref C_Look)))
    (pg_Look:PySem.W.plainGet K C_Look Str.empty=true)
    (hd_Look:PySem.W.hasDictIn K C_Look=true)
    (po_Look:PySem.W.plainOver K C_Look=true)
    (sa_Look:PySem.W.findIn K (.ref C_Look) "__setattr__" = some (some (.builtin "object.__setattr__")))
    (mk_Look:PySem.W.makesIn K C_Look=true)
    (kp_Look:PySem.W.keepIn K (.ref C_Look)=true)
    (na_Look_greatest:PySem.W.findIn K (.ref C_Look) "greatest" = some none)
    (na_Look_least:PySem.W.findIn K (.ref C_Look) "least" = some none)
    (na_Look_left:PySem.W.findIn K (.ref C_Look) "left" = some none)
    (a_Look___init__:PySem.W.findIn K (.ref C_Look) "__init__" = some (some (.ref p_Look___init__)))
    (i_Look___init__:PySem.W.isFn K (.ref p_Look___init__)=true)
    (l_Look___init__:K.lookup p_Look___init__=some ⟨oc_Look___init__,od_Look___init__,.func (PySem.W.fnOf "__init__" "Look.__init__" (zr0 zg0) (xd0 zg0) (xb0 zg0) .none kV_Look___init__ dc_Look___init__ pm_Look___init__ an_Look___init__ cd_Look___init__ ct_Look___init__),sl_Look___init__⟩)
    (c_Look___init__:PySem.W.codeIn K cd_Look___init__ "Look.__init__" = true)
    (k_Look___init__:PySem.W.keepIn K (.ref p_Look___init__)=true)
    (a_Look_is_within:PySem.W.findIn K (.ref C_Look) "is_within" = some (some (.ref p_Look_is_within)))
    (i_Look_is_within:PySem.W.isFn K (.ref p_Look_is_within)=true)
    (l_Look_is_within:K.lookup p_Look_is_within=some ⟨oc_Look_is_within,od_Look_is_within,.func (PySem.W.fnOf "is_within" "Look.is_within" (zr0 wf0) (xd0 wf0) (xb0 wf0) .none kV_Look_is_within dc_Look_is_within pm_Look_is_within an_Look_is_within cd_Look_is_within ct_Look_is_within),sl_Look_is_within⟩)
    (c_Look_is_within:PySem.W.codeIn K cd_Look_is_within "Look.is_within" = true)
    (k_Look_is_within:PySem.W.keepIn K (.ref p_Look_is_within)=true)
    (a_Look_count_doing:PySem.W.findIn K (.ref C_Look) "count_doing" = some (some (.ref p_Look_count_doing)))
    (i_Look_count_doing:PySem.W.isFn K (.ref p_Look_count_doing)=true)
    (l_Look_count_doing:K.lookup p_Look_count_doing=some ⟨oc_Look_count_doing,od_Look_count_doing,.func (PySem.W.fnOf "count_doing" "Look.count_doing" (zr0 zf0) (xd0 zf0) (xb0 zf0) .none kV_Look_count_doing dc_Look_count_doing pm_Look_count_doing an_Look_count_doing cd_Look_count_doing ct_Look_count_doing),sl_Look_count_doing⟩)
    (c_Look_count_doing:PySem.W.codeIn K cd_Look_count_doing "Look.count_doing" = true)
    (k_Look_count_doing:PySem.W.keepIn K (.ref p_Look_count_doing)=true)
    (e_MOST_DEEDS:PySem.W.nsIn K mainGlobals "MOST_DEEDS" = some (some (.int (30) t_1)))
    (e_MOST_DEEP:PySem.W.nsIn K mainGlobals "MOST_DEEP" = some (some (.int (4) t_2)))
    (e_GREATEST_NUMBER:PySem.W.nsIn K mainGlobals "GREATEST_NUMBER" = some (some (.int (99999999999999999999) t_3)))
    (e_PLAIN_KINDS:PySem.W.nsIn K mainGlobals "PLAIN_KINDS" = some (some (.ref q_4)))
    (ql_4:K.lookup q_4=some ⟨.type "tuple",qo_4,.seq #[.str "go" t_5,.str "jump" t_6,.str "turn" t_7] qn_4,qs_4⟩)
    (e_KINDS_FROM_NOUGHT:PySem.W.nsIn K mainGlobals "KINDS_FROM_NOUGHT" = some (some (.ref q_8)))
    (ql_8:K.lookup q_8=some ⟨.type "tuple",qo_8,.seq #[.str "go" t_9,.str "times" t_10] qn_8,qs_8⟩)
    (e_START:PySem.W.nsIn K mainGlobals "START" = some (some (.ref q_11)))
    (ql_11:K.lookup q_11=some ⟨.type "tuple",qo_11,.seq #[.int (0) t_12,.int (0) t_13,.int (0) t_14] qn_11,qs_11⟩)
    (e_AHEAD:PySem.W.nsIn K mainGlobals "AHEAD" = some (some (.ref q_15)))
    (ql_15:K.lookup q_15=some ⟨.type "tuple",qo_15,.seq #[.ref q_16,.ref q_19,.ref q_22,.ref q_25] qn_15,qs_15⟩)
    (ql_25:K.lookup q_25=some ⟨.type "tuple",qo_25,.seq #[.int (0) t_26,.int (-1) t_27] qn_25,qs_25⟩)
    (ql_22:K.lookup q_22=some ⟨.type "tuple",qo_22,.seq #[.int (-1) t_23,.int (0) t_24] qn_22,qs_22⟩)
    (ql_19:K.lookup q_19=some ⟨.type "tuple",qo_19,.seq #[.int (0) t_20,.int (1) t_21] qn_19,qs_19⟩)
    (ql_16:K.lookup q_16=some ⟨.type "tuple",qo_16,.seq #[.int (1) t_17,.int (0) t_18] qn_16,qs_16⟩)
    (e_WAYS:PySem.W.nsIn K mainGlobals "WAYS" = some (some (.ref q_28)))
    (ql_28:K.lookup q_28=some ⟨.type "tuple",qo_28,.seq #[.int (0) t_29,.int (1) t_30] qn_28,qs_28⟩)
    (e_MOST_LOOKED_AT:PySem.W.nsIn K mainGlobals "MOST_LOOKED_AT" = some (some (.int (1000) t_31)))
    (zz_abs:PySem.W.nsIn K mainGlobals "abs" = some none)
    (zz_bool:PySem.W.nsIn K mainGlobals "bool" = some none)
    (zz_int:PySem.W.nsIn K mainGlobals "int" = some none)
    (zz_isinstance:PySem.W.nsIn K mainGlobals "isinstance" = some none)
    (zz_len:PySem.W.nsIn K mainGlobals "len" = some none)
    (zz_list:PySem.W.nsIn K mainGlobals "list" = some none)
    (zz_max:PySem.W.nsIn K mainGlobals "max" = some none)
    (zz_min:PySem.W.nsIn K mainGlobals "min" = some none)
    (zz_range:PySem.W.nsIn K mainGlobals "range" = some none)
    (zz_set:PySem.W.nsIn K mainGlobals "set" = some none)
    (zz_sorted:PySem.W.nsIn K mainGlobals "sorted" = some none)
    (zz_sum:PySem.W.nsIn K mainGlobals "sum" = some none)
    (zz_tuple:PySem.W.nsIn K mainGlobals "tuple" = some none) :
    ∃ fd:FuncData,(∀ (s:Shared) (v:Value),BindsTo s fd ⟨[v],[]⟩ [("script",v)]) /\ ∀ base:Heap,K.In base->base.Ns mainGlobals mg->FnOk l.prog w K mg base CX0 43 fa fd ["script"] (lift K xa5):=by
 have e:=hfa.symm.trans (PySem.W.mg_of X G a_q22)
 cases e
 have m_Look:=PySem.W.mg_of X G ac_Look
 have oc_Look:ObjC K "Look" C_Look:=⟨ac_Look,⟨pg_Look,hd_Look,po_Look,sa_Look⟩⟩
 have g_MOST_DEEDS:Gd K mg "MOST_DEEDS" wu0:=zh3 X G e_MOST_DEEDS
 have g_MOST_DEEP:Gd K mg "MOST_DEEP" wa1:=zh3 X G e_MOST_DEEP
 have g_GREATEST_NUMBER:Gd K mg "GREATEST_NUMBER" zn0:=zh3 X G e_GREATEST_NUMBER
 have g_PLAIN_KINDS:Gd K mg "PLAIN_KINDS" zt0:=yn2 X G e_PLAIN_KINDS (TupK.mk ql_4 (show 3<=sizeLine by decide) (.str (.str (.str .nil))))
 have g_KINDS_FROM_NOUGHT:Gd K mg "KINDS_FROM_NOUGHT" xl0:=yn2 X G e_KINDS_FROM_NOUGHT (TupK.mk ql_8 (show 2<=sizeLine by decide) (.str (.str .nil)))
 have g_START:Gd K mg "START" ym0:=yn2 X G e_START (TupK.mk ql_11 (show 3<=sizeLine by decide) (.int (.int (.int .nil))))
 have g_AHEAD:Gd K mg "AHEAD" wc2:=yn2 X G e_AHEAD (TupK.mk ql_15 (show 4<=sizeLine by decide) (.tup (TupK.mk ql_16 (show 2<=sizeLine by decide) (.int (.int .nil))) (.tup (TupK.mk ql_19 (show 2<=sizeLine by decide) (.int (.int .nil))) (.tup (TupK.mk ql_22 (show 2<=sizeLine by decide) (.int (.int .nil))) (.tup (TupK.mk ql_25 (show 2<=sizeLine by decide) (.int (.int .nil))) .nil)))))
 have g_WAYS:Gd K mg "WAYS" zm2:=yn2 X G e_WAYS (TupK.mk ql_28 (show 2<=sizeLine by decide) (.int (.int .nil)))
 have g_MOST_LOOKED_AT:Gd K mg "MOST_LOOKED_AT" zk0:=zh3 X G e_MOST_LOOKED_AT
 have z_abs:=PySem.W.mg_none_of X G zz_abs
 have z_bool:=PySem.W.mg_none_of X G zz_bool
 have z_int:=PySem.W.mg_none_of X G zz_int
 have z_isinstance:=PySem.W.mg_none_of X G zz_isinstance
 have z_len:=PySem.W.mg_none_of X G zz_len
 have z_list:=PySem.W.mg_none_of X G zz_list
 have z_max:=PySem.W.mg_none_of X G zz_max
 have z_min:=PySem.W.mg_none_of X G zz_min
 have z_range:=PySem.W.mg_none_of X G zz_range
 have z_set:=PySem.W.mg_none_of X G zz_set
 have z_sorted:=PySem.W.mg_none_of X G zz_sorted
 have z_sum:=PySem.W.mg_none_of X G zz_sum
 have z_tuple:=PySem.W.mg_none_of X G zz_tuple
 obtain ⟨_,F_q12⟩:=A_q12.fn
 have b_q12:=F_q12.binds (ps:=["word"]) λ _ _ _ _ _ _=>bn1 λ _=>rfl
 have m_q12:=PySem.W.mg_of X G a_q12
 obtain ⟨_,F_q13⟩:=A_q13.fn
 have b_q13:=F_q13.binds (ps:=["word", "depth"]) λ _ _ _ _ _ _=>bn2 λ _ _=>rfl
 have m_q13:=PySem.W.mg_of X G a_q13
 obtain ⟨_,F_q14⟩:=A_q14.fn
 have b_q14:=F_q14.binds (ps:=["deed", "depth"]) λ _ _ _ _ _ _=>bn2 λ _ _=>rfl
 have m_q14:=PySem.W.mg_of X G a_q14
 obtain ⟨_,F_q10⟩:=A_q10.fn
 have b_q10:=F_q10.binds (ps:=["kind", "number"]) λ _ _ _ _ _ _=>bn2 λ _ _=>rfl
 have m_q10:=PySem.W.mg_of X G a_q10
 obtain ⟨_,F_q23⟩:=A_q23.fn
 have b_q23:=F_q23.binds (ps:=["pen", "part"]) λ _ _ _ _ _ _=>bn2 λ _ _=>rfl
 have m_q23:=PySem.W.mg_of X G a_q23
 obtain ⟨_,F_q28⟩:=A_q28.fn
 have b_q28:=F_q28.binds (ps:=["word"]) λ _ _ _ _ _ _=>bn1 λ _=>rfl
 have m_q28:=PySem.W.mg_of X G a_q28
 obtain ⟨_,F_q29⟩:=A_q29.fn
 have b_q29:=F_q29.binds (ps:=["deed"]) λ _ _ _ _ _ _=>bn1 λ _=>rfl
 have m_q29:=PySem.W.mg_of X G a_q29
 obtain ⟨_,F_q30⟩:=A_q30.fn
 have b_q30:=F_q30.binds (ps:=["part", "number"]) λ _ _ _ _ _ _=>bn2 λ _ _=>rfl
 have m_q30:=PySem.W.mg_of X G a_q30
 obtain ⟨_,F_q32⟩:=A_q32.fn
 have b_q32:=F_q32.binds (ps:=["word"]) λ _ _ _ _ _ _=>bn1 λ _=>rfl
 have m_q32:=PySem.W.mg_of X G a_q32
 obtain ⟨_,F_q15⟩:=A_q15.fn
 have b_q15:=F_q15.binds (ps:=["word"]) λ _ _ _ _ _ _=>bn1 λ _=>rfl
 have m_q15:=PySem.W.mg_of X G a_q15
 obtain ⟨_,F_q16⟩:=A_q16.fn
 have b_q16:=F_q16.binds (ps:=["deed"]) λ _ _ _ _ _ _=>bn1 λ _=>rfl
 have m_q16:=PySem.W.mg_of X G a_q16
 obtain ⟨_,F_q11⟩:=A_q11.fn
 have b_q11:=F_q11.binds (ps:=["stroke"]) λ _ _ _ _ _ _=>bn1 λ _=>rfl
 have m_q11:=PySem.W.mg_of X G a_q11
 obtain ⟨_,F_q21⟩:=A_q21.fn
 have b_q21:=F_q21.binds (ps:=["stroke"]) λ _ _ _ _ _ _=>bn1 λ _=>rfl
 have m_q21:=PySem.W.mg_of X G a_q21
 obtain ⟨_,F_q33⟩:=A_q33.fn
 have b_q33:=F_q33.binds (ps:=["word"]) λ _ _ _ _ _ _=>bn1 λ _=>rfl
 have m_q33:=PySem.W.mg_of X G a_q33
 obtain ⟨_,F_q17⟩:=A_q17.fn
 have b_q17:=F_q17.binds (ps:=["deed"]) λ _ _ _ _ _ _=>bn1 λ _=>rfl
 have m_q17:=PySem.W.mg_of X G a_q17
 obtain ⟨_,F_q8⟩:=A_q8.fn
 have b_q8:=F_q8.binds (ps:=["box", "part", "number"]) λ _ _ _ _ _ _=>bn3 λ _ _ _=>rfl
 have m_q8:=PySem.W.mg_of X G a_q8
 obtain ⟨_,F_q27⟩:=A_q27.fn
 have b_q27:=F_q27.binds (ps:=["part", "number"]) λ _ _ _ _ _ _=>bn2 λ _ _=>rfl
 have m_q27:=PySem.W.mg_of X G a_q27
 obtain ⟨_,F_q9⟩:=A_q9.fn
 have b_q9:=F_q9.binds (ps:=["one", "other"]) λ _ _ _ _ _ _=>bn2 λ _ _=>rfl
 have m_q9:=PySem.W.mg_of X G a_q9
 obtain ⟨_,F_q7⟩:=A_q7.fn
 have b_q7:=F_q7.binds (ps:=["pen", "box"]) λ _ _ _ _ _ _=>bn2 λ _ _=>rfl
 have m_q7:=PySem.W.mg_of X G a_q7
 obtain ⟨_,F_q20⟩:=A_q20.fn
 have b_q20:=F_q20.binds (ps:=["word", "stroke"]) λ _ _ _ _ _ _=>bn2 λ _ _=>rfl
 have m_q20:=PySem.W.mg_of X G a_q20
 obtain ⟨_,F_q26⟩:=A_q26.fn
 have b_q26:=F_q26.binds (ps:=["word", "pen", "look"]) λ _ _ _ _ _ _=>bn3 λ _ _ _=>rfl
 have m_q26:=PySem.W.mg_of X G a_q26
 obtain ⟨_,F_q24⟩:=A_q24.fn
 have b_q24:=F_q24.binds (ps:=["deed", "pen", "look"]) λ _ _ _ _ _ _=>bn3 λ _ _ _=>rfl
 have m_q24:=PySem.W.mg_of X G a_q24
 obtain ⟨_,F_q25⟩:=A_q25.fn
 have b_q25:=F_q25.binds (ps:=["number", "word", "pen", "look"]) λ _ _ _ _ _ _=>bn4 λ _ _ _ _=>rfl
 have m_q25:=PySem.W.mg_of X G a_q25
 obtain ⟨_,F_q19⟩:=A_q19.fn
 have b_q19:=F_q19.binds (ps:=["number", "part", "pen", "box", "look"]) λ _ _ _ _ _ _=>bn5 λ _ _ _ _ _=>rfl
 have m_q19:=PySem.W.mg_of X G a_q19
 obtain ⟨_,F_q31⟩:=A_q31.fn
 have b_q31:=F_q31.binds (ps:=["number", "low", "high", "shift", "least", "greatest"]) λ _ _ _ _ _ _=>bn6 λ _ _ _ _ _ _=>rfl
 have m_q31:=PySem.W.mg_of X G a_q31
 obtain ⟨_,F_q18⟩:=A_q18.fn
 have b_q18:=F_q18.binds (ps:=["doing", "number", "part"]) λ _ _ _ _ _ _=>bn3 λ _ _ _=>rfl
 have m_q18:=PySem.W.mg_of X G a_q18
 obtain ⟨_,F_q4⟩:=A_q4.fn
 have b_q4:=F_q4.binds (ps:=["script", "k"]) λ _ _ _ _ _ _=>bn2 λ _ _=>rfl
 have m_q4:=PySem.W.mg_of X G a_q4
 obtain ⟨_,F_q5⟩:=A_q5.fn
 have b_q5:=F_q5.binds (ps:=["state", "many"]) λ _ _ _ _ _ _=>bn2 λ _ _=>rfl
 have m_q5:=PySem.W.mg_of X G a_q5
 obtain ⟨_,F_q6⟩:=A_q6.fn
 have b_q6:=F_q6.binds (ps:=["found"]) λ _ _ _ _ _ _=>bn1 λ _=>rfl
 have m_q6:=PySem.W.mg_of X G a_q6
 obtain ⟨_,F_q0⟩:=A_q0.fn
 have b_q0:=F_q0.binds (ps:=["state", "deep"]) λ _ _ _ _ _ _=>bn2 λ _ _=>rfl
 have m_q0:=PySem.W.mg_of X G a_q0
 obtain ⟨_,F_q1⟩:=A_q1.fn
 have b_q1:=F_q1.binds (ps:=["state", "deep", "many"]) λ _ _ _ _ _ _=>bn3 λ _ _ _=>rfl
 have m_q1:=PySem.W.mg_of X G a_q1
 obtain ⟨_,F_q2⟩:=A_q2.fn
 have b_q2:=F_q2.binds (ps:=["deeds"]) λ _ _ _ _ _ _=>bn1 λ _=>rfl
 have m_q2:=PySem.W.mg_of X G a_q2
 obtain ⟨_,F_q3⟩:=A_q3.fn
 have b_q3:=F_q3.binds (ps:=["deeds", "pen"]) λ _ _ _ _ _ _=>bn2 λ _ _=>rfl
 have m_q3:=PySem.W.mg_of X G a_q3
 obtain ⟨_,_,_,kV_q22,dc_q22,pm_q22,an_q22,cd_q22,ct_q22,l_q22,c_q22,k_q22⟩:=A_q22
 have F_q22:=zn2 (st:=ys1) l_q22 c_q22 k_q22
 have b_q22:=F_q22.binds (ps:=["script"]) λ _ _ _ _ _ _=>bn1 λ _=>rfl
 have m_q22:=PySem.W.mg_of X G a_q22
 have F_Look___init__:=zn2 (st:=zg0) l_Look___init__ c_Look___init__ k_Look___init__
 have b_Look___init__:=F_Look___init__.binds (ps:=["self", "stroke"]) λ _ _ _ _ _ _=>bn2 λ _ _=>rfl
 have F_Look_is_within:=zn2 (st:=wf0) l_Look_is_within c_Look_is_within k_Look_is_within
 have b_Look_is_within:=F_Look_is_within.binds (ps:=["self", "box"]) λ _ _ _ _ _ _=>bn2 λ _ _=>rfl
 have F_Look_count_doing:=zn2 (st:=zf0) l_Look_count_doing c_Look_count_doing k_Look_count_doing
 have b_Look_count_doing:=F_Look_count_doing.binds (ps:=["self"]) λ _ _ _ _ _ _=>bn1 λ _=>rfl
 refine ⟨PySem.W.fnOf "law" "law" (zr0 ys1) (xd0 ys1) (xb0 ys1) .none kV_q22 dc_q22 pm_q22 an_q22 cd_q22 ct_q22,λ s v=>.of_eq rfl,λ base KB GB=>?_⟩
 have h_q10:Cal l.prog w K mg base (1) "check_number" ["kind", "number"] yg6:=yh0 F_q10 m_q10 b_q10 wp7 (by rintro _ _ _ ⟨_,_,rfl,_⟩; rfl) (k:=0) (λ cdv A outer s H E hr=>ww7 z_abs z_int z_isinstance g_GREATEST_NUMBER g_KINDS_FROM_NOUGHT hr) zd8
 have step_q13:∀ j,Cal l.prog w K mg base (2 * j + 1) "checked_deed_count" ["deed", "depth"] (yb3 j)->Cal l.prog w K mg base (2 * j + 1 + 1) "checked_count" ["word", "depth"] (zz1 j):=λ j ih=>yh0 F_q13 m_q13 b_q13 sc_q13 (by rintro _ _ _ ⟨_,_,rfl,_⟩; rfl) (k:=2 * j + 1) (λ cdv A outer s H E hr=>xw7 ih (Nat.le_refl _) z_isinstance z_tuple g_MOST_DEEDS g_MOST_DEEP hr) (wc8 j)
 have fam_q13:∀ j,Cal l.prog w K mg base (2 * j + 1) "checked_deed_count" ["deed", "depth"] (yb3 j):=λ j=>by
  induction j with
  | zero=>exact (zs0 F_q14 m_q14 b_q14 (by intro ds μ Q h; first | (obtain ⟨_,_,h⟩:=h; omega) | (obtain ⟨_,_,_,h⟩:=h; omega) | (obtain ⟨_,_,_,_,h⟩:=h; omega))).mono (by omega)
  | succ j ih=>exact (yh0 F_q14 m_q14 b_q14 xp7 (by rintro _ _ _ ⟨_,_,rfl,_⟩; rfl) (k:=2 * j + 1 + 1) (λ cdv A outer s H E hr=>wv7 h_q10 (by omega) (step_q13 j ih) (Nat.le_refl _) z_isinstance z_len z_tuple g_PLAIN_KINDS hr) (zc8 j)).mono (by omega)
 have h_q14:=fam_q13 5
 have h_q13:=step_q13 5 h_q14
 have h_q12:Cal l.prog w K mg base (13) "check_word" ["word"] za5:=yh0 F_q12 m_q12 b_q12 yp7 (by rintro _ _ _ ⟨_,rfl,_⟩; rfl) (k:=12) (λ cdv A outer s H E hr=>yw7 h_q13 (by decide) hr) xd8
 have h_q23:Cal l.prog w K mg base (1) "led" ["pen", "part"] yl1:=yh0 F_q23 m_q23 b_q23 sc_q23 (by rintro _ _ _ ⟨_,_,rfl,_⟩; rfl) (k:=0) (λ cdv A outer s H E hr=>zt7 g_AHEAD hr) ya8
 have h_q30:Cal l.prog w K mg base (2) "pen_repeated" ["part", "number"] zx3:=yh0 F_q30 m_q30 b_q30 sc_q30 (by rintro _ _ _ ⟨_,_,rfl,_⟩; rfl) (k:=1) (λ cdv A outer s H E hr=>wr7 h_q23 (by decide) z_range g_START hr) zy7
 have step_q28:∀ j,Cal l.prog w K mg base (2 * j + 2) "pen_behind_deed" ["deed"] (spPd j)->Cal l.prog w K mg base (2 * j + 2 + 1) "pen_behind" ["word"] (spPb j):=λ j ih=>yh0 F_q28 m_q28 b_q28 sc_q28 (by rintro _ _ _ ⟨_,rfl,_⟩; rfl) (k:=2 * j + 2) (λ cdv A outer s H E hr=>ys7 h_q23 (by omega) ih (Nat.le_refl _) g_START hr) (xz7 j)
 have fam_q28:∀ j,Cal l.prog w K mg base (2 * j + 2) "pen_behind_deed" ["deed"] (spPd j):=λ j=>by
  induction j with
  | zero=>exact (zs0 F_q29 m_q29 b_q29 (by intro ds μ Q h; first | (obtain ⟨_,_,h⟩:=h; omega) | (obtain ⟨_,_,_,h⟩:=h; omega) | (obtain ⟨_,_,_,_,h⟩:=h; omega))).mono (by omega)
  | succ j ih=>exact (yh0 F_q29 m_q29 b_q29 wm7 (by rintro _ _ _ ⟨_,rfl,_⟩; rfl) (k:=2 * j + 2 + 1) (λ cdv A outer s H E hr=>xs7 (step_q28 j ih) (Nat.le_refl _) h_q30 (by omega) hr) (wy7 j)).mono (by omega)
 have h_q29:=fam_q28 5
 have h_q28:=step_q28 5 h_q29
 have step_q15:∀ j,Cal l.prog w K mg base (2 * j + 0) "count_strokes_of_deed" ["deed"] (wz4 j)->Cal l.prog w K mg base (2 * j + 0 + 1) "count_strokes" ["word"] (spSk j):=λ j ih=>yh0 F_q15 m_q15 b_q15 wo7 (by rintro _ _ _ ⟨_,rfl,_⟩; rfl) (k:=2 * j + 0) (λ cdv A outer s H E hr=>zv7 ih (Nat.le_refl _) z_sum hr) (yc8 j)
 have fam_q15:∀ j,Cal l.prog w K mg base (2 * j + 0) "count_strokes_of_deed" ["deed"] (wz4 j):=λ j=>by
  induction j with
  | zero=>exact (zs0 F_q16 m_q16 b_q16 (by intro ds μ Q h; first | (obtain ⟨_,_,h⟩:=h; omega) | (obtain ⟨_,_,_,h⟩:=h; omega) | (obtain ⟨_,_,_,_,h⟩:=h; omega))).mono (by omega)
  | succ j ih=>exact (yh0 F_q16 m_q16 b_q16 zo7 (by rintro _ _ _ ⟨_,rfl,_⟩; rfl) (k:=2 * j + 0 + 1) (λ cdv A outer s H E hr=>yv7 (step_q15 j ih) (Nat.le_refl _) hr) (xc8 j)).mono (by omega)
 have h_q16:=fam_q15 5
 have h_q15:=step_q15 5 h_q16
 have h_q32:Cal l.prog w K mg base (14) "strokes_drawn" ["word"] xx3:=yh0 F_q32 m_q32 b_q32 zm7 (by rintro _ _ _ ⟨_,rfl,_⟩; rfl) (k:=13) (λ cdv A outer s H E hr=>yr7 h_q12 (by decide) h_q15 (by decide) hr) xy7
 have h_q11:Cal l.prog w K mg base (1) "check_stroke" ["stroke"] zy3:=yh0 F_q11 m_q11 b_q11 zp7 (by rintro _ _ _ ⟨_,rfl,_⟩; rfl) (k:=0) (λ cdv A outer s H E hr=>zw7 z_len g_WAYS hr) yd8
 have h_q21:Cal l.prog w K mg base (1) "ends_of" ["stroke"] yy3:=yh0 F_q21 m_q21 b_q21 zn7 (by rintro _ _ _ ⟨_,rfl,_⟩; rfl) (k:=0) (λ cdv A outer s H E hr=>xu7 hr) wa8
 have h_q9:Cal l.prog w K mg base (1) "box_round" ["one", "other"] wa5:=yh0 F_q9 m_q9 b_q9 sc_q9 (by rintro _ _ _ ⟨_,_,rfl,_⟩; rfl) (k:=0) (λ cdv A outer s H E hr=>xc9 z_max z_min hr) xf9
 have h_q7:Cal l.prog w K mg base (2) "box_from" ["pen", "box"] wz1:=yh0 F_q7 m_q7 b_q7 sc_q7 (by rintro _ _ _ ⟨_,_,rfl,_⟩; rfl) (k:=1) (λ cdv A outer s H E hr=>zc9 h_q23 (by decide) z_max z_min hr) zf9
 have h_q27:Cal l.prog w K mg base (1) "outermost_doings" ["part", "number"] xg6:=yh0 F_q27 m_q27 b_q27 xn7 (by rintro _ _ _ ⟨_,_,rfl,_⟩; rfl) (k:=0) (λ cdv A outer s H E hr=>zs7 z_list z_min z_range hr) yz7
 have h_q8:Cal l.prog w K mg base (3) "box_repeated" ["box", "part", "number"] wy3:=yh0 F_q8 m_q8 b_q8 sc_q8 (by rintro _ _ _ ⟨_,_,_,rfl,_⟩; rfl) (k:=2) (λ cdv A outer s H E hr=>yc9 h_q7 (by decide) h_q9 (by decide) h_q27 (by decide) h_q30 (by decide) hr) yf9
 have step_q33:∀ j,Cal l.prog w K mg base (2 * j + 13) "deed_box" ["deed"] (spDb j)->Cal l.prog w K mg base (2 * j + 13 + 1) "word_box" ["word"] (spWb j):=λ j ih=>yh0 F_q33 m_q33 b_q33 sc_q33 (by rintro _ _ _ ⟨_,rfl,_⟩; rfl) (k:=2 * j + 13) (λ cdv A outer s H E hr=>xr7 h_q7 (by omega) h_q9 (by omega) ih (Nat.le_refl _) h_q23 (by omega) h_q29 (by omega) g_START hr) (wx7 j)
 have fam_q33:∀ j,Cal l.prog w K mg base (2 * j + 13) "deed_box" ["deed"] (spDb j):=λ j=>by
  induction j with
  | zero=>exact (zs0 F_q17 m_q17 b_q17 (by intro ds μ Q h; first | (obtain ⟨_,_,h⟩:=h; omega) | (obtain ⟨_,_,_,h⟩:=h; omega) | (obtain ⟨_,_,_,_,h⟩:=h; omega))).mono (by omega)
  | succ j ih=>exact (yh0 F_q17 m_q17 b_q17 yo7 (by rintro _ _ _ ⟨_,rfl,_⟩; rfl) (k:=2 * j + 13 + 1) (λ cdv A outer s H E hr=>xv7 h_q8 (by omega) h_q28 (by omega) (step_q33 j ih) (Nat.le_refl _) hr) (wb8 j)).mono (by omega)
 have h_q17:=fam_q33 5
 have h_q33:=step_q33 5 h_q17
 have h_Look___init__:CalT l.prog w K mg base (2) C_Look "__init__" ["self", "stroke"] xy3:=xx2 F_Look___init__ a_Look___init__ i_Look___init__ b_Look___init__ sc_Look___init__ (by rintro _ _ _ ⟨_,_,rfl,_⟩; rfl) (k:=1) (λ cdv A outer s H E hr=>wh1 h_q21 (by decide) oc_Look na_Look_greatest na_Look_least na_Look_left g_MOST_LOOKED_AT hr) xi1
 have h_Look_is_within:CalT l.prog w K mg base (1) C_Look "is_within" ["self", "box"] ya5:=xx2 F_Look_is_within a_Look_is_within i_Look_is_within b_Look_is_within sc_Look_is_within (by rintro _ _ _ ⟨_,_,_,_,rfl,_⟩; rfl) (k:=0) (λ cdv A outer s H E hr=>xg1 oc_Look na_Look_greatest na_Look_least hr) zg1
 have h_Look_count_doing:CalT l.prog w K mg base (1) C_Look "count_doing" ["self"] spCd:=xx2 F_Look_count_doing a_Look_count_doing i_Look_count_doing b_Look_count_doing xz0 (by rintro _ _ _ ⟨_,_,_,rfl,_⟩; rfl) (k:=0) (λ cdv A outer s H E hr=>yz0 oc_Look na_Look_left hr) wz0
 have fam_q31:∀ j,Cal l.prog w K mg base (j + 0) "span_of_doings" ["number", "low", "high", "shift", "least", "greatest"] (xu1 j):=λ j=>by
  induction j with
  | zero=>exact (zs0 F_q31 m_q31 b_q31 (by intro ds μ Q h; first | (obtain ⟨_,_,h⟩:=h; omega) | (obtain ⟨_,_,_,h⟩:=h; omega) | (obtain ⟨_,_,_,_,h⟩:=h; omega) | (obtain ⟨_,_,_,_,_,_,_,_,h⟩:=h; omega) | (obtain ⟨_,_,_,_,_,_,_,h,_⟩:=h; split at h <;> omega))).mono (by omega)
  | succ j ih=>exact (yh0 F_q31 m_q31 b_q31 sc_q31 (by rintro _ _ _ ⟨_,_,_,_,_,_,rfl,_⟩; rfl) (k:=j + 0) (λ cdv A outer s H E hr=>zr7 ih (Nat.le_refl _) z_max z_min hr) (yy7 j)).mono (by omega)
 have h_q31:=fam_q31 2
 have h_q19:Cal l.prog w K mg base (3) "doings_to_ask" ["number", "part", "pen", "box", "look"] zg6:=yh0 F_q19 m_q19 b_q19 sc_q19 (by rintro _ _ _ ⟨_,_,_,_,_,_,_,rfl,_⟩; rfl) (k:=2) (λ cdv A outer s H E hr=>zu7 h_q7 (by decide) h_q23 (by decide) h_q31 (by decide) oc_Look na_Look_greatest na_Look_least z_max z_min g_START hr) yb8
 have h_q18:Cal l.prog w K mg base (1) "doings_like" ["doing", "number", "part"] wx3:=yh0 F_q18 m_q18 b_q18 xo7 (by rintro _ _ _ ⟨_,_,_,rfl,_⟩; rfl) (k:=0) (λ cdv A outer s H E hr=>wu7 g_START hr) zb8
 have step_q24:∀ j,Cal l.prog w K mg base (3 * j + 24) "often_in_times" ["number", "word", "pen", "look"] (spOt j)->Cal l.prog w K mg base (3 * j + 24 + 1) "often_in_deed" ["deed", "pen", "look"] (spOd j):=λ j ih=>yh0 F_q24 m_q24 b_q24 yn7 (by rintro _ _ _ ⟨_,_,_,_,_,_,_,rfl,_⟩; rfl) (k:=3 * j + 24) (λ cdv A outer s H E hr=>yt7 h_Look_is_within (by omega) h_q7 (by omega) h_q17 (by omega) ih (Nat.le_refl _) oc_Look hr) (xa8 j)
 have step_q26:∀ j,Cal l.prog w K mg base (3 * j + 24) "often_in_times" ["number", "word", "pen", "look"] (spOt j)->Cal l.prog w K mg base (3 * j + 24 + 2) "often_in_word" ["word", "pen", "look"] (spOw j):=λ j ih=>yh0 F_q26 m_q26 b_q26 sc_q26 (by rintro _ _ _ ⟨_,_,_,_,_,_,_,rfl,_⟩; rfl) (k:=3 * j + 24 + 1) (λ cdv A outer s H E hr=>ws7 h_q23 (by omega) (step_q24 j ih) (Nat.le_refl _) h_q29 (by omega) hr) (zz7 j)
 have fam_q25:∀ j,Cal l.prog w K mg base (3 * j + 24) "often_in_times" ["number", "word", "pen", "look"] (spOt j):=λ j=>by
  induction j with
  | zero=>exact (zs0 F_q25 m_q25 b_q25 (by intro ds μ Q h; first | (obtain ⟨_,_,h⟩:=h; omega) | (obtain ⟨_,_,_,h⟩:=h; omega) | (obtain ⟨_,_,_,_,h⟩:=h; omega) | (obtain ⟨_,_,_,_,_,h⟩:=h; omega) | (obtain ⟨_,_,_,_,_,_,h⟩:=h; omega) | (obtain ⟨_,_,_,_,_,_,_,_,_,h,_⟩:=h; omega))).mono (by omega)
  | succ j ih=>exact (yh0 F_q25 m_q25 b_q25 sc_q25 (by rintro _ _ _ ⟨_,_,_,_,_,_,_,_,rfl,_⟩; rfl) (k:=3 * j + 24 + 2) (λ cdv A outer s H E hr=>xt7 h_Look_count_doing (by omega) h_Look_is_within (by omega) h_q7 (by omega) h_q18 (by omega) h_q19 (by omega) h_q23 (by omega) (step_q26 j ih) (Nat.le_refl _) h_q28 (by omega) h_q30 (by omega) h_q33 (by omega) oc_Look z_range hr) (wz7 j)).mono (by omega)
 have h_q25:=fam_q25 5
 have h_q24:=step_q24 5 h_q25
 have h_q26:=step_q26 5 h_q25
 have h_q20:Cal l.prog w K mg base (42) "drawn_often" ["word", "stroke"] spDo:=yh0 F_q20 m_q20 b_q20 wn7 (by rintro _ _ _ ⟨_,_,_,_,rfl,_⟩; rfl) (k:=41) (λ cdv A outer s H E hr=>yu7 h_Look___init__ (by decide) h_q11 (by decide) h_q12 (by decide) h_q26 (by decide) oc_Look mk_Look kp_Look m_Look g_START hr) xb8
 have h_q4:Cal l.prog w K mg base (1) "_law_state" ["script", "k"] xd1:=yh0 F_q4 m_q4 b_q4 sc_q4 (by rintro _ _ _ ⟨_,_,rfl,_⟩; rfl) (k:=0) (λ cdv A outer s H E hr=>yd9 z_len hr) yg9
 have h_q5:Cal l.prog w K mg base (1) "_law_take" ["state", "many"] wt1:=yh0 F_q5 m_q5 b_q5 sc_q5 (by rintro _ _ _ ⟨_,_,_,_,rfl,_⟩; rfl) (k:=0) (λ cdv A outer s H E hr=>xd9 hr) xg9
 have h_q6:Cal l.prog w K mg base (1) "_law_whole" ["found"] xl1:=yh0 F_q6 m_q6 b_q6 zb9 (by rintro _ _ _ ⟨_,rfl,_⟩; rfl) (k:=0) (λ cdv A outer s H E hr=>wc9 z_bool z_int z_isinstance hr) wf9
 have step_q1:∀ j,Cal l.prog w K mg base (2 * j + 1) "_law_deed" ["state", "deep"] (spLd j)->Cal l.prog w K mg base (2 * j + 1 + 1) "_law_deeds" ["state", "deep", "many"] (xk3 j):=λ j ih=>yh0 F_q1 m_q1 b_q1 wb9 (by rintro _ _ _ ⟨_,_,_,rfl,_⟩; rfl) (k:=2 * j + 1) (λ cdv A outer s H E hr=>xe9 ih (Nat.le_refl _) z_range z_tuple hr) (xh9 j)
 have fam_q1:∀ j,Cal l.prog w K mg base (2 * j + 1) "_law_deed" ["state", "deep"] (spLd j):=λ j=>by
  induction j with
  | zero=>exact (zs0 F_q0 m_q0 b_q0 (by intro ds μ Q h; first | (obtain ⟨_,_,h⟩:=h; omega) | (obtain ⟨_,_,_,h⟩:=h; omega) | (obtain ⟨_,_,_,_,h⟩:=h; omega))).mono (by omega)
  | succ j ih=>exact (yh0 F_q0 m_q0 b_q0 sc_q0 (by rintro _ _ _ ⟨_,_,rfl,_⟩; rfl) (k:=2 * j + 1 + 1) (λ cdv A outer s H E hr=>ye9 (step_q1 j ih) (Nat.le_refl _) h_q5 (by omega) z_int hr) (yh9 j)).mono (by omega)
 have h_q0:=fam_q1 3
 have h_q1:=step_q1 3 h_q0
 have fam_q2:∀ j,Cal l.prog w K mg base (j + 0) "_law_rolled_out" ["deeds"] (spRo j):=λ j=>by
  induction j with
  | zero=>exact (zs0 F_q2 m_q2 b_q2 (by intro ds μ Q h; first | (obtain ⟨_,_,h⟩:=h; omega) | (obtain ⟨_,_,_,h⟩:=h; omega) | (obtain ⟨_,_,_,_,h⟩:=h; omega) | (obtain ⟨_,_,_,_,_,_,_,_,h⟩:=h; omega) | (obtain ⟨_,_,_,_,_,_,_,h,_⟩:=h; split at h <;> omega))).mono (by omega)
  | succ j ih=>exact (yh0 F_q2 m_q2 b_q2 sc_q2 (by rintro _ _ _ ⟨_,rfl,_⟩; rfl) (k:=j + 0) (λ cdv A outer s H E hr=>wd9 ih (Nat.le_refl _) z_range hr) (wg9 j)).mono (by omega)
 have h_q2:=fam_q2 6
 have h_q3:Cal l.prog w K mg base (7) "_law_run" ["deeds", "pen"] yx3:=yh0 F_q3 m_q3 b_q3 sc_q3 (by rintro _ _ _ ⟨_,_,rfl,_⟩; rfl) (k:=6) (λ cdv A outer s H E hr=>zd9 h_q2 (by decide) z_min z_range hr) zg9
 exact zp4 F_q22 sc_q22 (by rintro _ _ _ ⟨_,rfl,_⟩; rfl) (k:=42) (λ cdv A outer s H E hr=>wt7 h_q1 (by decide) h_q3 (by decide) h_q4 (by decide) h_q5 (by decide) h_q6 (by decide) h_q20 (by decide) h_q32 (by decide) z_len z_set z_sorted z_sum hr) za8
theorem walk {l:PySem.W.OpenLaw} {q:Program} {loose:List Str} {XP:(Str->Option Value)->Heap->Prop} {YP:World->Heap->Prop} {d:DefRec} {K:Params->Fg} (hn:l.most=some 63) (hdf:d.params.defaults=[])
    (hY:∀ (w:World) (h:Heap),YP w h->(K w.params).In h)
    (F:∀ (w:World) (mg:Str->Option Value) (fa:Addr) (h:Heap),(K w.params).In h->h.Ns mainGlobals mg->mg d.name=some (.ref fa) ->
     ∃ fd:FuncData,(∀ (s:Shared) (u:Value),BindsTo s fd ⟨[u],[]⟩ [("script",u)]) /\ ∀ base:Heap,(K w.params).In base->base.Ns mainGlobals mg->FnOk l.prog w (K w.params) mg base CX0 43 fa fd ["script"] (lift (K w.params) xa5)) :
    PySem.W.WalkO q loose XP YP l.row.toRowW d [] (λ f vs=>PySem.call f vs) :=
 L2.walk_of (n:=63) (k:=43) (x := "script") (CX:=λ _=>CX0) (sp:=λ w=>lift (K w.params) xa5) hn (by decide) hdf ⟨rfl,by decide,by decide⟩ hY F (λ _ _ a ns hl hO hS=>zj5 hO hS ⟨ns,rfl,hl,λ _=>rfl⟩) λ _ _ _ _ _ z=>z
noncomputable abbrev vb:Value:=.bool true
noncomputable abbrev vi:Value:=.int 181 0
noncomputable def en (P:Params) (x:Str) (t:Tok) (v:Value):DictEntry:=⟨PyData.keyHash P x,.str x t,v⟩
noncomputable def fo (x y:Str) (st:Stmt) (m c:Value):Obj:=⟨.type "function",none,.func (PySem.W.fnOf x y (zr0 st) (xd0 st) (xb0 st) .none .none .none m none c .none),#[]⟩
noncomputable def co (x:Str) (a:Tok) (y:Str) (b c:Tok) (ns:List Int) (vs:List Value) (d e:Int) (f:Tok):Obj:=⟨.type "code",none,.fields (.str x a :: .str y b :: .str "/claim/cut.py" c :: (ns.map (λ n=>Value.int n 0) ++ (vs ++ [.int d 0,.int e 0,.str "/claim/cut.py" f]))).toArray,#[]⟩
noncomputable def tO (vs:List Value):Obj:=⟨.type "tuple",none,.seq vs.toArray 0,#[]⟩
noncomputable def KK:PySem.Params->PySem.W.Frag:=λ P=>(nat_lit 2,⟨.none,none,.dict #[] 0,#[]⟩) :: (nat_lit 3,⟨.type "dict",none,.dict #[en P "__name__" 165 (.str "law_penwright_k38_how_often_drawn" 585),en P "__doc__" 166 (.none),en P "__package__" 167 (.none),en P "__loader__" 168 (.builtin "__main__.__loader__#opaque"),en P "__spec__" 169 (.none),en P "__annotations__" 170 (.ref 6),en P "__builtins__" 171 (.ref 4),en P "__file__" 173 (.str "/claim/cut.py" 172),en P "__cached__" 174 (.none),en P "PenError" 206 (.ref 24),en P "NoWord" 222 (.ref 37),en P "NoPicture" 238 (.ref 49),en P "NoRoom" 254 (.ref 61),en P "MOST_DEEDS" 258 (.int 30 257),en P "MOST_DEEP" 260 (.int 4 259),en P "GREATEST_NUMBER" 262 (.int 99999999999999999999 261),en P "PLAIN_KINDS" 266 (.ref 64),en P "KINDS_FROM_NOUGHT" 269 (.ref 65),en P "START" 273 (.ref 66),en P "AHEAD" 284 (.ref 71),en P "check_word" 291 (.ref 78),en P "checked_count" 301 (.ref 85),en P "checked_deed_count" 309 (.ref 92),en P "check_number" 317 (.ref 99),en P "led" 328 (.ref 106),en P "pen_behind" 337 (.ref 113),en P "pen_behind_deed" 344 (.ref 120),en P "pen_repeated" 354 (.ref 127),en P "strokes_drawn" 361 (.ref 134),en P "count_strokes" 367 (.ref 139),en P "count_strokes_of_deed" 374 (.ref 146),en P "WAYS" 379 (.ref 147),en P "check_stroke" 386 (.ref 154),en P "ends_of" 393 (.ref 161),en P "MOST_LOOKED_AT" 397 (.int 1000 396),en P "word_box" 407 (.ref 168),en P "deed_box" 414 (.ref 175),en P "box_repeated" 425 (.ref 182),en P "outermost_doings" 433 (.ref 189),en P "box_round" 442 (.ref 196),en P "box_from" 453 (.ref 203),en P "drawn_often" 461 (.ref 210),en P "Look" 509 (.ref 241),en P "often_in_word" 521 (.ref 252),en P "often_in_deed" 530 (.ref 259),en P "often_in_times" 546 (.ref 266),en P "doings_to_ask" 561 (.ref 273),en P "span_of_doings" 575 (.ref 280),en P "doings_like" 584 (.ref 287),en P "_law_state" 595 (.ref 294),en P "_law_take" 605 (.ref 301),en P "_law_whole" 612 (.ref 308),en P "_law_deed" 621 (.ref 315),en P "_law_deeds" 627 (.ref 320),en P "_law_rolled_out" 637 (.ref 327),en P "_law_run" 653 (.ref 334),en P "law" 659 (.ref 339)] 57,#[]⟩) :: (nat_lit 15,tO [.type "ValueError"]) :: (nat_lit 22,tO []) :: (nat_lit 23,⟨.type "dict",none,.dict #[en P "__module__" 196 (.str "penwright.errors" 187),en P "__firstlineno__" 200 (.int 2 199),en P "__static_attributes__" 201 (.ref 22),en P "__weakref__" 203 (.ref 25),en P "__doc__" 204 (.none)] 3,#[]⟩) :: (nat_lit 24,⟨.type "type",none,.cls ⟨"PenError",[.type "ValueError"],[.ref 24,.type "ValueError",.type "Exception",.type "BaseException",.type "object"],23, "PenError",true,[],[.ref 37,.ref 49,.ref 61],false,none,false⟩,#[some (.ref 15),none,some (.str "PenError" 189),some (.str "PenError" 197),some (.builtin "ValueError.__new__"),some (.bool true)]⟩) :: (nat_lit 25,⟨.type "getset_descriptor",none,.fields #[.str "__weakref__" 202,.ref 24,.builtin "ExceptionGroup.__weakref__",.none],#[]⟩) :: (nat_lit 28,tO [.ref 24]) :: (nat_lit 35,tO []) :: (nat_lit 36,⟨.type "dict",none,.dict #[en P "__module__" 214 (.str "penwright.errors" 187),en P "__firstlineno__" 218 (.int 4 217),en P "__static_attributes__" 219 (.ref 35),en P "__doc__" 220 (.none)] 2,#[]⟩) :: (nat_lit 37,⟨.type "type",none,.cls ⟨"NoWord",[.ref 24],[.ref 37,.ref 24,.type "ValueError",.type "Exception",.type "BaseException",.type "object"],36, "NoWord",true,[],[],false,none,false⟩,#[some (.ref 28),none,some (.str "NoWord" 207),some (.str "NoWord" 215),some (.builtin "ValueError.__new__"),some (.bool true)]⟩) :: (nat_lit 40,tO [.ref 24]) :: (nat_lit 47,tO []) :: (nat_lit 48,⟨.type "dict",none,.dict #[en P "__module__" 230 (.str "penwright.errors" 187),en P "__firstlineno__" 234 (.int 6 233),en P "__static_attributes__" 235 (.ref 47),en P "__doc__" 236 (.none)] 2,#[]⟩) :: (nat_lit 49,⟨.type "type",none,.cls ⟨"NoPicture",[.ref 24],[.ref 49,.ref 24,.type "ValueError",.type "Exception",.type "BaseException",.type "object"],48, "NoPicture",true,[],[],false,none,false⟩,#[some (.ref 40),none,some (.str "NoPicture" 223),some (.str "NoPicture" 231),some (.builtin "ValueError.__new__"),some (.bool true)]⟩) :: (nat_lit 52,tO [.ref 24]) :: (nat_lit 59,tO []) :: (nat_lit 60,⟨.type "dict",none,.dict #[en P "__module__" 246 (.str "penwright.errors" 187),en P "__firstlineno__" 250 (.int 8 249),en P "__static_attributes__" 251 (.ref 59),en P "__doc__" 252 (.none)] 2,#[]⟩) :: (nat_lit 61,⟨.type "type",none,.cls ⟨"NoRoom",[.ref 24],[.ref 61,.ref 24,.type "ValueError",.type "Exception",.type "BaseException",.type "object"],60, "NoRoom",true,[],[],false,none,false⟩,#[some (.ref 52),none,some (.str "NoRoom" 239),some (.str "NoRoom" 247),some (.builtin "ValueError.__new__"),some (.bool true)]⟩) :: (nat_lit 64,tO [.str "go" 263,.str "jump" 264,.str "turn" 265]) :: (nat_lit 65,tO [.str "go" 267,.str "times" 268]) :: (nat_lit 66,tO [.int 0 270,.int 0 271,.int 0 272]) :: (nat_lit 67,tO [.int 1 274,.int 0 275]) :: (nat_lit 68,tO [.int 0 276,.int 1 277]) :: (nat_lit 69,tO [.int (-1) 279,.int 0 280]) :: (nat_lit 70,tO [.int 0 281,.int (-1) 283]) :: (nat_lit 71,tO [.ref 67,.ref 68,.ref 69,.ref 70]) :: (nat_lit 77,co "check_word" 285 "check_word" 286 287 [18,1,0,0,3] [.ref 72,vb,vi,.ref 73,.none,.ref 74,.ref 75,.ref 76] 289 18 290) :: (nat_lit 78,fo "check_word" "check_word" wp3 (.str "penwright.words" 255) (.ref 77)) :: (nat_lit 84,co "checked_count" 292 "checked_count" 293 294 [20,2,0,0,3] [.ref 79,vb,vi,.ref 80,.none,.ref 81,.ref 82,.ref 83] 299 20 300) :: (nat_lit 85,fo "checked_count" "checked_count" zp3 (.str "penwright.words" 255) (.ref 84)) :: (nat_lit 91,co "checked_deed_count" 302 "checked_deed_count" 303 304 [31,2,0,0,3] [.ref 86,vb,vi,.ref 87,.none,.ref 88,.ref 89,.ref 90] 307 31 308) :: (nat_lit 92,fo "checked_deed_count" "checked_deed_count" yp3 (.str "penwright.words" 255) (.ref 91)) :: (nat_lit 98,co "check_number" 310 "check_number" 311 312 [41,2,0,0,3] [.ref 93,vb,vi,.ref 94,.none,.ref 95,.ref 96,.ref 97] 315 41 316) :: (nat_lit 99,fo "check_number" "check_number" yq3 (.str "penwright.words" 255) (.ref 98)) :: (nat_lit 105,co "led" 318 "led" 319 320 [48,2,0,0,3] [.ref 100,vb,vi,.ref 101,.none,.ref 102,.ref 103,.ref 104] 326 48 327) :: (nat_lit 106,fo "led" "led" yn3 (.str "penwright.words" 255) (.ref 105)) :: (nat_lit 112,co "pen_behind" 329 "pen_behind" 330 331 [53,1,0,0,3] [.ref 107,vb,vi,.ref 108,.none,.ref 109,.ref 110,.ref 111] 335 53 336) :: (nat_lit 113,fo "pen_behind" "pen_behind" xm3 (.str "penwright.words" 255) (.ref 112)) :: (nat_lit 119,co "pen_behind_deed" 338 "pen_behind_deed" 339 340 [58,1,0,0,3] [.ref 114,vb,vi,.ref 115,.none,.ref 116,.ref 117,.ref 118] 342 58 343) :: (nat_lit 120,fo "pen_behind_deed" "pen_behind_deed" wl3 (.str "penwright.words" 255) (.ref 119)) :: (nat_lit 126,co "pen_repeated" 345 "pen_repeated" 346 347 [64,2,0,0,3] [.ref 121,vb,vi,.ref 122,.none,.ref 123,.ref 124,.ref 125] 352 64 353) :: (nat_lit 127,fo "pen_repeated" "pen_repeated" zl3 (.str "penwright.words" 255) (.ref 126)) :: (nat_lit 133,co "strokes_drawn" 355 "strokes_drawn" 356 357 [71,1,0,0,3] [.ref 128,vb,vi,.ref 129,.none,.ref 130,.ref 131,.ref 132] 359 71 360) :: (nat_lit 134,fo "strokes_drawn" "strokes_drawn" xl3 (.str "penwright.words" 255) (.ref 133)) :: (nat_lit 138,co "count_strokes" 362 "count_strokes" 363 364 [74,1,0,0,3] [.ref 135,vb,vi,.ref 136,.none,.none,.none,.ref 137] 365 74 366) :: (nat_lit 139,fo "count_strokes" "count_strokes" xp3 (.str "penwright.words" 255) (.ref 138)) :: (nat_lit 145,co "count_strokes_of_deed" 368 "count_strokes_of_deed" 369 370 [76,1,0,0,3] [.ref 140,vb,vi,.ref 141,.none,.ref 142,.ref 143,.ref 144] 372 76 373) :: (nat_lit 146,fo "count_strokes_of_deed" "count_strokes_of_deed" wo3 (.str "penwright.words" 255) (.ref 145)) :: (nat_lit 147,tO [.int 0 377,.int 1 378]) :: (nat_lit 153,co "check_stroke" 380 "check_stroke" 381 382 [84,1,0,0,3] [.ref 148,vb,vi,.ref 149,.none,.ref 150,.ref 151,.ref 152] 384 84 385) :: (nat_lit 154,fo "check_stroke" "check_stroke" xq3 (.str "penwright.pictures" 375) (.ref 153)) :: (nat_lit 160,co "ends_of" 387 "ends_of" 388 389 [87,1,0,0,3] [.ref 155,vb,vi,.ref 156,.none,.ref 157,.ref 158,.ref 159] 391 87 392) :: (nat_lit 161,fo "ends_of" "ends_of" zn3 (.str "penwright.pictures" 375) (.ref 160)) :: (nat_lit 167,co "word_box" 398 "word_box" 399 400 [93,1,0,0,3] [.ref 162,vb,vi,.ref 163,.none,.ref 164,.ref 165,.ref 166] 405 93 406) :: (nat_lit 168,fo "word_box" "word_box" wk3 (.str "penwright.great" 394) (.ref 167)) :: (nat_lit 174,co "deed_box" 408 "deed_box" 409 410 [100,1,0,0,3] [.ref 169,vb,vi,.ref 170,.none,.ref 171,.ref 172,.ref 173] 412 100 413) :: (nat_lit 175,fo "deed_box" "deed_box" zo3 (.str "penwright.great" 394) (.ref 174)) :: (nat_lit 181,co "box_repeated" 415 "box_repeated" 416 417 [108,3,0,0,3] [.ref 176,vb,vi,.ref 177,.none,.ref 178,.ref 179,.ref 180] 423 108 424) :: (nat_lit 182,fo "box_repeated" "box_repeated" s_q8 (.str "penwright.great" 394) (.ref 181)) :: (nat_lit 188,co "outermost_doings" 426 "outermost_doings" 427 428 [113,2,0,0,3] [.ref 183,vb,vi,.ref 184,.none,.ref 185,.ref 186,.ref 187] 431 113 432) :: (nat_lit 189,fo "outermost_doings" "outermost_doings" ym3 (.str "penwright.great" 394) (.ref 188)) :: (nat_lit 195,co "box_round" 434 "box_round" 435 436 [117,2,0,0,3] [.ref 190,vb,vi,.ref 191,.none,.ref 192,.ref 193,.ref 194] 440 117 441) :: (nat_lit 196,fo "box_round" "box_round" s_q9 (.str "penwright.great" 394) (.ref 195)) :: (nat_lit 202,co "box_from" 443 "box_from" 444 445 [124,2,0,0,3] [.ref 197,vb,vi,.ref 198,.none,.ref 199,.ref 200,.ref 201] 451 124 452) :: (nat_lit 203,fo "box_from" "box_from" s_q7 (.str "penwright.great" 394) (.ref 202)) :: (nat_lit 209,co "drawn_often" 454 "drawn_often" 455 456 [131,2,0,0,3] [.ref 204,vb,vi,.ref 205,.none,.ref 206,.ref 207,.ref 208] 459 131 460) :: (nat_lit 210,fo "drawn_often" "drawn_often" wn3 (.str "penwright.great" 394) (.ref 209)) :: (nat_lit 223,co "__init__" 474 "Look.__init__" 475 476 [137,2,0,0,3] [.ref 218,vb,vi,.ref 219,.none,.ref 220,.ref 221,.ref 222] 480 137 481) :: (nat_lit 224,fo "__init__" "Look.__init__" zg0 (.str "penwright.great" 394) (.ref 223)) :: (nat_lit 230,co "is_within" 483 "Look.is_within" 484 485 [143,2,0,0,3] [.ref 225,vb,vi,.ref 226,.none,.ref 227,.ref 228,.ref 229] 489 143 490) :: (nat_lit 231,fo "is_within" "Look.is_within" wf0 (.str "penwright.great" 394) (.ref 230)) :: (nat_lit 237,co "count_doing" 492 "Look.count_doing" 493 494 [149,1,0,0,3] [.ref 232,vb,vi,.ref 233,.none,.ref 234,.ref 235,.ref 236] 496 149 497) :: (nat_lit 238,fo "count_doing" "Look.count_doing" zf0 (.str "penwright.great" 394) (.ref 237)) :: (nat_lit 239,tO [.str "greatest" 499,.str "least" 500,.str "left" 501]) :: (nat_lit 240,⟨.type "dict",none,.dict #[en P "__module__" 469 (.str "penwright.great" 394),en P "__firstlineno__" 473 (.int 135 472),en P "__init__" 482 (.ref 224),en P "is_within" 491 (.ref 231),en P "count_doing" 498 (.ref 238),en P "__static_attributes__" 502 (.ref 239),en P "__dict__" 504 (.ref 242),en P "__weakref__" 506 (.ref 243),en P "__doc__" 507 (.none)] 4,#[]⟩) :: (nat_lit 241,⟨.type "type",none,.cls ⟨"Look",[.type "object"],[.ref 241,.type "object"],240, "Look",true,[],[],false,none,false⟩,#[none,none,some (.str "Look" 462),some (.str "Look" 470),some (.builtin "object.__new__"),some (.bool true)]⟩) :: (nat_lit 242,⟨.type "getset_descriptor",none,.fields #[.str "__dict__" 503,.ref 241,.builtin "function.__dict__",.builtin "function.__dict__#set"],#[]⟩) :: (nat_lit 243,⟨.type "getset_descriptor",none,.fields #[.str "__weakref__" 505,.ref 241,.builtin "ExceptionGroup.__weakref__",.none],#[]⟩) :: (nat_lit 251,co "often_in_word" 510 "often_in_word" 511 512 [153,3,0,0,3] [.ref 246,vb,vi,.ref 247,.none,.ref 248,.ref 249,.ref 250] 519 153 520) :: (nat_lit 252,fo "often_in_word" "often_in_word" zm3 (.str "penwright.great" 394) (.ref 251)) :: (nat_lit 258,co "often_in_deed" 522 "often_in_deed" 523 524 [160,3,0,0,3] [.ref 253,vb,vi,.ref 254,.none,.ref 255,.ref 256,.ref 257] 528 160 529) :: (nat_lit 259,fo "often_in_deed" "often_in_deed" xn3 (.str "penwright.great" 394) (.ref 258)) :: (nat_lit 265,co "often_in_times" 531 "often_in_times" 532 533 [164,4,0,0,3] [.ref 260,vb,vi,.ref 261,.none,.ref 262,.ref 263,.ref 264] 544 164 545) :: (nat_lit 266,fo "often_in_times" "often_in_times" wm3 (.str "penwright.great" 394) (.ref 265)) :: (nat_lit 272,co "doings_to_ask" 547 "doings_to_ask" 548 549 [175,5,0,0,3] [.ref 267,vb,vi,.ref 268,.none,.ref 269,.ref 270,.ref 271] 559 175 560) :: (nat_lit 273,fo "doings_to_ask" "doings_to_ask" xo3 (.str "penwright.great" 394) (.ref 272)) :: (nat_lit 279,co "span_of_doings" 562 "span_of_doings" 563 564 [187,6,0,0,3] [.ref 274,vb,vi,.ref 275,.none,.ref 276,.ref 277,.ref 278] 573 187 574) :: (nat_lit 280,fo "span_of_doings" "span_of_doings" yl3 (.str "penwright.great" 394) (.ref 279)) :: (nat_lit 286,co "doings_like" 576 "doings_like" 577 578 [195,3,0,0,3] [.ref 281,vb,vi,.ref 282,.none,.ref 283,.ref 284,.ref 285] 582 195 583) :: (nat_lit 287,fo "doings_like" "doings_like" yo3 (.str "penwright.great" 394) (.ref 286)) :: (nat_lit 293,co "_law_state" 587 "_law_state" 588 589 [202,2,0,0,3] [.ref 288,vb,vi,.ref 289,.none,.ref 290,.ref 291,.ref 292] 593 202 594) :: (nat_lit 294,fo "_law_state" "_law_state" s_q4 (.str "law_penwright_k38_how_often_drawn" 585) (.ref 293)) :: (nat_lit 300,co "_law_take" 596 "_law_take" 597 598 [209,2,0,0,3] [.ref 295,vb,vi,.ref 296,.none,.ref 297,.ref 298,.ref 299] 603 209 604) :: (nat_lit 301,fo "_law_take" "_law_take" s_q5 (.str "law_penwright_k38_how_often_drawn" 585) (.ref 300)) :: (nat_lit 307,co "_law_whole" 606 "_law_whole" 607 608 [219,1,0,0,3] [.ref 302,vb,vi,.ref 303,.none,.ref 304,.ref 305,.ref 306] 610 219 611) :: (nat_lit 308,fo "_law_whole" "_law_whole" s_q6 (.str "law_penwright_k38_how_often_drawn" 585) (.ref 307)) :: (nat_lit 314,co "_law_deed" 613 "_law_deed" 614 615 [221,2,0,0,3] [.ref 309,vb,vi,.ref 310,.none,.ref 311,.ref 312,.ref 313] 619 221 620) :: (nat_lit 315,fo "_law_deed" "_law_deed" s_q0 (.str "law_penwright_k38_how_often_drawn" 585) (.ref 314)) :: (nat_lit 319,co "_law_deeds" 622 "_law_deeds" 623 624 [230,3,0,0,3] [.ref 316,vb,vi,.ref 317,.none,.none,.none,.ref 318] 625 230 626) :: (nat_lit 320,fo "_law_deeds" "_law_deeds" s_q1 (.str "law_penwright_k38_how_often_drawn" 585) (.ref 319)) :: (nat_lit 326,co "_law_rolled_out" 628 "_law_rolled_out" 629 630 [232,1,0,0,3] [.ref 321,vb,vi,.ref 322,.none,.ref 323,.ref 324,.ref 325] 635 232 636) :: (nat_lit 327,fo "_law_rolled_out" "_law_rolled_out" s_q2 (.str "law_penwright_k38_how_often_drawn" 585) (.ref 326)) :: (nat_lit 333,co "_law_run" 638 "_law_run" 639 640 [241,2,0,0,3] [.ref 328,vb,vi,.ref 329,.none,.ref 330,.ref 331,.ref 332] 651 241 652) :: (nat_lit 334,fo "_law_run" "_law_run" s_q3 (.str "law_penwright_k38_how_often_drawn" 585) (.ref 333)) :: (nat_lit 338,co "law" 654 "law" 655 656 [257,1,0,0,3] [.ref 335,vb,vi,.ref 336,.none,.none,.none,.ref 337] 657 257 658) :: (nat_lit 339,fo "law" "law" ys1 (.str "law_penwright_k38_how_often_drawn" 585) (.ref 338)) :: []
noncomputable def KA:List Addr:=[2,3,15,22,23,24,25,28,35,36,37,40,47,48,49,52,59,60,61,64,65,66,67,68,69,70,71,77,78,84,85,91,92,98,99,105,106,112,113,119,120,126,127,133,134,138,139,145,146,147,153,154,160,161,167,168,174,175,181,182,188,189,195,196,202,203,209,210,223,224,230,231,237,238,239,240,241,242,243,251,252,258,259,265,266,272,273,279,280,286,287,293,294,300,301,307,308,314,315,319,320,326,327,333,334,338,339]
theorem ke:∀ P,KA=(KK P).map (·.1):=λ _=>by kernel_rfl
noncomputable def vw:Program:={ PySem.Challenge.pw_penwright_k38_how_often_drawn with main:={ PySem.Challenge.pw_penwright_k38_how_often_drawn.main with body:=[top 1,top 2,top 3,top 4,top 6,top 7,top 8,top 9,top 10,top 11,top 12,top 13,top 14,top 15,top 16,top 17,top 18,top 19,top 20,top 21,top 22,top 23,top 25,top 26,top 27,top 29,top 30,top 31,top 32,top 33,top 34,top 35,top 36,top 37,top 38,top 39,top 40,top 41,top 42,top 43,top 45,top 46,top 47,top 48,top 49,top 50,top 51,top 52] } }
theorem h_said:PySem.Challenge.rw_penwright_k38_how_often_drawn.wellSaid=true:=by kernel_rfl
theorem h_left:PySem.W.LeftO (PySem.W.OpenLaw.row PySem.Challenge.rw_penwright_k38_how_often_drawn).prog vw [] (λ s=>PySem.W.xlAt vw [] s && PySem.W.recOk (PySem.W.RowW.records (PySem.W.OpenRow.toRowW (PySem.W.OpenLaw.row PySem.Challenge.rw_penwright_k38_how_often_drawn))) s) (PySem.W.Hook.obs (PySem.W.kHook KK KA ke)) (PySem.W.Hook.val (PySem.W.kHook KK KA ke)) 4804:=by
 intro w
 delta PySem.W.openEnds PySem.W.fencedOpening PySem.W.topFrom
 rw [PySem.W.Fast.te14082659384304107361,PySem.W.Fast.te10274390034422433532,PySem.W.Fast.te14289696077712309145,PySem.W.Fast.te1435165496053646825,PySem.W.Fast.te14364793385576792824,PySem.W.Fast.te4187177175401517315]
 kernel_rfl
end Pv
open PySem PySem.W PyProof.Rows
set_option maxRecDepth 100000 in
set_option maxHeartbeats 0 in
theorem PySem.Challenge.cw_penwright_k38_how_often_drawn_holds : PySem.Challenge.rw_penwright_k38_how_often_drawn.Holds := by
 w_on
 refine PySem.W.holds_law Pv.h_said λ said=>?_
 refine PySem.W.holds_open (YP:=PySem.W.Hook.says (PySem.W.kHook Pv.KK Pv.KA Pv.ke)) Pv.h_left (PySem.W.Hook.of (PySem.W.kHook Pv.KK Pv.KA Pv.ke)) (PySem.W.Hook.keeps (PySem.W.kHook Pv.KK Pv.KA Pv.ke)) (λ s e=>PySem.W.xl_of s (Bool.and_eq_true_iff.mp e).1) PySem.W.XL.keeps (by rfl) (by rfl) (by rfl) (λ s e=>PySem.W.recFacts_of (Bool.and_eq_true_iff.mp e).2) (by rfl) said (by decide +kernel) ⟨rfl,rfl,rfl,rfl,rfl,by decide +kernel⟩ ?hw ?hc
 case hw=>w_witness2
 k_fill
 refine Pv.walk (l:=PySem.Challenge.rw_penwright_k38_how_often_drawn) rfl rfl (λ w h Y=>PySem.W.kIn_of Y) ?F
 case F =>
  intro w mg fa h KX G hmg
  refine' Pv.all_mk KX G hmg ?a_q12 ?A_q12 ?a_q13 ?A_q13 ?a_q14 ?A_q14 ?a_q10 ?A_q10 ?a_q23 ?A_q23 ?a_q28 ?A_q28 ?a_q29 ?A_q29 ?a_q30 ?A_q30 ?a_q32 ?A_q32 ?a_q15 ?A_q15 ?a_q16 ?A_q16 ?a_q11 ?A_q11 ?a_q21 ?A_q21 ?a_q33 ?A_q33 ?a_q17 ?A_q17 ?a_q8 ?A_q8 ?a_q27 ?A_q27 ?a_q9 ?A_q9 ?a_q7 ?A_q7 ?a_q20 ?A_q20 ?a_q26 ?A_q26 ?a_q24 ?A_q24 ?a_q25 ?A_q25 ?a_q19 ?A_q19 ?a_q31 ?A_q31 ?a_q18 ?A_q18 ?a_q4 ?A_q4 ?a_q5 ?A_q5 ?a_q6 ?A_q6 ?a_q0 ?A_q0 ?a_q1 ?A_q1 ?a_q2 ?A_q2 ?a_q3 ?A_q3 ?a_q22 ?A_q22 ?ac_Look ?pg_Look ?hd_Look ?po_Look ?sa_Look ?mk_Look ?kp_Look ?na_Look_greatest ?na_Look_least ?na_Look_left ?a_Look___init__ ?i_Look___init__ ?l_Look___init__ ?c_Look___init__ ?k_Look___init__ ?a_Look_is_within ?i_Look_is_within ?l_Look_is_within ?c_Look_is_within ?k_Look_is_within ?a_Look_count_doing ?i_Look_count_doing ?l_Look_count_doing ?c_Look_count_doing ?k_Look_count_doing ?e_MOST_DEEDS ?e_MOST_DEEP ?e_GREATEST_NUMBER ?e_PLAIN_KINDS ?ql_4 ?e_KINDS_FROM_NOUGHT ?ql_8 ?e_START ?ql_11 ?e_AHEAD ?ql_15 ?ql_25 ?ql_22 ?ql_19 ?ql_16 ?e_WAYS ?ql_28 ?e_MOST_LOOKED_AT ?zz_abs ?zz_bool ?zz_int ?zz_isinstance ?zz_len ?zz_list ?zz_max ?zz_min ?zz_range ?zz_set ?zz_sorted ?zz_sum ?zz_tuple
  (case ac_Look | pg_Look | hd_Look | po_Look | sa_Look | mk_Look | kp_Look | na_Look_greatest | na_Look_least | na_Look_left | a_Look___init__ | i_Look___init__ | l_Look___init__ | c_Look___init__ | k_Look___init__ | a_Look_is_within | i_Look_is_within | l_Look_is_within | c_Look_is_within | k_Look_is_within | a_Look_count_doing | i_Look_count_doing | l_Look_count_doing | c_Look_count_doing | k_Look_count_doing | e_MOST_DEEDS | e_MOST_DEEP | e_GREATEST_NUMBER | e_PLAIN_KINDS | ql_4 | e_KINDS_FROM_NOUGHT | ql_8 | e_START | ql_11 | e_AHEAD | ql_15 | ql_25 | ql_22 | ql_19 | ql_16 | e_WAYS | ql_28 | e_MOST_LOOKED_AT | zz_abs | zz_bool | zz_int | zz_isinstance | zz_len | zz_list | zz_max | zz_min | zz_range | zz_set | zz_sorted | zz_sum | zz_tuple=>k_is)
  (case a_q12 | a_q13 | a_q14 | a_q10 | a_q23 | a_q28 | a_q29 | a_q30 | a_q32 | a_q15 | a_q16 | a_q11 | a_q21 | a_q33 | a_q17 | a_q8 | a_q27 | a_q9 | a_q7 | a_q20 | a_q26 | a_q24 | a_q25 | a_q19 | a_q31 | a_q18 | a_q4 | a_q5 | a_q6 | a_q0 | a_q1 | a_q2 | a_q3 | a_q22=>(show _=_; k_is))
  (case A_q12 | A_q13 | A_q14 | A_q10 | A_q23 | A_q28 | A_q29 | A_q30 | A_q32 | A_q15 | A_q16 | A_q11 | A_q21 | A_q33 | A_q17 | A_q8 | A_q27 | A_q9 | A_q7 | A_q20 | A_q26 | A_q24 | A_q25 | A_q19 | A_q31 | A_q18 | A_q4 | A_q5 | A_q6 | A_q0 | A_q1 | A_q2 | A_q3 | A_q22=>(refine' Pv.fnA_mk ?l ?c ?k; (case l=>k_is); (case c=>k_is); (case k=>k_is)))
