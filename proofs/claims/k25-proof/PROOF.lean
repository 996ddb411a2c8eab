import PyProof.Rows.All
import Wide.All
import OpenK.AllK
import Wide.FinOn
import Lean
import PyProof.EqAt
import PyProof.EqKinds
import PyProof.TupleCall
import PyProof.P3Statements
import KE.KIntText
import KE.KRevSl
import KE.KSortTup
import KE.KDictSum
import PySem.Challenge.RW_penwright_k25_pieces_and_odd_points
set_option Elab.async false
set_option linter.all false
set_option maxRecDepth 100000
set_option maxHeartbeats 4000000
namespace L2
open PySem PySem.Spec PyProof.Rows
noncomputable def th0 (s:Stmt):Arguments:=match s with
 | .FunctionDef _ a _ _ _ _ _ _ _ _=>a
 | _=>{ posonlyargs:=[],args:=[],vararg:=none,kwonlyargs:=[],kw_defaults:=[],kwarg:=none,defaults:=[] }
noncomputable def tb0 (s:Stmt):List Stmt:=match s with
 | .FunctionDef _ _ b _ _ _ _ _ _ _=>b
 | _=>[]
noncomputable def wa0 (s:Stmt):Scope:=match s with
 | .FunctionDef _ _ _ _ _ _ sc _ _ _=>sc
 | _=>{ kind:=.function,names:=[],isGenerator:=false,isCoroutine:=false }
end L2
namespace Pv
open PySem PySem.Spec PyProof.Rows L2
noncomputable def top (i:Nat):Stmt:=PySem.Challenge.pw_penwright_k25_pieces_and_odd_points.main.body.getD i (.Pass ⟨0,0,0,0⟩)
noncomputable abbrev vg1:Stmt:=top 5
noncomputable abbrev wg1:Stmt:=top 6
noncomputable abbrev zg1:Stmt:=top 7
noncomputable abbrev xg1:Stmt:=top 9
noncomputable abbrev tf1:Stmt:=top 10
noncomputable abbrev sf1:Stmt:=top 11
noncomputable abbrev uf1:Stmt:=top 12
noncomputable abbrev yg1:Stmt:=top 13
noncomputable abbrev vf1:Stmt:=top 14
noncomputable abbrev wf1:Stmt:=top 15
noncomputable abbrev s_q0:Stmt:=top 17
noncomputable abbrev ug1:Stmt:=top 18
noncomputable abbrev tg1:Stmt:=top 19
noncomputable abbrev s_q1:Stmt:=top 20
noncomputable abbrev s_q8:Stmt:=top 21
noncomputable abbrev s_q2:Stmt:=top 22
noncomputable abbrev s_q3:Stmt:=top 23
noncomputable abbrev sg1:Stmt:=top 25
noncomputable abbrev s_q9:Stmt:=top 26
noncomputable abbrev s_q7:Stmt:=top 27
noncomputable abbrev s_q6:Stmt:=top 28
noncomputable abbrev s_q5:Stmt:=top 29
noncomputable abbrev yp0:Stmt:=top 30
noncomputable abbrev vb:Value:=.bool true
noncomputable abbrev vi:Value:=.int 181 0
noncomputable def en (P:Params) (x:Str) (t:Tok) (v:Value):DictEntry:=⟨PyData.keyHash P x,.str x t,v⟩
noncomputable def fo (x y:Str) (st:Stmt) (m c:Value):Obj:=⟨.type "function",none,.func (PySem.W.fnOf x y (th0 st) (tb0 st) (wa0 st) .none .none .none m none c .none),#[]⟩
noncomputable def co (x:Str) (a:Tok) (y:Str) (b c:Tok) (ns:List Int) (vs:List Value) (d e:Int) (f:Tok):Obj:=⟨.type "code",none,.fields (.str x a :: .str y b :: .str "/claim/cut.py" c :: (ns.map (λ n=>Value.int n 0) ++ (vs ++ [.int d 0,.int e 0,.str "/claim/cut.py" f]))).toArray,#[]⟩
noncomputable def tO (vs:List Value):Obj:=⟨.type "tuple",none,.seq vs.toArray 0,#[]⟩
noncomputable def KK:PySem.Params->PySem.W.Frag:=λ P=>(nat_lit 2,⟨.none,none,.dict #[] 0,#[]⟩) :: (nat_lit 3,⟨.type "dict",none,.dict #[en P "__name__" 165 (.str "law_penwright_k25_pieces_and_odd_points" 312),en P "__doc__" 166 (.none),en P "__package__" 167 (.none),en P "__loader__" 168 (.builtin "__main__.__loader__#opaque"),en P "__spec__" 169 (.none),en P "__annotations__" 170 (.ref 6),en P "__builtins__" 171 (.ref 4),en P "__file__" 173 (.str "/claim/cut.py" 172),en P "__cached__" 174 (.none),en P "PenError" 206 (.ref 24),en P "NoPicture" 222 (.ref 37),en P "WAYS" 227 (.ref 40),en P "check_picture" 236 (.ref 47),en P "check_stroke" 243 (.ref 54),en P "ends_of" 250 (.ref 61),en P "picture_pieces" 263 (.ref 68),en P "strokes_at" 273 (.ref 75),en P "piece_with" 286 (.ref 82),en P "take_unseen" 292 (.ref 87),en P "odd_points" 298 (.ref 92),en P "trails_needed" 304 (.ref 97),en P "trails_of_piece_needed" 311 (.ref 104),en P "_law_cell_at" 321 (.ref 111),en P "_law_whole" 328 (.ref 118),en P "_law_state" 337 (.ref 125),en P "_law_choice" 347 (.ref 132),en P "_law_picture" 360 (.ref 139),en P "_law_dense" 371 (.ref 146),en P "_law_ends" 381 (.ref 153),en P "_law_from_ends" 391 (.ref 160),en P "_law_points" 402 (.ref 167),en P "_law_pieces" 408 (.ref 172),en P "_law_odd_points" 414 (.ref 177),en P "_law_needed" 420 (.ref 182),en P "_law_is_picture" 426 (.ref 187),en P "law" 432 (.ref 192)] 36,#[]⟩) :: (nat_lit 15,tO [.type "ValueError"]) :: (nat_lit 22,tO []) :: (nat_lit 23,⟨.type "dict",none,.dict #[en P "__module__" 196 (.str "penwright.errors" 187),en P "__firstlineno__" 200 (.int 2 199),en P "__static_attributes__" 201 (.ref 22),en P "__weakref__" 203 (.ref 25),en P "__doc__" 204 (.none)] 3,#[]⟩) :: (nat_lit 24,⟨.type "type",none,.cls ⟨"PenError",[.type "ValueError"],[.ref 24,.type "ValueError",.type "Exception",.type "BaseException",.type "object"],23, "PenError",true,[],[.ref 37],false,none,false⟩,#[some (.ref 15),none,some (.str "PenError" 189),some (.str "PenError" 197),some (.builtin "ValueError.__new__"),some (.bool true)]⟩) :: (nat_lit 25,⟨.type "getset_descriptor",none,.fields #[.str "__weakref__" 202,.ref 24,.builtin "ExceptionGroup.__weakref__",.none],#[]⟩) :: (nat_lit 28,tO [.ref 24]) :: (nat_lit 35,tO []) :: (nat_lit 36,⟨.type "dict",none,.dict #[en P "__module__" 214 (.str "penwright.errors" 187),en P "__firstlineno__" 218 (.int 4 217),en P "__static_attributes__" 219 (.ref 35),en P "__doc__" 220 (.none)] 2,#[]⟩) :: (nat_lit 37,⟨.type "type",none,.cls ⟨"NoPicture",[.ref 24],[.ref 37,.ref 24,.type "ValueError",.type "Exception",.type "BaseException",.type "object"],36, "NoPicture",true,[],[],false,none,false⟩,#[some (.ref 28),none,some (.str "NoPicture" 207),some (.str "NoPicture" 215),some (.builtin "ValueError.__new__"),some (.bool true)]⟩) :: (nat_lit 40,tO [.int 0 225,.int 1 226]) :: (nat_lit 46,co "check_picture" 228 "check_picture" 229 230 [8,1,0,0,3] [.ref 41,vb,vi,.ref 42,.none,.ref 43,.ref 44,.ref 45] 234 8 235) :: (nat_lit 47,fo "check_picture" "check_picture" vg1 (.str "penwright.pictures" 223) (.ref 46)) :: (nat_lit 53,co "check_stroke" 237 "check_stroke" 238 239 [14,1,0,0,3] [.ref 48,vb,vi,.ref 49,.none,.ref 50,.ref 51,.ref 52] 241 14 242) :: (nat_lit 54,fo "check_stroke" "check_stroke" wg1 (.str "penwright.pictures" 223) (.ref 53)) :: (nat_lit 60,co "ends_of" 244 "ends_of" 245 246 [17,1,0,0,3] [.ref 55,vb,vi,.ref 56,.none,.ref 57,.ref 58,.ref 59] 248 17 249) :: (nat_lit 61,fo "ends_of" "ends_of" zg1 (.str "penwright.pictures" 223) (.ref 60)) :: (nat_lit 67,co "picture_pieces" 253 "picture_pieces" 254 255 [22,1,0,0,3] [.ref 62,vb,vi,.ref 63,.none,.ref 64,.ref 65,.ref 66] 261 22 262) :: (nat_lit 68,fo "picture_pieces" "picture_pieces" xg1 (.str "penwright.trails" 251) (.ref 67)) :: (nat_lit 74,co "strokes_at" 264 "strokes_at" 265 266 [31,1,0,0,3] [.ref 69,vb,vi,.ref 70,.none,.ref 71,.ref 72,.ref 73] 271 31 272) :: (nat_lit 75,fo "strokes_at" "strokes_at" tf1 (.str "penwright.trails" 251) (.ref 74)) :: (nat_lit 81,co "piece_with" 274 "piece_with" 275 276 [37,3,0,0,3] [.ref 76,vb,vi,.ref 77,.none,.ref 78,.ref 79,.ref 80] 284 37 285) :: (nat_lit 82,fo "piece_with" "piece_with" sf1 (.str "penwright.trails" 251) (.ref 81)) :: (nat_lit 86,co "take_unseen" 287 "take_unseen" 288 289 [47,2,0,0,3] [.ref 83,vb,vi,.ref 84,.none,.none,.none,.ref 85] 290 47 291) :: (nat_lit 87,fo "take_unseen" "take_unseen" uf1 (.str "penwright.trails" 251) (.ref 86)) :: (nat_lit 91,co "odd_points" 293 "odd_points" 294 295 [52,1,0,0,3] [.ref 88,vb,vi,.ref 89,.none,.none,.none,.ref 90] 296 52 297) :: (nat_lit 92,fo "odd_points" "odd_points" yg1 (.str "penwright.trails" 251) (.ref 91)) :: (nat_lit 96,co "trails_needed" 299 "trails_needed" 300 301 [56,1,0,0,3] [.ref 93,vb,vi,.ref 94,.none,.none,.none,.ref 95] 302 56 303) :: (nat_lit 97,fo "trails_needed" "trails_needed" vf1 (.str "penwright.trails" 251) (.ref 96)) :: (nat_lit 103,co "trails_of_piece_needed" 305 "trails_of_piece_needed" 306 307 [58,1,0,0,3] [.ref 98,vb,vi,.ref 99,.none,.ref 100,.ref 101,.ref 102] 309 58 310) :: (nat_lit 104,fo "trails_of_piece_needed" "trails_of_piece_needed" wf1 (.str "penwright.trails" 251) (.ref 103)) :: (nat_lit 110,co "_law_cell_at" 314 "_law_cell_at" 315 316 [61,2,0,0,3] [.ref 105,vb,vi,.ref 106,.none,.ref 107,.ref 108,.ref 109] 319 61 320) :: (nat_lit 111,fo "_law_cell_at" "_law_cell_at" s_q0 (.str "law_penwright_k25_pieces_and_odd_points" 312) (.ref 110)) :: (nat_lit 117,co "_law_whole" 322 "_law_whole" 323 324 [65,1,0,0,3] [.ref 112,vb,vi,.ref 113,.none,.ref 114,.ref 115,.ref 116] 326 65 327) :: (nat_lit 118,fo "_law_whole" "_law_whole" ug1 (.str "law_penwright_k25_pieces_and_odd_points" 312) (.ref 117)) :: (nat_lit 124,co "_law_state" 329 "_law_state" 330 331 [67,2,0,0,3] [.ref 119,vb,vi,.ref 120,.none,.ref 121,.ref 122,.ref 123] 335 67 336) :: (nat_lit 125,fo "_law_state" "_law_state" tg1 (.str "law_penwright_k25_pieces_and_odd_points" 312) (.ref 124)) :: (nat_lit 131,co "_law_choice" 338 "_law_choice" 339 340 [72,2,0,0,3] [.ref 126,vb,vi,.ref 127,.none,.ref 128,.ref 129,.ref 130] 345 72 346) :: (nat_lit 132,fo "_law_choice" "_law_choice" s_q1 (.str "law_penwright_k25_pieces_and_odd_points" 312) (.ref 131)) :: (nat_lit 138,co "_law_picture" 348 "_law_picture" 349 350 [81,2,0,0,3] [.ref 133,vb,vi,.ref 134,.none,.ref 135,.ref 136,.ref 137] 358 81 359) :: (nat_lit 139,fo "_law_picture" "_law_picture" s_q8 (.str "law_penwright_k25_pieces_and_odd_points" 312) (.ref 138)) :: (nat_lit 145,co "_law_dense" 361 "_law_dense" 362 363 [93,2,0,0,3] [.ref 140,vb,vi,.ref 141,.none,.ref 142,.ref 143,.ref 144] 369 93 370) :: (nat_lit 146,fo "_law_dense" "_law_dense" s_q2 (.str "law_penwright_k25_pieces_and_odd_points" 312) (.ref 145)) :: (nat_lit 152,co "_law_ends" 372 "_law_ends" 373 374 [99,1,0,0,3] [.ref 147,vb,vi,.ref 148,.none,.ref 149,.ref 150,.ref 151] 379 99 380) :: (nat_lit 153,fo "_law_ends" "_law_ends" s_q3 (.str "law_penwright_k25_pieces_and_odd_points" 312) (.ref 152)) :: (nat_lit 166,co "_law_points" 392 "_law_points" 393 394 [106,1,0,0,3] [.ref 161,vb,vi,.ref 162,.none,.ref 163,.ref 164,.ref 165] 400 106 401) :: (nat_lit 167,fo "_law_points" "_law_points" sg1 (.str "law_penwright_k25_pieces_and_odd_points" 312) (.ref 166)) :: (nat_lit 171,co "_law_pieces" 403 "_law_pieces" 404 405 [113,1,0,0,3] [.ref 168,vb,vi,.ref 169,.none,.none,.none,.ref 170] 406 113 407) :: (nat_lit 172,fo "_law_pieces" "_law_pieces" s_q9 (.str "law_penwright_k25_pieces_and_odd_points" 312) (.ref 171)) :: (nat_lit 176,co "_law_odd_points" 409 "_law_odd_points" 410 411 [130,1,0,0,3] [.ref 173,vb,vi,.ref 174,.none,.none,.none,.ref 175] 412 130 413) :: (nat_lit 177,fo "_law_odd_points" "_law_odd_points" s_q7 (.str "law_penwright_k25_pieces_and_odd_points" 312) (.ref 176)) :: (nat_lit 181,co "_law_needed" 415 "_law_needed" 416 417 [133,1,0,0,3] [.ref 178,vb,vi,.ref 179,.none,.none,.none,.ref 180] 418 133 419) :: (nat_lit 182,fo "_law_needed" "_law_needed" s_q6 (.str "law_penwright_k25_pieces_and_odd_points" 312) (.ref 181)) :: (nat_lit 186,co "_law_is_picture" 421 "_law_is_picture" 422 423 [135,2,0,0,3] [.ref 183,vb,vi,.ref 184,.none,.none,.none,.ref 185] 424 135 425) :: (nat_lit 187,fo "_law_is_picture" "_law_is_picture" s_q5 (.str "law_penwright_k25_pieces_and_odd_points" 312) (.ref 186)) :: (nat_lit 191,co "law" 427 "law" 428 429 [142,1,0,0,3] [.ref 188,vb,vi,.ref 189,.none,.none,.none,.ref 190] 430 142 431) :: (nat_lit 192,fo "law" "law" yp0 (.str "law_penwright_k25_pieces_and_odd_points" 312) (.ref 191)) :: []
noncomputable def KA:List Addr:=[2,3,15,22,23,24,25,28,35,36,37,40,46,47,53,54,60,61,67,68,74,75,81,82,86,87,91,92,96,97,103,104,110,111,117,118,124,125,131,132,138,139,145,146,152,153,166,167,171,172,176,177,181,182,186,187,191,192]
theorem ke:∀ P,KA=(KK P).map (·.1):=λ _=>by kernel_rfl
noncomputable def vw:Program:={ PySem.Challenge.pw_penwright_k25_pieces_and_odd_points with main:={ PySem.Challenge.pw_penwright_k25_pieces_and_odd_points.main with body:=[top 1,top 2,top 4,top 5,top 6,top 7,top 9,top 10,top 11,top 12,top 13,top 14,top 15,top 17,top 18,top 19,top 20,top 21,top 22,top 23,top 24,top 25,top 26,top 27,top 28,top 29,top 30] } }
theorem h_said:PySem.Challenge.rw_penwright_k25_pieces_and_odd_points.wellSaid=true:=by kernel_rfl
theorem h_left:PySem.W.LeftO (PySem.W.OpenLaw.row PySem.Challenge.rw_penwright_k25_pieces_and_odd_points).prog vw [] (λ s=>PySem.W.xlAt vw [] s && PySem.W.recOk (PySem.W.RowW.records (PySem.W.OpenRow.toRowW (PySem.W.OpenLaw.row PySem.Challenge.rw_penwright_k25_pieces_and_odd_points))) s) (PySem.W.Hook.obs (PySem.W.kHook KK KA ke)) (PySem.W.Hook.val (PySem.W.kHook KK KA ke)) 2446:=by
 intro w
 delta PySem.W.openEnds PySem.W.fencedOpening PySem.W.topFrom
 rw [PySem.W.Fast.te14082659384304107361,PySem.W.Fast.te10274390034422433532,PySem.W.Fast.te14289696077712309145,PySem.W.Fast.te1435165496053646825,PySem.W.Fast.te14364793385576792824,PySem.W.Fast.te4187177175401517315]
 kernel_rfl
end Pv
namespace L2
open PySem PySem.Spec PyProof.Rows
noncomputable abbrev Key:=Sum Int Str
noncomputable def yi1:Key->Value->Bool
 | .inl k,v=>Value.isInt k v
 | .inr x,v=>Value.isStrOf x v
noncomputable def keyH (w:World):Key->Int
 | .inl k=>hashInt k
 | .inr x=>hashStr w x
theorem wd0:∀ {k:Key} {v:Value},yi1 k v=true->(∃ i t,k=Sum.inl i /\ v=Value.int i t) \/ (∃ x t,k=Sum.inr x /\ v=Value.str x t)
 | .inl i,v,h=>by
  obtain ⟨t,e⟩:=Value.isInt_shape (k:=i) (v:=v) h
  exact .inl ⟨i,t,rfl,e⟩
 | .inr x,v,h=>by
  obtain ⟨t,e⟩:=Value.isStrOf_shape (x:=x) (v:=v) h
  exact .inr ⟨x,t,rfl,e⟩
theorem tq1 (i:Int) (t:Tok):yi1 (.inl i) (.int i t)=true:=by simp [yi1,Value.isInt]
theorem uq1 (x:Str) (t:Tok):yi1 (.inr x) (.str x t)=true:=by simp [yi1,Value.isStrOf]
theorem xk3 (a b:Int):decide ((Sum.inl a:Key)=Sum.inl b)=(a == b):=by
 by_cases e:a=b
 ·subst e; simp
 ·have h:¬ (Sum.inl a:Key)=Sum.inl b:=λ q=>e (Sum.inl.inj q)
  rw [decide_eq_false h]
  exact (beq_eq_false_iff_ne.mpr e).symm
theorem uj3 (a b:Str):decide ((Sum.inr a:Key)=Sum.inr b)=decide (a=b):=by
 by_cases e:a=b
 ·subst e; simp
 ·have h:¬ (Sum.inr a:Key)=Sum.inr b:=λ q=>e (Sum.inr.inj q)
  rw [decide_eq_false h,decide_eq_false e]
theorem sj3 (a:Int) (b:Str):decide ((Sum.inl a:Key)=Sum.inr b)=false:=decide_eq_false (λ q=>nomatch q)
theorem tj3 (a:Str) (b:Int):decide ((Sum.inr a:Key)=Sum.inl b)=false:=decide_eq_false (λ q=>nomatch q)
noncomputable def xe0 (prog:Program) (w:World):PySem.KeyKind prog w Key where
 is:=yi1
 hash:=keyH w
 inj:=λ v a b ha hb=>by
  rcases wd0 ha with ⟨i,t,rfl,rfl⟩ | ⟨x,t,rfl,rfl⟩
  ·rcases wd0 hb with ⟨j,u,rfl,e⟩ | ⟨y,u,rfl,e⟩
   ·injection e with e1 _; rw [e1]
   ·exact nomatch e
  ·rcases wd0 hb with ⟨j,u,rfl,e⟩ | ⟨y,u,rfl,e⟩
   ·exact nomatch e
   ·injection e with e1 _; rw [e1]
 byValue:=λ k v h=>by
  rcases wd0 h with ⟨i,t,rfl,rfl⟩ | ⟨x,t,rfl,rfl⟩ <;> rfl
 pyHash:=λ hv h=>by
  rcases wd0 hv with ⟨i,t,rfl,rfl⟩ | ⟨x,t,rfl,rfl⟩
  ·exact wpAny_pyHash_int h
  ·exact wpAny_pyHash_str h
 eqBool:=λ hu hv h=>by
  rcases wd0 hu with ⟨i,t,rfl,rfl⟩ | ⟨x,t,rfl,rfl⟩
  ·rcases wd0 hv with ⟨j,u,rfl,rfl⟩ | ⟨y,u,rfl,rfl⟩
   ·rw [xk3] at h; exact wpAny_eqBool_int h
   ·rw [sj3] at h; exact SeqAt.EqAt.int_str i t y u _ _ _ _ h
  ·rcases wd0 hv with ⟨j,u,rfl,rfl⟩ | ⟨y,u,rfl,rfl⟩
   ·rw [tj3] at h; exact SeqAt.EqAt.str_int x t j u _ _ _ _ h
   ·rw [uj3] at h; exact wpAny_eqBool_str h
 «strs» := λ k x t v h=>by
  rcases wd0 h with ⟨i,u,rfl,e⟩ | ⟨y,u,rfl,e⟩
  ·exact nomatch e
  ·injection e with e1 _
   subst e1
   cases v <;> rfl
theorem wy0 (prog:Program) (w:World) (i:Int) (t:Tok):(xe0 prog w).is (.inl i) (.int i t)=true:=tq1 i t
theorem zy0 (prog:Program) (w:World) (x:Str) (t:Tok):(xe0 prog w).is (.inr x) (.str x t)=true:=uq1 x t
end L2
namespace L2
open PySem PySem.Spec PyProof.Rows
inductive V where
 | non | bl (b:Bool) | int (i:Int) | str (x:Str) | byt (b:Array UInt8) | flt (b:UInt64) | ref (a:Addr) | ty (n:String)
 deriving DecidableEq
noncomputable def RelV:V->Value->Prop
 | .non,u=>u=Value.none
 | .bl b,u=>u=Value.bool b
 | .int i,u=>∃ t,u=Value.int i t
 | .str x,u=>∃ t,u=Value.str x t
 | .byt b,u=>∃ t,u=Value.bytes b t
 | .flt b,u=>∃ t,u=Value.float b t
 | .ref a,u=>u=Value.ref a
 | .ty n,u=>u=Value.type n
noncomputable abbrev Vals:List V->List Value->Prop:=Paired RelV
theorem Vals.length {xs:List V} {us:List Value} (r:Vals xs us):xs.length=us.length:=Paired.length r
theorem Vals.get:∀ {xs:List V} {us:List Value} {i:Nat} {x:V},Vals xs us->xs[i]?=some x->∃ u,us[i]?=some u /\ RelV x u
 | _,_,_,_,.nil,e=>by simp at e
 | _,_,0,_,.cons r _,e=>by simp at e; subst e; exact ⟨_,rfl,r⟩
 | _,_,i + 1,x,.cons _ t,e=>by
  obtain ⟨u,h1,h2⟩:=Vals.get (i:=i) (x:=x) t (by simpa using e)
  exact ⟨u,by simpa using h1,h2⟩
theorem Vals.set {x:V} {u:Value} (r:RelV x u):∀ {xs:List V} {us:List Value} (i:Nat),Vals xs us->Vals (xs.set i x) (us.set i u)
 | _,_,_,.nil=>.nil
 | _,_,0,.cons _ t=>.cons r t
 | _,_,i + 1,.cons q t=>.cons q (Vals.set r i t)
theorem Vals.append:∀ {xs ys:List V} {us ws:List Value},Vals xs us->Vals ys ws->Vals (xs ++ ys) (us ++ ws)
 | _,_,_,_,.nil,s=>s
 | _,_,_,_,.cons r t,s=>.cons r (Vals.append t s)
theorem Vals.take:∀ {xs:List V} {us:List Value} (n:Nat),Vals xs us->Vals (xs.take n) (us.take n)
 | _,_,0,_=>.nil
 | _,_,_ + 1,.nil=>.nil
 | _,_,n + 1,.cons r t=>.cons r (Vals.take n t)
theorem Vals.drop:∀ {xs:List V} {us:List Value} (n:Nat),Vals xs us->Vals (xs.drop n) (us.drop n)
 | _,_,0,r=>r
 | _,_,_ + 1,.nil=>.nil
 | _,_,n + 1,.cons _ t=>Vals.drop n t
noncomputable def RelO:Option V->Option Value->Prop
 | some v,some u=>RelV v u
 | none,none=>True
 | _,_=>False
noncomputable def KV {κ:Type}:List (κ × V)->List (κ × Value)->Prop:=Paired λ (p:κ × V) (q:κ × Value)=>p.1=q.1 /\ RelV p.2 q.2
noncomputable def kV:Key->V
 | .inl i=>.int i
 | .inr x=>.str x
inductive HO where
 | lst (xs:List V)
 | tup (xs:List V)
 | dK (kvs:List (Key × V)) | dT (kvs:List (List Key × V))
 | set (S:Int->Bool) (n:Nat)
 | ins (C dx:Addr) (fs:List (Str × V))
 | own (x:Addr)
 | xd (fs:List (Str × V))
 | met (f x:Addr)
 | rng (lo hi:Int)
 | frz (o:Obj) (u:HO)
 | tbl (ps:Array Value)
 | ext (φ:Heap->Prop)
noncomputable abbrev Hp:=Addr->Option HO
noncomputable def upd (H:Hp) (a:Addr) (o:HO):Hp:=λ b=>if b=a then some o else H b
theorem zd0 {H:Hp} {a:Addr} {o:HO}:upd H a o a=some o:=by unfold upd; rw [if_pos rfl]
theorem wb0 {H:Hp} {a b:Addr} {o:HO} (h:b ≠ a):upd H a o b=H b:=by unfold upd; rw [if_neg h]
theorem wh1 {H:Hp} {a b:Addr} {o u:HO} (h:H a=some o) (h':H b=some u) (d:o ≠ u):a ≠ b:=by
 intro e; subst e; rw [h] at h'; exact d (Option.some.inj h')
theorem ue0 {H:Hp} {a b:Addr} {o:HO} (h:H a=some o) (h':H b=none):a ≠ b:=by
 intro e; subst e; rw [h] at h'; cases h'
section
variable (P:Program) (w:World)
noncomputable def ObjOk (H:Hp) (h:Heap) (a:Addr):HO->Prop
 | .lst xs=>xs.length<=sizeLine /\ ∃ (its:List Value) (n:Nat),Vals xs its /\ h.get? a=some { cls:=.type "list",data:=.seq its.toArray n }
 | .tup xs=>xs.length<=sizeLine /\ ∃ its:List Value,Vals xs its /\ IsTup h a its.toArray
 | .dK kvs=>kvs.length<=sizeLine /\ (a == sysModules)=false /\ ∃ vs,KV kvs vs /\ h.DictOf (xe0 P w) a vs
 | .dT kvs=>kvs.length<=sizeLine /\ (a == sysModules)=false /\ ∃ xs:List (List Key × Addr × Value),
     Paired (λ (p:List Key × V) (q:List Key × Addr × Value)=>p.1=q.1 /\ H q.2.1=some (.tup (p.1.map kV)) /\ RelV p.2 q.2.2) kvs xs ∧
     ∃ o es ep,h.get? a=some o /\ o.ExactDict /\ o.data=.dict es ep /\ es.toList=xs.map (entryOfKey (tupleKind (xe0 P w))) /\ (xs.map (·.1)).Nodup /\ ep=kvs.length
 | .set S n=>h.SetOf (intKind P w) a S n
 | .ins C dx fs=>H dx=some (.own a) /\ fs.length<=1000 /\ dx ≠ a /\ h.get? a=some (PySem.W.instObj C dx) ∧
     ∃ mA,h.Ns1 dx mA /\ (∀ f,RelO (fs.lookup f) (mA f)) /\ PySem.Within mA (fs.map (·.1))
 | .own _=>∃ o,h.get? a=some o
 | .xd fs=>∃ mA,h.Ns1 a mA /\ ∀ f,RelO (fs.lookup f) (mA f)
 | .rng lo hi=>∃ t u v,h.get? a=some { cls:=.type "range",data:=.fields #[.int lo t,.int hi u,.int 1 v] }
 | .frz o u=>h.get? a=some o /\ ObjOk H h a u
 | .tbl ps=>h.get? a=some { cls:=.none,data:=.fields ps }
 | .met f x=>h.get? a=some (PySem.W.methodObj (.ref f) (.ref x))
 | .ext φ=>φ h /\ (∃ o,h.get? a=some o) /\ ∀ h1 h2:Heap,φ h1->(∀ o,h1.get? a=some o->h2.get? a=some o)->φ h2
noncomputable def HOk (H:Hp) (h:Heap):Prop:=∀ a o,H a=some o->ObjOk P w H h a o
end
section
variable {P:Program} {w:World} {H H':Hp} {h h':Heap} {a:Addr} {o:HO}
theorem ObjOk.lt (x:ObjOk P w H h a o):a < h.objs.size:=by
 cases o with
 | lst xs=>obtain ⟨_,_,_,_,e⟩:=x; exact Heap.lt_size e
 | tup xs=>obtain ⟨_,_,_,p⟩:=x; exact p.lt
 | dK kvs=>obtain ⟨_,_,_,_,o,_,_,e,_⟩:=x; exact Heap.lt_size e
 | dT kvs=>obtain ⟨_,_,_,_,o,_,_,e,_⟩:=x; exact Heap.lt_size e
 | set S n=>obtain ⟨o,_,_,_,e,_⟩:=x; exact Heap.lt_size e
 | ins C dx fs=>obtain ⟨_,_,_,e,_⟩:=x; exact Heap.lt_size e
 | own y=>obtain ⟨_,e⟩:=x; exact Heap.lt_size e
 | xd fs=>obtain ⟨_,⟨_,_,_,e,_⟩,_⟩:=x; exact Heap.lt_size e
 | rng lo hi=>obtain ⟨_,_,_,e⟩:=x; exact Heap.lt_size e
 | frz ob u=>obtain ⟨e,_⟩:=x; exact Heap.lt_size e
 | tbl ps=>exact Heap.lt_size (show h.get? a=some _ from x)
 | met f y=>exact Heap.lt_size (show h.get? a=some _ from x)
 | ext φ=>obtain ⟨_,⟨_,e⟩,_⟩:=x; exact Heap.lt_size e
theorem Paired.mapP {α β:Type} {F G:α->β->Prop}:∀ {l₁:List α} {l₂:List β},Paired F l₁ l₂->(∀ a b,F a b->G a b)->Paired G l₁ l₂
 | _,_,.nil,_=>.nil
 | _,_,.cons r t,f=>.cons (f _ _ r) (Paired.mapP t f)
theorem ObjOk.stay (x:ObjOk P w H h a o) (k:∀ b u,(b=a \/ H b=some (.own a))->h.get? b=some u->h'.get? b=some u)
    (ho:∀ b,H b=some (.own a)->H' b=some (.own a)) (ht:∀ b xs,H b=some (.tup xs)->H' b=some (.tup xs)):ObjOk P w H' h' a o:=by
 induction o with
 | lst xs=>obtain ⟨z,its,n,r,e⟩:=x; exact ⟨z,its,n,r,k _ _ (.inl rfl) e⟩
 | tup xs=>obtain ⟨z,its,r,ob,e,c⟩:=x; exact ⟨z,its,r,ob,k _ _ (.inl rfl) e,c⟩
 | dK kvs=>obtain ⟨z,y,vs,r,ob,es,ep,e,c⟩:=x; exact ⟨z,y,vs,r,ob,es,ep,k _ _ (.inl rfl) e,c⟩
 | dT kvs =>
  obtain ⟨z,y,xs,r,ob,es,ep,e,c⟩:=x
  exact ⟨z,y,xs,Paired.mapP r λ p q z=>⟨z.1,ht _ _ z.2.1,z.2.2⟩,ob,es,ep,k _ _ (.inl rfl) e,c⟩
 | set S n=>obtain ⟨ob,es,ep,t,e,c⟩:=x; exact ⟨ob,es,ep,t,k _ _ (.inl rfl) e,c⟩
 | ins C dx fs =>
  obtain ⟨d,z,ne,e,mA,⟨od,es,ep,e2,c⟩,r⟩:=x
  exact ⟨ho _ d,z,ne,k _ _ (.inl rfl) e,mA,⟨od,es,ep,k _ _ (.inr d) e2,c⟩,r⟩
 | own y=>obtain ⟨ob,e⟩:=x; exact ⟨ob,k _ _ (.inl rfl) e⟩
 | xd fs=>obtain ⟨mA,⟨od,es,ep,e,c⟩,r⟩:=x; exact ⟨mA,⟨od,es,ep,k _ _ (.inl rfl) e,c⟩,r⟩
 | rng lo hi=>obtain ⟨t,u,v,e⟩:=x; exact ⟨t,u,v,k _ _ (.inl rfl) e⟩
 | frz ob u ih=>obtain ⟨e,q⟩:=x; exact ⟨k _ _ (.inl rfl) e,ih q⟩
 | tbl ps =>
  have e:h.get? a=some { cls:=.none,data:=.fields ps }:=x
  show h'.get? a=some { cls:=.none,data:=.fields ps }
  exact k a _ (.inl rfl) e
 | met f y =>
  have e:h.get? a=some (PySem.W.methodObj (.ref f) (.ref y)):=x
  show h'.get? a=some (PySem.W.methodObj (.ref f) (.ref y))
  exact k a _ (.inl rfl) e
 | ext φ=>obtain ⟨p,⟨o,e⟩,st⟩:=x; exact ⟨st _ _ p λ o q=>k _ _ (.inl rfl) q,⟨o,k _ _ (.inl rfl) e⟩,st⟩
theorem HOk.lt (x:HOk P w H h) (e:H a=some o):a < h.objs.size:=(x a o e).lt
theorem HOk.fresh (x:HOk P w H h) (e:h.objs.size<=a):H a=none:=by
 cases q:H a with
 | none=>rfl
 | some u=>exact absurd (Nat.lt_of_lt_of_le (x.lt q) e) (Nat.lt_irrefl _)
theorem HOk.kept (x:HOk P w H h) (k:∀ b u,h.get? b=some u->h'.get? b=some u):HOk P w H h':=λ a o e =>
 (x a o e).stay (λ b u _ q=>k b u q) (λ _ q=>q) λ _ _ q=>q
theorem HOk.laid (x:HOk P w H h) (k:∀ b u,h.get? b=some u->h'.get? b=some u) (hp:h.objs.size<=a) (new:ObjOk P w (upd H a o) h' a o):HOk P w (upd H a o) h':=λ b u e=>by
 have hn:=x.fresh hp
 by_cases hb:b=a
 ·subst hb; rw [zd0] at e; cases e; exact new
 ·rw [wb0 hb] at e
  exact (x b u e).stay (λ c v _ q=>k c v q) (λ c q=>by rw [wb0 (ue0 q hn)]; exact q) λ c xs q=>by rw [wb0 (ue0 q hn)]; exact q
end
noncomputable def Rd (H:Hp) (a:Addr) (u:HO):Prop:=H a=some u \/ ∃ o,H a=some (.frz o u)
theorem Rd.ok {P:Program} {w:World} {H:Hp} {h:Heap} {a:Addr} {u:HO} (r:Rd H a u) (x:HOk P w H h):ObjOk P w H h a u:=by
 rcases r with r | ⟨o,r⟩
 ·exact x a u r
 ·obtain ⟨_,q⟩:=x a _ r
  exact q
noncomputable def Mut:Option HO->Prop
 | some (.lst _)=>True
 | some (.dK _)=>True
 | some (.dT _)=>True
 | some (.set _ _)=>True
 | some (.ins _ _ _)=>True
 | some (.ext _)=>True
 | _=>False
section
variable {P:Program} {w:World} {H:Hp} {h h':Heap} {x e:Addr} {o':HO}
theorem HOk.write (ok:HOk P w H h) (mu:Mut (H x)) (he:e=x \/ H e=some (.own x)) (k:∀ b u,b ≠ e->h.get? b=some u->h'.get? b=some u) (heo:∃ u,h'.get? e=some u)
    (new:ObjOk P w (upd H x o') h' x o'):HOk P w (upd H x o') h':=λ b u q=>by
 have nown:∀ c y,H c=some (.own y)->c ≠ x:=λ c y r z=>by subst z; rw [r] at mu; exact mu
 have ntup:∀ c xs,H c=some (.tup xs)->c ≠ x:=λ c xs r z=>by subst z; rw [r] at mu; exact mu
 by_cases hb:b=x
 ·subst hb; rw [zd0] at q; cases q; exact new
 ·rw [wb0 hb] at q
  by_cases hbe:b=e
  ·have q':H b=some (.own x):=by
     rcases he with z | z
     ·exact absurd (hbe.trans z) hb
     ·rw [hbe]; exact z
   rw [q] at q'; cases q'
   obtain ⟨v,hv⟩:=heo
   exact ⟨v,by rw [hbe]; exact hv⟩
  ·refine (ok b u q).stay (λ c v hc r=>k c v ?_ r) (λ c r=>by rw [wb0 (nown c b r)]; exact r) λ c xs r=>by rw [wb0 (ntup c xs r)]; exact r
   rcases hc with rfl | hc
   ·exact hbe
   ·rintro rfl
    rcases he with z | z
    ·exact nown c b hc z
    ·rw [hc] at z; cases z; exact hb rfl
end
structure Un (fs ex:List Addr) (H H':Hp) (h h':Heap):Prop where
 keep:∀ b o,h.get? b=some o->H b=none->b ∉ fs->b ∉ ex->h'.get? b=some o
 slot:∀ b o,h.get? b=some o->H b=none->b ∈ fs->b ∉ ex->∃ sl,h'.get? b=some { o with slots:=sl }
 free:∀ b o,h.get? b=some o->H b=none->b ∉ ex->H' b=none
 there:∀ b o,h.get? b=some o->b ∉ ex->∃ o',h'.get? b=some o'
 tups:∀ b xs,H b=some (.tup xs)->H' b=some (.tup xs)
 frzs:∀ b o u,H b=some (.frz o u)->H' b=some (.frz o u)
 tbls:∀ b ps,H b=some (.tbl ps)->∃ more,H' b=some (.tbl (ps ++ more))
section
variable {fs fs' ex ex':List Addr} {H H1 H2:Hp} {h h1 h2 h':Heap} {a x e:Addr} {o:HO}
theorem Un.any (u:Un fs ex H H1 h h1) {b:Addr} {ob:Obj} (q:h.get? b=some ob) (n:H b=none) (hx:b ∉ ex):∃ sl,h1.get? b=some { ob with slots:=sl }:=by
 by_cases hb:b ∈ fs
 ·exact u.slot b ob q n hb hx
 ·exact ⟨ob.slots,u.keep b ob q n hb hx⟩
theorem Un.kept (k:∀ b u,h.get? b=some u->h'.get? b=some u):Un fs ex H H h h' :=
 ⟨λ b ob q _ _ _=>k b ob q,λ b ob q _ _ _=>⟨ob.slots,k b ob q⟩,λ _ _ _ n _=>n,λ b ob q _=>⟨ob,k b ob q⟩,λ _ _ q=>q,λ _ _ _ q=>q,λ _ ps q=>⟨#[],by rw [q]; simp⟩⟩
theorem Un.refl:Un fs ex H H h h:=Un.kept λ _ _ q=>q
theorem Un.laid (k:∀ b u,h.get? b=some u->h'.get? b=some u) (hp:h.objs.size<=a) (hn:H a=none):Un fs ex H (upd H a o) h h' where
 keep:=λ b u q _ _ _=>k b u q
 slot:=λ b u q _ _ _=>⟨u.slots,k b u q⟩
 free:=λ b u q n _=>by rw [wb0 (Nat.ne_of_lt (Nat.lt_of_lt_of_le (Heap.lt_size q) hp))]; exact n
 there:=λ b u q _=>⟨u,k b u q⟩
 tups:=λ b xs q=>by rw [wb0 (ue0 q hn)]; exact q
 frzs:=λ b u xs q=>by rw [wb0 (ue0 q hn)]; exact q
 tbls:=λ b ps q=>⟨#[],by rw [wb0 (ue0 q hn),q]; simp⟩
theorem Un.write (mu:Mut (H x)) (he:e=x \/ H e=some (.own x)) (k:∀ b u,b ≠ e->h.get? b=some u->h'.get? b=some u) (heo:∃ u,h'.get? e=some u):Un fs ex H (upd H x o) h h':=by
 have hx:∀ b,H b=none->b ≠ x:=λ b n z=>by subst z; rw [n] at mu; exact mu
 have hb:∀ b,H b=none->b ≠ e:=λ b n z=>by
  subst z
  rcases he with r | r
  ·exact hx b n r
  ·rw [n] at r; cases r
 have hm:∀ b u,H b=some u->¬ Mut (some u)->b ≠ x:=λ b u q nm z=>by subst z; rw [q] at mu; exact nm mu
 refine ⟨λ b u q n _ _=>k b u (hb b n) q,λ b u q n _ _=>⟨u.slots,k b u (hb b n) q⟩,λ b u q n _=>by rw [wb0 (hx b n)]; exact n,λ b u q _=>?_,
  λ b xs q=>by rw [wb0 (hm b _ q λ z=>z)]; exact q,λ b u xs q=>by rw [wb0 (hm b _ q λ z=>z)]; exact q,λ b ps q=>⟨#[],by rw [wb0 (hm b _ q λ z=>z),q]; simp⟩⟩
 by_cases hbe:b=e
 ·subst hbe; exact heo
 ·exact ⟨u,k b u hbe q⟩
end
noncomputable def trk (h:Heap) (H:Hp):List Addr:=(List.range h.objs.size).filter λ a=>(H a).isSome
noncomputable def hidT (h:Heap) (H:Hp):Heap:=PySem.W.hideAll h (trk h H)
theorem vr1 (h:Heap) (H:Hp):(hidT h H).objs.size=h.objs.size:=PySem.W.hideAll_size _ _
theorem xc2 {h:Heap} {H:Hp} {b:Addr} {o:Obj} (e:h.get? b=some o) (n:H b=none):(hidT h H).get? b=some o :=
 PySem.W.hideAll_get _ e λ hm=>by
  have q:(H b).isSome=true:=(List.mem_filter.mp hm).2
  rw [n] at q; simp at q
theorem uo2 {h:Heap} {H:Hp} {b:Addr} {o:Obj} (e:(hidT h H).get? b=some o):h.get? b=some o /\ H b=none:=by
 have e':h.get? b=some o:=PySem.W.of_hideAll (trk h H) e
 refine ⟨e',?_⟩
 cases q:H b with
 | none=>rfl
 | some x =>
  have hm:b ∈ trk h H:=List.mem_filter.mpr ⟨List.mem_range.mpr (Heap.lt_size e'),by simp [q]⟩
  have z:(hidT h H).get? b=none:=PySem.W.hideAll_none (trk h H) hm
  rw [z] at e; cases e
noncomputable def ur2 (g h:Heap) (L:Addr):List (Addr × Obj):=(List.range h.objs.size).filterMap λ a=>if a=L \/ (g.get? a).isSome=true then none else (h.get? a).map λ o=>(a,o)
noncomputable def rest (g h:Heap) (L d:Addr):List (Addr × Obj):=(ur2 g h L).filter λ p=>decide (p.1 ≠ d)
end L2
namespace L2
open PySem PySem.Spec PyProof.Rows
structure Mod (K:PySem.W.Frag) (mg:Str->Option Value) (base:Heap):Prop where
 kin:K.In base
 glob:base.Ns mainGlobals mg
 blt:∃ mb,base.Ns builtinsNs mb /\ ∀ x:Str,x ≠ "__name__" -> mb x=bootBuiltins x
 nolimit:base.NoLimit
structure Cx where
 prog:Program
 w:World
 K:PySem.W.Frag
 mg:Str->Option Value
 base:Heap
 A:Around
 N:List Str
 s₀:Shared
 H₀:Hp
 env:Env
 outer:List Env
 stack:List Env
 ex:List Addr
 fn:Str->Bool
 calm:Bool
 pn:List (Addr × Obj)
 xe:Value->Shared->Prop
noncomputable def frs (l:List Env):List Addr:=l.filterMap (·.frame)
noncomputable abbrev Cx.fs (X:Cx):List Addr:=frs X.outer
noncomputable def Vis (sc:Scope) (x:Str):Prop:=sc.names.lookup x=some .local \/ sc.names.lookup x=some .cell \/ sc.names.lookup x=some .free
noncomputable def Loc (sc:Scope) (x:Str):Prop:=sc.names.lookup x=some .local \/ sc.names.lookup x=some .cell
noncomputable def Look (env:Env) (h:Heap) (m:Str->Option Value) (x:Str) (u:Value):Prop :=
 (env.kindOf x=some .local /\ m x=some u) \/ ((env.kindOf x=some .cell \/ env.kindOf x=some .free) /\ ∃ c,env.cells.lookup x=some c /\ h.IsCell c (some u))
structure Cx.Ok (X:Cx):Prop where
 mod:Mod X.K X.mg X.base
 kind:X.env.scope.kind=.function
 glob:X.env.globals=mainGlobals
 blt:X.env.builtins=builtinsNs
 above:X.s₀.heap.objs.size<=X.env.locals
 inj:∀ x y c,X.env.cells.lookup x=some c->X.env.cells.lookup y=some c->x=y
 has:∀ x,(X.env.kindOf x=some .cell \/ X.env.kindOf x=some .free)->∃ c,X.env.cells.lookup x=some c
 cab:∀ x c,X.fn x=true->X.env.cells.lookup x=some c->X.s₀.heap.objs.size<=c
 hd:X.calm=true->X.A.handled=none
 frames:X.A.frames=some X.stack
 stk:X.stack=X.outer \/ (X.stack=X.env :: X.outer /\ X.env.frame=some X.env.locals)
 exf:∀ b ∈ X.ex,b ≠ X.env.locals /\ ∀ x c,X.env.cells.lookup x=some c->c ≠ b
 bs:∀ b o,X.base.get? b=some o->X.s₀.heap.get? b=some o /\ X.H₀ b=none
 bsz:X.base.objs.size<=X.s₀.heap.objs.size
 noex:∀ b o,X.base.get? b=some o->b ∉ X.ex
 exfs:∀ b ∈ X.ex,b ∉ X.fs
 funs:X.s₀.heap.FunFrames X.base X.outer
 frf:∀ b ∈ X.fs,X.H₀ b=none
structure Inv (X:Cx) (pins:List (Addr × Obj)) (σ:List (Option V)) (H:Hp) (s:Shared):Prop where
 ok:X.Ok
 os:s.os=X.s₀.os
 bare:AllBare s.gens
 base:Un X.fs X.ex X.H₀ H X.s₀.heap s.heap
 loc:∃ m,s.heap.Ns X.env.locals m /\ ∀ (i:Nat) (x:Str) (v:V),X.N[i]?=some x->σ[i]?=some (some v)->Vis X.env.scope x->∃ u,RelV v u /\ Look X.env s.heap m x u
 cell:∀ x c,X.env.cells.lookup x=some c->∃ v,s.heap.IsCell c v
 free:H X.env.locals=none
 freeC:∀ x c,X.env.cells.lookup x=some c->H c=none
 pin:∀ p ∈ X.pn ++ pins,s.heap.get? p.1=some p.2 /\ H p.1=none /\ p.1 ≠ X.env.locals /\ p.1 ∉ X.fs /\ ∀ v,p.2.data ≠ .cell v
 hok:HOk X.prog X.w H s.heap
 len:σ.length=X.N.length
section
variable {X:Cx} {pins:List (Addr × Obj)} {σ:List (Option V)} {H H':Hp} {s:Shared} {h':Heap}
theorem Cx.Ok.nofr (ok:X.Ok) {b:Addr} {o:Obj} (e:X.base.get? b=some o):b ∉ X.fs:=λ hb=>by
 have:=(ok.funs.mem hb).1
 rw [e] at this; cases this
theorem Inv.bs (I:Inv X pins σ H s):∀ b o,X.base.get? b=some o->s.heap.get? b=some o /\ H b=none:=λ b o e =>
 ⟨I.base.keep b o (I.ok.bs b o e).1 (I.ok.bs b o e).2 (I.ok.nofr e) (I.ok.noex b o e),I.base.free b o (I.ok.bs b o e).1 (I.ok.bs b o e).2 (I.ok.noex b o e)⟩
theorem Inv.bk (I:Inv X pins σ H s):∀ b o,X.base.get? b=some o->s.heap.get? b=some o:=λ b o e=>(I.bs b o e).1
theorem Inv.mod (I:Inv X pins σ H s):Mod X.K X.mg X.base:=I.ok.mod
theorem Inv.kIn (I:Inv X pins σ H s):X.K.In s.heap:=I.ok.mod.kin.keeps I.bk
theorem Inv.lt (I:Inv X pins σ H s):X.env.locals < s.heap.objs.size:=let ⟨_,hn,_⟩:=I.loc; hn.lt
theorem Inv.sz (I:Inv X pins σ H s):X.s₀.heap.objs.size<=s.heap.objs.size:=Nat.le_trans I.ok.above (Nat.le_of_lt I.lt)
theorem Inv.nofs (I:Inv X pins σ H s) {a:Addr} (h:s.heap.objs.size<=a):a ∉ X.fs:=λ hb=>by
 obtain ⟨_,o,ho,_⟩:=I.ok.funs.mem hb
 exact absurd (Nat.lt_of_lt_of_le (Heap.lt_size ho) (Nat.le_trans I.sz h)) (Nat.lt_irrefl _)
theorem Inv.cne (I:Inv X pins σ H s):∀ x c,X.env.cells.lookup x=some c->c ≠ X.env.locals:=λ x c e z=>by
 obtain ⟨v,o,ho,hd⟩:=I.cell x c e
 obtain ⟨m,⟨o',es,ep,ho',hd',_⟩,_⟩:=I.loc
 rw [z,ho'] at ho; cases ho; rw [hd'] at hd; cases hd
theorem Inv.funs (I:Inv X pins σ H s):s.heap.FunFrames X.base X.outer:=by
 have all:∀ (l:List Env),(∀ b ∈ frs l,b ∈ X.fs)->X.s₀.heap.FunFrames X.base l->s.heap.FunFrames X.base l:=by
  intro l
  induction l with
  | nil=>intro _ _; trivial
  | cons env r ih =>
   intro hs hl
   obtain ⟨hk,⟨L,o,hf,hn,ho,hd⟩,hr⟩:=hl
   have hL:L ∈ X.fs:=hs L (by unfold frs; rw [List.filterMap_cons,hf]; exact List.mem_cons_self)
   obtain ⟨sl,e⟩:=I.base.slot L o ho (I.ok.frf L hL) hL λ z=>I.ok.exfs L z hL
   exact ⟨hk,⟨L,_,hf,hn,e,hd⟩,ih (λ b hb=>hs b (by unfold frs; rw [List.filterMap_cons,hf]; exact List.mem_cons_of_mem _ hb)) hr⟩
 exact all X.outer (λ _ hb=>hb) I.ok.funs
theorem Inv.stack (I:Inv X pins σ H s):s.heap.FunFrames X.base X.stack:=by
 rcases I.ok.stk with e | ⟨e,hf⟩
 ·rw [e]; exact I.funs
 ·rw [e]
  obtain ⟨m,hn,_⟩:=I.loc
  refine .cons (by rw [I.ok.kind]; decide) hf hn ?_ I.funs
  exact Heap.get?_none_of_le (Nat.le_trans I.ok.bsz I.ok.above)
theorem Inv.stkSub (I:Inv X pins σ H s):∀ b ∈ frs X.stack,b ∈ X.env.locals :: X.fs:=λ b hb=>by
 rcases I.ok.stk with e | ⟨e,hf⟩
 ·rw [e] at hb; exact List.mem_cons_of_mem _ hb
 ·rw [e] at hb
  unfold frs at hb
  rw [List.filterMap_cons,hf] at hb
  exact hb
theorem Inv.stkFree (I:Inv X pins σ H s):∀ b ∈ frs X.stack,H b=none:=λ b hb=>by
 rcases List.mem_cons.mp (I.stkSub b hb) with e | hb
 ·rw [e]; exact I.free
 ·obtain ⟨_,o,ho,_⟩:=I.ok.funs.mem hb
  exact I.base.free b o ho (I.ok.frf b hb) λ z=>I.ok.exfs b z hb
theorem Inv.step {g':Array GenState} {t':Nat} {d':Drawn} {ch:List Addr} (I:Inv X pins σ H s)
    (hch:∀ b ∈ ch,(b ∈ X.ex \/ X.s₀.heap.objs.size<=b) /\ b ≠ X.env.locals /\ (∀ x c,X.env.cells.lookup x=some c->c ≠ b) /\ ∀ p ∈ X.pn ++ pins,p.1 ≠ b)
    (keep:∀ b o,b ≠ X.env.locals->b ∉ X.fs->b ∉ ch->s.heap.get? b=some o->H b=none->h'.get? b=some o)
    (slot:∀ b o,b ≠ X.env.locals->b ∈ X.fs->b ∉ ch->s.heap.get? b=some o->H b=none->∃ sl,h'.get? b=some { o with slots:=sl }) (free:∀ b o,b ∉ ch->s.heap.get? b=some o->H b=none->H' b=none)
    (there:∀ b o,b ∉ ch->s.heap.get? b=some o->∃ o',h'.get? b=some o')
    (tups:∀ b xs,H b=some (.tup xs)->H' b=some (.tup xs)) (frzs:∀ b o u,H b=some (.frz o u)->H' b=some (.frz o u)) (tbls:∀ b ps,H b=some (.tbl ps)->∃ more,H' b=some (.tbl (ps ++ more)))
    (ns:∀ m,s.heap.Ns X.env.locals m->h'.Ns X.env.locals m) (hok:HOk X.prog X.w H' h') (hg:AllBare g') :
    Inv X pins σ H' { s with heap:=h',gens:=g',drawn:=d',toks:=t' }:=by
 have neL:∀ b o,X.s₀.heap.get? b=some o->b ≠ X.env.locals:=λ b o e=>Nat.ne_of_lt (Nat.lt_of_lt_of_le (Heap.lt_size e) I.ok.above)
 have neC:∀ b o,X.s₀.heap.get? b=some o->b ∉ X.ex->b ∉ ch:=λ b o e hx hb=>by
  rcases (hch b hb).1 with z | z
  ·exact hx z
  ·exact absurd (Nat.lt_of_lt_of_le (Heap.lt_size e) z) (Nat.lt_irrefl _)
 have cellK:∀ x c,X.env.cells.lookup x=some c->∀ v,s.heap.IsCell c v->h'.IsCell c v:=λ x c e v ⟨o,ho,hd⟩=>by
  have nch:c ∉ ch:=λ z=>(hch c z).2.2.1 x c e rfl
  by_cases hc:c ∈ X.fs
  ·obtain ⟨sl,q⟩:=slot c o (I.cne x c e) hc nch ho (I.freeC x c e)
   exact ⟨_,q,hd⟩
  ·exact ⟨o,keep c o (I.cne x c e) hc nch ho (I.freeC x c e),hd⟩
 refine ⟨I.ok,I.os,hg,⟨λ b o e n hb hx=>?_,λ b o e n hb hx=>?_,λ b o e n hx=>?_,λ b o e hx=>?_,λ b xs e=>tups b xs (I.base.tups b xs e),λ b o xs e=>frzs b o xs (I.base.frzs b o xs e),λ b ps e=>?_⟩,?_,λ x c e=>?_,?_,λ x c e=>?_,λ p hp=>?_,hok,I.len⟩
 ·exact keep b o (neL b o e) hb (neC b o e hx) (I.base.keep b o e n hb hx) (I.base.free b o e n hx)
 ·obtain ⟨sl,e1⟩:=I.base.slot b o e n hb hx
  obtain ⟨sl',e2⟩:=slot b _ (neL b o e) hb (neC b o e hx) e1 (I.base.free b o e n hx)
  exact ⟨sl',e2⟩
 ·obtain ⟨o',e1⟩:=I.base.there b o e hx
  exact free b o' (neC b o e hx) e1 (I.base.free b o e n hx)
 ·obtain ⟨o',e1⟩:=I.base.there b o e hx
  exact there b o' (neC b o e hx) e1
 ·obtain ⟨m1,e1⟩:=I.base.tbls b ps e
  obtain ⟨m2,e2⟩:=tbls b _ e1
  exact ⟨m1 ++ m2,by rw [e2,Array.append_assoc]⟩
 ·obtain ⟨m,hn,hl⟩:=I.loc
  refine ⟨m,ns m hn,λ i x v e1 e2 e3=>?_⟩
  obtain ⟨u,r,l⟩:=hl i x v e1 e2 e3
  refine ⟨u,r,?_⟩
  rcases l with l | ⟨k,c,e,z⟩
  ·exact .inl l
  ·exact .inr ⟨k,c,e,cellK x c e _ z⟩
 ·obtain ⟨v,z⟩:=I.cell x c e
  exact ⟨v,cellK x c e v z⟩
 ·obtain ⟨m,⟨o,_,_,ho,_⟩,_⟩:=I.loc
  exact free _ o (λ z=>(hch _ z).2.1 rfl) ho I.free
 ·obtain ⟨v,o,ho,hd⟩:=I.cell x c e
  exact free c o (λ z=>(hch c z).2.2.1 x c e rfl) ho (I.freeC x c e)
 ·obtain ⟨e,n,ne,nf,d⟩:=I.pin p hp
  have nch:p.1 ∉ ch:=λ z=>(hch p.1 z).2.2.2 p hp rfl
  exact ⟨keep p.1 p.2 ne nf nch e n,free p.1 p.2 nch e n,ne,nf,d⟩
theorem Inv.un {t':Nat} (I:Inv X pins σ H s) (u:Un X.fs [] H H' s.heap h') (hok:HOk X.prog X.w H' h'):Inv X pins σ H' { s with heap:=h',toks:=t' }:=by
 obtain ⟨m,⟨o,es,ep,ho,r⟩,_⟩:=id I.loc
 obtain ⟨sl,hL⟩:=u.any ho I.free (by simp)
 exact I.step (g':=s.gens) (d':=s.drawn) (ch:=[]) (λ _ z=>nomatch z) (λ b o _ hb _ e n=>u.keep b o e n hb (by simp)) (λ b o _ hb _ e n=>u.slot b o e n hb (by simp)) (λ b o _ e n=>u.free b o e n (by simp)) (λ b o _ e=>u.there b o e (by simp)) u.tups u.frzs u.tbls (λ m' hm=>by
  obtain ⟨o',es',ep',ho',r'⟩:=hm
  rw [ho] at ho'; cases ho'
  exact ⟨_,es',ep',hL,r'⟩) hok I.bare
theorem Inv.call {g':Array GenState} {t':Nat} {d':Drawn} {ch:List Addr} (I:Inv X pins σ H s) (u:Un (frs X.stack) ch H H' s.heap h') (hok:HOk X.prog X.w H' h') (hg:AllBare g')
    (hch:∀ b ∈ ch,(b ∈ X.ex \/ X.s₀.heap.objs.size<=b) /\ b ≠ X.env.locals /\ (∀ x c,X.env.cells.lookup x=some c->c ≠ b) /\ ∀ p ∈ X.pn ++ pins,p.1 ≠ b) :
    Inv X pins σ H' { s with heap:=h',gens:=g',drawn:=d',toks:=t' }:=by
 obtain ⟨m,⟨o,es,ep,ho,r⟩,_⟩:=id I.loc
 obtain ⟨sl,hL⟩:=u.any ho I.free λ z=>(hch _ z).2.1 rfl
 exact I.step (ch:=ch) hch (λ b o hL hb hc e n=>u.keep b o e n (λ z=>(List.mem_cons.mp (I.stkSub b z)).elim hL hb) hc) (λ b o _ _ hc e n=>u.any e n hc) (λ b o hc e n=>u.free b o e n hc) (λ b o hc e=>u.there b o e hc) u.tups u.frzs u.tbls (λ m' hm=>by
  obtain ⟨o',es',ep',ho',r'⟩:=hm
  rw [ho] at ho'; cases ho'
  exact ⟨_,es',ep',hL,r'⟩) hok hg
theorem Inv.turned {t':Nat} {it:Addr} (I:Inv X pins σ H s) (k:∀ b o,b ≠ it->s.heap.get? b=some o->h'.get? b=some o) (hn:H it=none) (hL:it ≠ X.env.locals)
    (h1:it ∈ X.ex \/ X.s₀.heap.objs.size<=it) (h2:∀ x c,X.env.cells.lookup x=some c->c ≠ it) (h3:∀ p ∈ X.pn ++ pins,p.1 ≠ it):Inv X pins σ H { s with heap:=h',toks:=t' }:=by
 have nit:∀ b u,H b=some u->b ≠ it:=λ b u e z=>by rw [z,hn] at e; cases e
 refine I.step (g':=s.gens) (d':=s.drawn) (ch:=[it]) (λ b hb=>?_) (λ b o _ _ hc e _=>k b o (λ z=>hc (by simp [z])) e) (λ b o _ _ hc e _=>⟨o.slots,k b o (λ z=>hc (by simp [z])) e⟩) (λ _ _ _ _ n=>n)
  (λ b o hc e=>⟨o,k b o (λ z=>hc (by simp [z])) e⟩) (λ _ _ e=>e) (λ _ _ _ e=>e) (λ b ps e=>⟨#[],by rw [e]; simp⟩) (λ m hm=>?_) (λ b u e=>?_) I.bare
 ·have e:b=it:=by simpa using hb
  subst e
  exact ⟨h1,hL,h2,h3⟩
 ·obtain ⟨o,es,ep,ho,r⟩:=hm
  exact ⟨o,es,ep,k _ o (Ne.symm hL) ho,r⟩
 ·refine (I.hok b u e).stay (λ c v hc q=>k c v ?_ q) (λ _ q=>q) λ _ _ q=>q
  rcases hc with z | z
  ·rw [z]; exact nit b u e
  ·exact nit c _ z
theorem Inv.tok (I:Inv X pins σ H s) (t:Nat):Inv X pins σ H { s with toks:=t }:=I.un (h':=s.heap) (t':=t) Un.refl I.hok
theorem Inv.kept {t':Nat} (I:Inv X pins σ H s) (k:∀ b u,s.heap.get? b=some u->h'.get? b=some u):Inv X pins σ H { s with heap:=h',toks:=t' }:=I.un (Un.kept k) (I.hok.kept k)
theorem Inv.laid {a:Addr} {o:HO} {t':Nat} (I:Inv X pins σ H s) (k:∀ b u,s.heap.get? b=some u->h'.get? b=some u) (hp:s.heap.objs.size<=a) (new:ObjOk X.prog X.w (upd H a o) h' a o) :
    Inv X pins σ (upd H a o) { s with heap:=h',toks:=t' }:=I.un (Un.laid k hp (I.hok.fresh hp)) (I.hok.laid k hp new)
theorem Inv.write {x e:Addr} {o:HO} {t':Nat} (I:Inv X pins σ H s) (mu:Mut (H x)) (he:e=x \/ H e=some (.own x)) (k:∀ b u,b ≠ e->s.heap.get? b=some u->h'.get? b=some u) (heo:∃ u,h'.get? e=some u)
    (new:ObjOk X.prog X.w (upd H x o) h' x o):Inv X pins σ (upd H x o) { s with heap:=h',toks:=t' }:=I.un (Un.write mu he k heo) (I.hok.write mu he k heo new)
theorem Inv.pins_of {pins':List (Addr × Obj)} (I:Inv X pins σ H s) (h:∀ p ∈ pins',s.heap.get? p.1=some p.2 /\ H p.1=none /\ p.1 ≠ X.env.locals /\ p.1 ∉ X.fs /\ ∀ v,p.2.data ≠ .cell v):Inv X pins' σ H s :=
 ⟨I.ok,I.os,I.bare,I.base,I.loc,I.cell,I.free,I.freeC,λ p hp=>(List.mem_append.mp hp).elim (λ z=>I.pin p (List.mem_append_left _ z)) (h p),I.hok,I.len⟩
theorem uc1 {N:List Str} (hN:N.Nodup) {i j:Nat} {x:Str} (a:N[i]?=some x) (b:N[j]?=some x):i=j:=by
 obtain ⟨h1,e1⟩:=List.getElem?_eq_some_iff.mp a
 obtain ⟨h2,e2⟩:=List.getElem?_eq_some_iff.mp b
 exact (List.getElem_inj hN).mp (e1.trans e2.symm)
theorem wt0 {M:Model} {A:Around} {E:Value->Shared->Prop} {i:Nat} {x:Str} {v:V} {u:Value} {Q:Unit->Shared->Prop} (I:Inv X pins σ H s) (hN:X.N.Nodup) (hi:X.N[i]?=some x) (hx:Loc X.env.scope x) (r:RelV v u)
    (h:∀ s',Inv X pins (σ.set i (some v)) H s'->(∃ a,Heap.SameBut a s.heap s'.heap /\ (a=X.env.locals \/ X.env.cells.lookup x=some a))->Q () s') (hf:X.fn x=true \/ X.env.scope.names.lookup x=some .local:=by first | exact .inl rfl | exact .inr rfl | assumption):wpAny M A (storeName X.env x u) Q E s:=by
 obtain ⟨m,hn,hl⟩:=id I.loc
 have hcls:(X.env.scope.kind == .class || (X.env.scope.kind == .module && X.env.locals != X.env.globals))=false:=by rw [I.ok.kind]; rfl
 have hiσ:i < σ.length:=by rw [I.len]; exact (List.getElem?_eq_some_iff.mp hi).1
 have cne:=I.cne
 have tracked:∀ {a:Addr} {h':Heap},(∃ o,s.heap.get? a=some o /\ H a=none)->Heap.SameBut a s.heap h'->HOk X.prog X.w H h':=λ {a h'} ha hs b ob e=>by
  obtain ⟨_,_,hfree⟩:=ha
  refine (I.hok b ob e).stay (λ c w' hc q=>(hs.2 c ?_).trans q) (λ _ q=>q) λ _ _ q=>q
  rintro rfl
  rcases hc with rfl | hc
  ·rw [hfree] at e; cases e
  ·rw [hfree] at hc; cases hc
 rcases hx with hk | hk
 ·refine wpAny_storeName_local hk hn (λ h' hn' hs=>?_) hcls
  obtain ⟨oL,_,_,hoL,_⟩:=id hn
  refine h _ ⟨I.ok,I.os,I.bare,⟨λ b o e n hb hx=>?_,λ b o e n hb hx=>?_,I.base.free,λ b o e hx=>?_,I.base.tups,I.base.frzs,I.base.tbls⟩,⟨_,hn',λ j y v' e1 e2 e3=>?_⟩,λ y c e=>?_,I.free,I.freeC,λ p hp=>?_,tracked ⟨oL,hoL,I.free⟩ hs,by simpa using I.len⟩ ⟨_,hs,.inl rfl⟩
  ·exact (hs.2 b (Nat.ne_of_lt (Nat.lt_of_lt_of_le (Heap.lt_size e) I.ok.above))).trans (I.base.keep b o e n hb hx)
  ·obtain ⟨sl,e1⟩:=I.base.slot b o e n hb hx
   exact ⟨sl,(hs.2 b (Nat.ne_of_lt (Nat.lt_of_lt_of_le (Heap.lt_size e) I.ok.above))).trans e1⟩
  ·obtain ⟨o',e1⟩:=I.base.there b o e hx
   exact ⟨o',(hs.2 b (Nat.ne_of_lt (Nat.lt_of_lt_of_le (Heap.lt_size e) I.ok.above))).trans e1⟩
  ·by_cases hj:j=i
   ·subst hj
    rw [hi] at e1; cases e1
    rw [List.getElem?_set_self hiσ] at e2
    cases e2
    exact ⟨u,r,.inl ⟨hk,by simp⟩⟩
   ·rw [List.getElem?_set_ne (Ne.symm hj)] at e2
    obtain ⟨u',r',q⟩:=hl j y v' e1 e2 e3
    refine ⟨u',r',?_⟩
    rcases q with ⟨k,e⟩ | ⟨k,c,e,z⟩
    ·refine .inl ⟨k,?_⟩
     have:y ≠ x:=λ e=>hj (uc1 hN e1 (e ▸ hi))
     simp [this,e]
    ·exact .inr ⟨k,c,e,z.sameBut hs (cne y c e)⟩
  ·obtain ⟨w',z⟩:=I.cell y c e
   exact ⟨w',z.sameBut hs (cne y c e)⟩
  ·obtain ⟨e,n,ne,nf,d⟩:=I.pin p hp
   exact ⟨(hs.2 p.1 ne).trans e,n,ne,nf,d⟩
 ·have hfn:X.fn x=true:=by
    rcases hf with z | z
    ·exact z
    ·rw [z] at hk; cases hk
  obtain ⟨c,hc⟩:=I.ok.has x (.inl hk)
  obtain ⟨w',z⟩:=I.cell x c hc
  refine wpAny_storeName_cell I.ok.kind hk hc z (λ h' hc' hs=>?_)
  obtain ⟨oc,hoc,hocd⟩:=id z
  refine h { s with heap:=h' } ⟨I.ok,I.os,I.bare,⟨λ b o e n hb hx=>?_,λ b o e n hb hx=>?_,I.base.free,λ b o e hx=>?_,I.base.tups,I.base.frzs,I.base.tbls⟩,⟨m,hn.sameBut hs (Ne.symm (cne x c hc)),λ j y v' e1 e2 e3=>?_⟩,λ y c' e=>?_,I.free,I.freeC,λ p hp=>?_,tracked ⟨oc,hoc,I.freeC x c hc⟩ hs,by simpa using I.len⟩ ⟨c,hs,.inr hc⟩
  ·exact (hs.2 b (Nat.ne_of_lt (Nat.lt_of_lt_of_le (Heap.lt_size e) (I.ok.cab x c hfn hc)))).trans (I.base.keep b o e n hb hx)
  ·obtain ⟨sl,e1⟩:=I.base.slot b o e n hb hx
   exact ⟨sl,(hs.2 b (Nat.ne_of_lt (Nat.lt_of_lt_of_le (Heap.lt_size e) (I.ok.cab x c hfn hc)))).trans e1⟩
  ·obtain ⟨o',e1⟩:=I.base.there b o e hx
   exact ⟨o',(hs.2 b (Nat.ne_of_lt (Nat.lt_of_lt_of_le (Heap.lt_size e) (I.ok.cab x c hfn hc)))).trans e1⟩
  ·by_cases hj:j=i
   ·subst hj
    rw [hi] at e1; cases e1
    rw [List.getElem?_set_self hiσ] at e2
    cases e2
    exact ⟨u,r,.inr ⟨.inl hk,c,hc,hc'⟩⟩
   ·rw [List.getElem?_set_ne (Ne.symm hj)] at e2
    obtain ⟨u',r',q⟩:=hl j y v' e1 e2 e3
    refine ⟨u',r',?_⟩
    rcases q with q | ⟨k,c',e,z'⟩
    ·exact .inl q
    ·refine .inr ⟨k,c',e,z'.sameBut hs ?_⟩
     rintro rfl
     exact hj (uc1 hN e1 (I.ok.inj _ _ _ e hc ▸ hi))
  ·by_cases hcc:c'=c
   ·subst hcc; exact ⟨_,hc'⟩
   ·obtain ⟨w2,z2⟩:=I.cell y c' e
    exact ⟨w2,z2.sameBut hs hcc⟩
  ·obtain ⟨e,n,ne,nf,d⟩:=I.pin p hp
   refine ⟨(hs.2 p.1 ?_).trans e,n,ne,nf,d⟩
   intro q
   rw [q,hoc] at e
   have q':oc=p.2:=Option.some.inj e
   exact d w' (by rw [<- q']; exact hocd)
theorem ua1 {M:Model} {A:Around} {E:Value->Shared->Prop} {i:Nat} {x:Str} {v:V} {u:Value} {Q:Unit->Shared->Prop} (I:Inv X pins σ H s) (hN:X.N.Nodup) (hi:X.N[i]?=some x) (hx:Loc X.env.scope x) (r:RelV v u)
    (h:∀ s',Inv X pins (σ.set i (some v)) H s'->Q () s') (hf:X.fn x=true \/ X.env.scope.names.lookup x=some .local:=by first | exact .inl rfl | exact .inr rfl | assumption):wpAny M A (storeName X.env x u) Q E s :=
 wt0 I hN hi hx r (λ s' I' _=>h s' I') hf
theorem Inv.call' {s':Shared} {ch:List Addr} (I:Inv X pins σ H s) (ho:s'.os=s.os) (u:Un (frs X.stack) ch H H' s.heap s'.heap) (hok:HOk X.prog X.w H' s'.heap) (hg:AllBare s'.gens)
    (hch:∀ b ∈ ch,(b ∈ X.ex \/ X.s₀.heap.objs.size<=b) /\ b ≠ X.env.locals /\ (∀ x c,X.env.cells.lookup x=some c->c ≠ b) /\ ∀ p ∈ X.pn ++ pins,p.1 ≠ b):Inv X pins σ H' s':=by
 obtain ⟨h',g',d',t',o'⟩:=s'
 have e:o'=s.os:=ho
 subst e
 exact I.call (g':=g') (t':=t') (d':=d') u hok hg hch
end
noncomputable abbrev XK:=Value->Option Addr->Hp->Prop
noncomputable abbrev St:=List (Option V)
noncomputable abbrev VK:=V->Hp->Prop
noncomputable abbrev TE:=St->Hp->VK->Prop
noncomputable abbrev TT:=St->Hp->(Bool->Hp->Prop)->Prop
noncomputable abbrev TA:=St->Hp->(List V->Hp->Prop)->Prop
structure Ends where
 nx:St->Hp->Prop
 rt:VK
 bk:St->Hp->Prop:=λ _ _=>False
 ct:St->Hp->Prop:=λ _ _=>False
noncomputable abbrev TS:=Ends->St->Hp->Prop
noncomputable def EP (X:Cx) (pins:List (Addr × Obj)) (σ:St) (Q:VK) (u:Value) (s':Shared):Prop:=∃ v H',Inv X pins σ H' s' /\ RelV v u /\ Q v H'
noncomputable def TP (X:Cx) (pins:List (Addr × Obj)) (σ:St) (Q:Bool->Hp->Prop) (b:Bool) (s':Shared):Prop:=∃ H',Inv X pins σ H' s' /\ Q b H'
noncomputable def AP (X:Cx) (pins:List (Addr × Obj)) (σ:St) (Q:List V->Hp->Prop) (us:List Value) (s':Shared):Prop:=∃ vs H',Inv X pins σ H' s' /\ Vals vs us /\ Q vs H'
noncomputable def SP (X:Cx) (pins:List (Addr × Obj)) (D:Ends) (f:Flow) (s':Shared):Prop :=
 match f with
 | .next=>∃ σ' H',Inv X pins σ' H' s' /\ D.nx σ' H'
 | .brk=>∃ σ' H',Inv X pins σ' H' s' /\ D.bk σ' H'
 | .cont=>∃ σ' H',Inv X pins σ' H' s' /\ D.ct σ' H'
 | .ret u=>∃ v σ' H',Inv X pins σ' H' s' /\ RelV v u /\ D.rt v H'
noncomputable def PE (X:Cx) (e:Expr) (t:TE):Prop :=
 ∀ (pins:List (Addr × Obj)) (s:Shared) (σ:St) (H:Hp) (Q:VK),Inv X pins σ H s->t σ H Q->wpAny (model X.prog X.w) X.A (eval e X.env) (EP X pins σ Q) X.xe s
noncomputable def PT (X:Cx) (e:Expr) (t:TT):Prop :=
 ∀ (pins:List (Addr × Obj)) (s:Shared) (σ:St) (H:Hp) (Q:Bool->Hp->Prop),Inv X pins σ H s->t σ H Q->wpAny (model X.prog X.w) X.A (isTrue e X.env (eval e X.env)) (TP X pins σ Q) X.xe s
noncomputable def PW (X:Cx) (e:Expr) (t:TT):Prop :=
 ∀ (whole:Sem Value) (pins:List (Addr × Obj)) (s:Shared) (σ:St) (H:Hp) (Q:Bool->Hp->Prop),Inv X pins σ H s->t σ H Q->wpAny (model X.prog X.w) X.A (isTrue e X.env whole) (TP X pins σ Q) X.xe s
theorem PW.pt {X:Cx} {e:Expr} {t:TT} (h:PW X e t):PT X e t:=h _
noncomputable def PA (X:Cx) (es:List Expr) (t:TA):Prop :=
 ∀ (pos:Pos) (pins:List (Addr × Obj)) (s:Shared) (σ:St) (H:Hp) (Q:List V->Hp->Prop),Inv X pins σ H s->t σ H Q->wpAny (model X.prog X.w) X.A (spliced (backTo pos (starEach es X.env))) (AP X pins σ Q) X.xe s
noncomputable def PS (X:Cx) (st:Stmt) (t:TS):Prop :=
 ∀ (pins:List (Addr × Obj)) (s:Shared) (σ:St) (H:Hp) (D:Ends),Inv X pins σ H s->t D σ H->wpAny (model X.prog X.w) X.A (exec st X.env) (SP X pins D) X.xe s
noncomputable def PSs (X:Cx) (st:List Stmt) (t:TS):Prop :=
 ∀ (pins:List (Addr × Obj)) (s:Shared) (σ:St) (H:Hp) (D:Ends),Inv X pins σ H s->t D σ H->wpAny (model X.prog X.w) X.A (execs st X.env) (SP X pins D) X.xe s
theorem thn {α:Type} {t:Sem α} {Q Q':α->Shared->Prop} {M:Model} {A:Around} {E:Value->Shared->Prop} {s:Shared} (h:wpAny M A t Q E s) (hQ:∀ a s,Q a s->Q' a s):wpAny M A t Q' E s:=wpAny_mono h hQ λ _ _ x=>x
end L2
namespace L2
open PySem PySem.Spec PyProof.Rows
section
variable {X:Cx}
noncomputable def tVar (i:Nat):TE:=λ σ H Q=>∃ v,σ[i]?=some (some v) /\ Q v H
noncomputable def tC (v:V):TE:=λ _ H Q=>Q v H
theorem uf2 {i:Nat} {x:Str} {pos:Pos} (hN:X.N[i]?=some x) (hv:Vis X.env.scope x) (hd:(x == ("__debug__" : Str))=false:=by decide) (hcd:(x == ("__classdict__" : Str))=false:=by decide):PE X (.Name x pos) (tVar i):=by
 intro pins s σ H Q I h
 obtain ⟨v,e,h⟩:=h
 obtain ⟨m,hn,hl⟩:=I.loc
 obtain ⟨u,r,l⟩:=hl i x v hN e hv
 have fin:EP X pins σ Q u s:=⟨v,H,I,r,h⟩
 rcases l with ⟨hk,hm⟩ | ⟨hk,c,hc,hcell⟩
 ·exact wpAny_Name (wpAny_loadName_local I.ok.kind hk hn hm fin) hd
 ·rcases hk with hk | hk
  ·exact wpAny_Name (wpAny_loadName_cell I.ok.kind hk hc hcell fin) hd
  ·exact wpAny_Name (wpAny_loadName_free I.ok.kind hk hc hcell fin hcd) hd
theorem ug3 {i j pos}:PE X (.Constant (.int i) j pos) (tC (.int i)):=λ _ _ _ H _ I h=>wpAny_Constant_int ⟨.int i,H,I.tok _,⟨_,rfl⟩,h⟩
theorem xu3 {b j pos}:PE X (.Constant (.bool b) j pos) (tC (.bl b)):=λ _ _ _ H _ I h=>Constant_bool ⟨.bl b,H,I,rfl,h⟩
noncomputable def Gl (X:Cx) (x:Str):Prop:=X.env.kindOf x=some .globalImplicit
theorem vq1 {E:Value->Shared->Prop} {pins:List (Addr × Obj)} {s:Shared} {σ:St} {H:Hp} {x:Str} {u:Value} {pos:Pos} {Q:Value->Shared->Prop} (I:Inv X pins σ H s) (hg:Gl X x) (hm:X.mg x=some u) (h:Q u s)
    (hd:(x == ("__debug__" : Str))=false:=by decide):wpAny (model X.prog X.w) X.A (eval (.Name x pos) X.env) Q E s :=
 Calls.Name_function_global I.ok.kind hg (Calls.loadGlobal_global (by rw [I.ok.glob]; exact I.mod.glob.keeps I.bk) hm h) hd
theorem yq0 {E:Value->Shared->Prop} {pins:List (Addr × Obj)} {s:Shared} {σ:St} {H:Hp} {x:Str} {u:Value} {pos:Pos} {Q:Value->Shared->Prop} (I:Inv X pins σ H s) (hg:Gl X x) (hm:X.mg x=none) (hv:bootBuiltins x=some u) (h:Q u s)
    (hn:x ≠ "__name__" := by decide) (hd:(x == ("__debug__" : Str))=false:=by decide):wpAny (model X.prog X.w) X.A (eval (.Name x pos) X.env) Q E s:=by
 obtain ⟨mb,h1,h2⟩:=I.mod.blt
 exact Calls.Name_function_global I.ok.kind hg (Calls.loadGlobal_builtin (by rw [I.ok.glob]; exact I.mod.glob.keeps I.bk) hm (by rw [I.ok.blt]; exact h1.keeps I.bk) ((h2 x hn).trans hv) h) hd
theorem zn2 {x:Str} {v:V} {u:Value} {pos:Pos} (hg:Gl X x) (hm:X.mg x=some u) (r:RelV v u) (hd:(x == ("__debug__" : Str))=false:=by decide):PE X (.Name x pos) (tC v) :=
 λ _ _ _ H _ I h=>vq1 I hg hm ⟨v,H,I,r,h⟩ hd
theorem xo2 {x:Str} {v:V} {u:Value} {pos:Pos} (hg:Gl X x) (hm:X.mg x=none) (hv:bootBuiltins x=some u) (r:RelV v u) (hn:x ≠ "__name__" := by decide) (hd:(x == ("__debug__" : Str))=false:=by decide):PE X (.Name x pos) (tC v) :=
 λ _ _ _ H _ I h=>yq0 I hg hm hv ⟨v,H,I,r,h⟩ hn hd
variable {a b:Expr} {ta tb:TE} {pos:Pos}
noncomputable def tB (t:TE):TT:=λ σ H Q=>t σ H λ x H1=>∃ c,x=.bl c /\ Q c H1
theorem ve3 {e:Expr} {t:TE} (h:PE X e t) (he:∀ whole,isTrue e X.env whole=(do let v <- whole; standAt e.pos; holding [v] (truthy v)):=by intro _; rfl):PT X e (tB t):=by
 intro pins s σ H Q I hw
 refine isTrue_plain (thn (h pins s σ H _ I hw) λ v s1 ⟨x,H1,I1,r1,q1⟩=>?_) (he _)
 obtain ⟨d,rfl,q⟩:=q1
 cases r1
 exact wpAny_truthy_bool ⟨H1,I1,q⟩
variable {tA tB':TT} {rest:List Expr}
noncomputable def tAnd (t u:TT):TT:=λ σ H Q=>t σ H λ c H1=>if c=true then u σ H1 Q else Q false H1
noncomputable def tOr (t u:TT):TT:=λ σ H Q=>t σ H λ c H1=>if c=true then Q true H1 else u σ H1 Q
noncomputable def tNot (t:TT):TT:=λ σ H Q=>t σ H λ c H1=>Q (!c) H1
theorem yl2 (ha:PT X a tA):PW X (.BoolOp .And [a] pos) tA:=by
 intro wh pins s σ H Q I h
 refine isTrue_and (thn (ha pins s σ H Q I h) λ c s1 e=>?_)
 cases c with
 | true=>exact isTrue_and_nil e
 | false=>exact e
theorem sd3 (ha:PT X a tA):PW X (.BoolOp .Or [a] pos) tA:=by
 intro wh pins s σ H Q I h
 refine isTrue_or (thn (ha pins s σ H Q I h) λ c s1 e=>?_)
 cases c with
 | false=>exact isTrue_or_nil e
 | true=>exact e
theorem xe3 (ha:PT X a tA) (hb:PW X (.BoolOp .And (b :: rest) pos) tB'):PW X (.BoolOp .And (a :: b :: rest) pos) (tAnd tA tB'):=by
 intro wh pins s σ H Q I h
 refine isTrue_and (thn (ha pins s σ H _ I h) λ c s1 ⟨H1,I1,q1⟩=>?_)
 cases c with
 | true=>exact hb wh pins s1 σ H1 Q I1 q1
 | false=>exact ⟨H1,I1,q1⟩
theorem xt3 (ha:PT X a tA) (hb:PW X (.BoolOp .Or (b :: rest) pos) tB'):PW X (.BoolOp .Or (a :: b :: rest) pos) (tOr tA tB'):=by
 intro wh pins s σ H Q I h
 refine isTrue_or (thn (ha pins s σ H _ I h) λ c s1 ⟨H1,I1,q1⟩=>?_)
 cases c with
 | true=>exact ⟨H1,I1,q1⟩
 | false=>exact hb wh pins s1 σ H1 Q I1 q1
theorem ue3 (ha:PT X a tA):PT X (.UnaryOp .Not a pos) (tNot tA):=by
 intro pins s σ H Q I h
 exact isTrue_not (ha pins s σ H (λ c H1=>Q (!c) H1) I h)
noncomputable def vo3 (ta tb:TE):TE:=λ σ H Q=>ta σ H λ x H1=>∃ c,x=.bl c /\ if c=true then tb σ H1 Q else Q (.bl false) H1
noncomputable def tn3 (ta:TE):TE:=λ σ H Q=>ta σ H λ x H1=>∃ c,x=.bl c /\ Q (.bl (!c)) H1
theorem zg3 {op} {t:TE} (h:PE X a t):PE X (.BoolOp op [a] pos) t:=λ pins s σ H Q I hw=>BoolOp_one (h pins s σ H Q I hw)
theorem tg3 (ha:PE X a ta) (hb:PE X (.BoolOp .And (b :: rest) pos) tb):PE X (.BoolOp .And (a :: b :: rest) pos) (vo3 ta tb):=by
 intro pins s σ H Q I h
 refine BoolOp_and (thn (ha pins s σ H _ I h) λ v s1 ⟨x,H1,I1,r1,q1⟩=>?_)
 obtain ⟨c,rfl,q1⟩:=q1
 cases r1
 refine wpAny_truthy_bool ?_
 cases c with
 | true=>exact hb pins s1 σ H1 Q I1 q1
 | false=>exact ⟨.bl false,H1,I1,rfl,q1⟩
theorem wg3 (ha:PE X a ta):PE X (.UnaryOp .Not a pos) (tn3 ta):=by
 intro pins s σ H Q I h
 refine UnaryOp_ (thn (ha pins s σ H _ I h) λ v s1 ⟨x,H1,I1,r1,q1⟩=>?_)
 obtain ⟨c,rfl,q1⟩:=q1
 cases r1
 exact not_of (wpAny_truthy_bool ⟨.bl (!c),H1,I1,rfl,q1⟩)
end
end L2
namespace L2
open PySem PySem.Spec PyProof.Rows
noncomputable def SqL (K:PySem.W.Frag) (H:Hp) (a:Addr) (xs:List V):Prop :=
 Rd H a (.lst xs) ∨
  ∃ (o:Obj) (its:Array Value) (n:Nat),K.lookup a=some o /\ o.cls=.type "list" /\ o.dict=none /\ o.data=.seq its n /\ its.size<=sizeLine /\ Vals xs its.toList
noncomputable def SqT (K:PySem.W.Frag) (H:Hp) (a:Addr) (xs:List V):Prop :=
 Rd H a (.tup xs) ∨
  ∃ (o:Obj) (its:Array Value) (n:Nat),K.lookup a=some o /\ o.cls=.type "tuple" /\ o.data=.seq its n /\ its.size<=sizeLine /\ Vals xs its.toList
noncomputable def absV:Value->Option V
 | .none=>some .non
 | .bool b=>some (.bl b)
 | .int i _=>some (.int i)
 | .str x _=>some (.str x)
 | .bytes b _=>some (.byt b)
 | .float b _=>some (.flt b)
 | .ref a=>some (.ref a)
 | .type n=>some (.ty n)
 | _=>none
theorem RelV.abs {x:V} {u:Value} (r:RelV x u):absV u=some x:=by
 cases x with
 | non=>cases r; rfl
 | bl _=>cases r; rfl
 | int _=>obtain ⟨t,rfl⟩:=r; rfl
 | str _=>obtain ⟨t,rfl⟩:=r; rfl
 | byt _=>obtain ⟨t,rfl⟩:=r; rfl
 | flt _=>obtain ⟨t,rfl⟩:=r; rfl
 | ref _=>cases r; rfl
 | ty _=>cases r; rfl
theorem RelV.inj {x y:V} {u:Value} (r:RelV x u) (q:RelV y u):x=y:=Option.some.inj (r.abs.symm.trans q.abs)
theorem Vals.inj:∀ {xs ys:List V} {us:List Value},Vals xs us->Vals ys us->xs=ys
 | _,_,_,.nil,.nil=>rfl
 | _,_,_,.cons r t,.cons r' t'=>by rw [r.inj r',Vals.inj t t']
section
variable {X:Cx} {pins:List (Addr × Obj)} {σ:St} {H:Hp} {s:Shared} {a:Addr} {xs ys:List V}
theorem SqL.of {K:PySem.W.Frag} (h:H a=some (.lst xs)):SqL K H a xs:=.inl (.inl h)
theorem SqT.of {K:PySem.W.Frag} (h:H a=some (.tup xs)):SqT K H a xs:=.inl (.inl h)
theorem Inv.list (I:Inv X pins σ H s) (h:SqL X.K H a xs):∃ its:List Value,Vals xs its /\ PlainL s.heap a its.toArray /\ xs.length<=sizeLine:=by
 rcases h with h | ⟨o,its,n,hk,hc,hd,hs,hz,r⟩
 ·obtain ⟨z,its,n,r,e⟩:=h.ok I.hok
  exact ⟨its,r,⟨_,n,e,rfl,rfl,rfl⟩,z⟩
 ·refine ⟨its.toList,r,⟨o,n,I.kIn a o hk,hc,hd,by simpa using hs⟩,?_⟩
  have e:=r.length
  simp only [Array.length_toList] at e
  omega
theorem Inv.tuple (I:Inv X pins σ H s) (h:SqT X.K H a xs):∃ its:List Value,Vals xs its /\ IsTup s.heap a its.toArray /\ xs.length<=sizeLine:=by
 rcases h with h | ⟨o,its,n,hk,hc,hs,hz,r⟩
 ·obtain ⟨z,its,r,p⟩:=h.ok I.hok
  exact ⟨its,r,p,z⟩
 ·refine ⟨its.toList,r,⟨o,I.kIn a o hk,hc,n,by simpa using hs⟩,?_⟩
  have e:=r.length
  simp only [Array.length_toList] at e
  omega
theorem Inv.list_inj (I:Inv X pins σ H s) (h:SqL X.K H a xs) (h':SqL X.K H a ys):xs=ys:=by
 obtain ⟨its,r,⟨o,n,e,_,_,d⟩,_⟩:=I.list h
 obtain ⟨its',r',⟨o',n',e',_,_,d'⟩,_⟩:=I.list h'
 rw [e] at e'; cases e'
 rw [d] at d'
 injection d' with d1 _
 have:its=its':=by simpa using congrArg Array.toList d1
 subst this
 exact r.inj r'
theorem Inv.tuple_inj (I:Inv X pins σ H s) (h:SqT X.K H a xs) (h':SqT X.K H a ys):xs=ys:=by
 obtain ⟨its,r,⟨o,e,_,n,d⟩,_⟩:=I.tuple h
 obtain ⟨its',r',⟨o',e',_,n',d'⟩,_⟩:=I.tuple h'
 rw [e] at e'; cases e'
 rw [d] at d'
 injection d' with d1 _
 have:its=its':=by simpa using congrArg Array.toList d1
 subst this
 exact r.inj r'
end
noncomputable abbrev Cx.wish (X:Cx) (E:Value->Shared->Prop):Cx:={ X with xe:=E }
noncomputable abbrev Cx.nox (X:Cx):Cx:=X.wish λ _ _=>False
theorem Cx.Ok.wish {X:Cx} (ok:X.Ok) (E:Value->Shared->Prop):(X.wish E).Ok :=
 ⟨ok.mod,ok.kind,ok.glob,ok.blt,ok.above,ok.inj,ok.has,ok.cab,ok.hd,ok.frames,ok.stk,ok.exf,ok.bs,ok.bsz,ok.noex,ok.exfs,ok.funs,ok.frf⟩
theorem Cx.Ok.unwish {X:Cx} {E:Value->Shared->Prop} (ok:(X.wish E).Ok):X.Ok :=
 ⟨ok.mod,ok.kind,ok.glob,ok.blt,ok.above,ok.inj,ok.has,ok.cab,ok.hd,ok.frames,ok.stk,ok.exf,ok.bs,ok.bsz,ok.noex,ok.exfs,ok.funs,ok.frf⟩
section
variable {X:Cx} {pins:List (Addr × Obj)} {σ:St} {H:Hp} {s:Shared} {E:Value->Shared->Prop}
theorem Inv.wish (I:Inv X pins σ H s) (E:Value->Shared->Prop):Inv (X.wish E) pins σ H s:=⟨I.ok.wish E,I.os,I.bare,I.base,I.loc,I.cell,I.free,I.freeC,I.pin,I.hok,I.len⟩
theorem Inv.unwish (I:Inv (X.wish E) pins σ H s):Inv X pins σ H s:=⟨I.ok.unwish,I.os,I.bare,I.base,I.loc,I.cell,I.free,I.freeC,I.pin,I.hok,I.len⟩
theorem SP.unwish {D:Ends} {f:Flow} {s':Shared} (h:SP (X.wish E) pins D f s'):SP X pins D f s':=by
 cases f with
 | next=>obtain ⟨σ',H',I,q⟩:=h; exact ⟨σ',H',I.unwish,q⟩
 | brk=>obtain ⟨σ',H',I,q⟩:=h; exact ⟨σ',H',I.unwish,q⟩
 | cont=>obtain ⟨σ',H',I,q⟩:=h; exact ⟨σ',H',I.unwish,q⟩
 | ret u=>obtain ⟨v,σ',H',I,r,q⟩:=h; exact ⟨v,σ',H',I.unwish,r,q⟩
theorem PSs.nox {st:List Stmt} {t:TS} (h:PSs X.nox st t):PSs X st t:=λ pins s σ H D I hw =>
 wpAny_mono (h pins s σ H D (I.wish _) hw) (λ _ _ q=>q.unwish) λ _ _ z=>False.elim z
end
section
variable {X:Cx} {st:Stmt} {rest:List Stmt} {t u:TS} {e:Expr} {te:TE} {pos:Pos}
noncomputable def sn3:TS:=λ D σ H=>D.nx σ H
noncomputable def tSeq (t u:TS):TS:=λ D σ H=>t { D with nx:=u D } σ H
theorem tl2:PSs X [] sn3:=λ _ _ σ H _ I h=>wpAny_execs_nil ⟨σ,H,I,h⟩
theorem uy1 (h1:PS X st t) (h2:PSs X rest u):PSs X (st :: rest) (tSeq t u):=by
 intro pins s σ H D I h
 refine wpAny_execs_cons (thn (h1 pins s σ H { D with nx:=u D } I h) λ f s1 q=>?_)
 cases f with
 | next =>
  obtain ⟨σ',H',I',q⟩:=q
  exact h2 pins s1 σ' H' D I' q
 | ret v=>exact q
 | brk=>exact q
 | cont=>exact q
theorem ul2 (h1:PS X st t):PSs X [st] t:=by
 intro pins s σ H D I h
 refine wpAny_execs_cons (thn (h1 pins s σ H D I h) λ f s1 q=>?_)
 cases f with
 | next=>exact wpAny_execs_nil q
 | ret v=>exact q
 | brk=>exact q
 | cont=>exact q
theorem Inv.quiet {pins:List (Addr × Obj)} {σ:St} {H:Hp} {s:Shared} (I:Inv X pins σ H s):interactive X.env=false:=by simp [interactive,I.ok.kind]
noncomputable def xo3 (te:TE):TS:=λ D σ H=>te σ H λ _ H1=>D.nx σ H1
theorem ym2 (he:PE X e te) (hs:swapsWith e none pos.line X.env=pure false:=by rfl):PS X (.Expr e pos) (xo3 te):=by
 intro pins s σ H D I h
 exact wpAny_Expr_any (thn (he pins s σ H _ I h) λ v s1 ⟨x,H1,I1,r1,q1⟩=>⟨σ,H1,I1,q1⟩) I.quiet hs
noncomputable def tRet (te:TE):TS:=λ D σ H=>te σ H D.rt
theorem xf3 (he:PE X e te):PS X (.Return (some e) pos) (tRet te):=by
 intro pins s σ H D I h
 exact wpAny_Return_some (thn (he pins s σ H _ I h) λ v s1 ⟨x,H1,I1,r1,q1⟩=>⟨x,σ,H1,I1,r1,q1⟩)
noncomputable def tIfS (c:TT) (t u:TS):TS:=λ D σ H=>c σ H λ b H1=>if b=true then t D σ H1 else u D σ H1
theorem yt3 {c:Expr} {a b:List Stmt} {tc:TT} (hc:PT X c tc) (ha:PSs X a t) (hb:PSs X b u):PS X (.If c a b pos) (tIfS tc t u):=by
 intro pins s σ H D I h
 refine wpAny_If (thn (hc pins s σ H _ I h) λ d s1 ⟨H1,I1,q1⟩=>?_)
 cases d with
 | true=>exact ha pins s1 σ H1 D I1 q1
 | false=>exact hb pins s1 σ H1 D I1 q1
noncomputable def vv2:TS:=λ _ _ _=>False
theorem sy1:PS X st vv2:=λ _ _ _ _ _ _ h=>h.elim
end
noncomputable abbrev TG:=V->St->Hp->(St->Hp->Prop)->Prop
noncomputable abbrev TGs:=List V->St->Hp->(St->Hp->Prop)->Prop
noncomputable def PG (X:Cx) (target:Expr) (t:TG):Prop :=
 ∀ (pins:List (Addr × Obj)) (s:Shared) (σ:St) (H:Hp) (v:V) (u:Value) (Q:St->Hp->Prop),Inv X pins σ H s->RelV v u->t v σ H Q ->
  wpAny (model X.prog X.w) X.A (assign target X.env u) (λ _ s'=>∃ σ' H',Inv X pins σ' H' s' /\ Q σ' H') X.xe s
noncomputable def PGs (X:Cx) (ts:List Expr) (t:TGs):Prop :=
 ∀ (pins:List (Addr × Obj)) (s:Shared) (σ:St) (H:Hp) (vs:List V) (us:List Value) (Q:St->Hp->Prop),Inv X pins σ H s->Vals vs us->t vs σ H Q ->
  wpAny (model X.prog X.w) X.A (assignInOrder ((assignEach ts X.env).map (·.2)) us) (λ _ s'=>∃ σ' H',Inv X pins σ' H' s' /\ Q σ' H') X.xe s
noncomputable abbrev TSet:=V->V->V->Hp->(Hp->Prop)->Prop
noncomputable def PSet (X:Cx) (t:TSet):Prop :=
 ∀ (pins:List (Addr × Obj)) (s:Shared) (σ:St) (H:Hp) (o i v:V) (ov iv u:Value) (Q:Hp->Prop),Inv X pins σ H s->RelV o ov->RelV i iv->RelV v u->t o i v H Q ->
  wpAny (model X.prog X.w) X.A (setItem ov iv u) (λ _ s'=>∃ H',Inv X pins σ H' s' /\ Q H') X.xe s
section
variable {X:Cx} {pos:Pos}
noncomputable def sp2 (i:Nat):TG:=λ v σ H Q=>Q (σ.set i (some v)) H
theorem yn2 {i:Nat} {x:Str} (hN:X.N.Nodup) (hi:X.N[i]?=some x) (hx:Loc X.env.scope x) (hf:X.fn x=true \/ X.env.scope.names.lookup x=some .local:=by first | exact .inl rfl | exact .inr rfl | assumption):PG X (.Name x pos) (sp2 i):=by
 intro pins s σ H v u Q I r h
 exact wpAny_assign_Name (ua1 I hN hi hx r (λ s' I'=>⟨_,H,I',h⟩) hf)
noncomputable def gNil:TGs:=λ vs σ H Q=>vs=[] /\ Q σ H
noncomputable def xw3 (t:TG) (u:TGs):TGs:=λ vs σ H Q=>∃ v r,vs=v :: r /\ t v σ H λ σ' H'=>u r σ' H' Q
theorem xn2:PGs X [] gNil:=by
 intro pins s σ H vs us Q I r h
 obtain ⟨e,h⟩:=h
 subst e
 cases r
 exact assignInOrder_nil ⟨σ,H,I,h⟩
theorem yz1 {e:Expr} {es:List Expr} {t:TG} {u:TGs} (h1:PG X e t) (h2:PGs X es u)
    (hs:(assignEach (e :: es) X.env).map (·.2)=assign e X.env :: (assignEach es X.env).map (·.2):=by rfl):PGs X (e :: es) (xw3 t u):=by
 intro pins s σ H vs us Q I r h
 obtain ⟨v,vr,e1,h⟩:=h
 subst e1
 cases r with
 | cons r rr =>
  rw [hs]
  refine assignInOrder_cons (thn (h1 pins s σ H _ _ _ I r h) λ _ s1 ⟨σ1,H1,I1,q1⟩=>?_)
  exact h2 pins s1 σ1 H1 _ _ Q I1 rr q1
noncomputable def gTup (K:PySem.W.Frag) (n:Nat) (t:TGs):TG:=λ v σ H Q=>∃ a xs,v=.ref a /\ SqT K H a xs /\ xs.length=n /\ t xs σ H Q
theorem xg3 {es:List Expr} {k:Nat} {t:TGs} {n:Nat} (hc:X.calm=true) (h:PGs X es t)
    (hn:(assignEach es X.env).length=n:=by rfl) (hst:(assignEach es X.env).findIdx? (·.1)=none:=by rfl):PG X (.Tuple es k pos) (gTup X.K n t):=by
 intro pins s σ H v u Q I r hw
 obtain ⟨a,xs,e1,hq,hl,hw⟩:=hw
 subst e1
 cases r
 obtain ⟨its,rv,ht,hz⟩:=I.tuple hq
 refine assign_Tuple_tuple (I.ok.hd hc) ht (by simp [hn,<- hl,rv.length]) hst λ h' hx=>?_
 have I1:Inv X pins σ H { s with heap:=h' }:=I.kept (t':=s.toks) λ b o e=>hx b o (Nat.ne_of_lt (Heap.lt_size e)) e
 exact h pins _ σ H xs _ Q I1 (by simpa using rv) hw
noncomputable def gSub (to ti:TE) (t:TSet):TG:=λ v σ H Q=>to σ H λ o H1=>ti σ H1 λ i H2=>t o i v H2 λ H3=>Q σ H3
theorem yg3 {o i:Expr} {to ti:TE} {t:TSet} (ho:PE X o to) (hi:PE X i ti) (hs:PSet X t)
    (ha:∀ v,assign (.Subscript o i pos) X.env v=(do
     let ov <- holding [v] (eval o X.env)
     let iv <- holding [v,ov] (eval i X.env)
     standAt pos
     holding [v,ov,iv] (setItem ov iv v)
     release [v,ov,iv] []):=by intro _; rfl):PG X (.Subscript o i pos) (gSub to ti t):=by
 intro pins s σ H v u Q I r h
 rw [ha]
 refine wpAny_bind (wpAny_holding (thn (ho pins s σ H _ I h) λ ov s1 ⟨x,H1,I1,r1,q1⟩=>?_))
 refine wpAny_bind (wpAny_holding (thn (hi pins s1 σ H1 _ I1 q1) λ iv s2 ⟨y,H2,I2,r2,q2⟩=>?_))
 refine wpAny_bind (wpAny_standAt (wpAny_bind (wpAny_holding (thn (hs pins s2 σ H2 x y v ov iv u _ I2 r1 r2 r q2) λ _ s3 ⟨H3,I3,q3⟩=>?_))))
 exact wpAny_release ⟨σ,H3,I3,q3⟩
noncomputable def tAsg (te:TE) (g:TG):TS:=λ D σ H=>te σ H λ x H1=>g x σ H1 D.nx
theorem zf3 {tg e:Expr} {te:TE} {g:TG} (he:PE X e te) (hg:PG X tg g) (hs:swapsWithSole [tg] e pos.line X.env=pure false:=by rfl) (hw:swappedStores [tg] e X.env=pure none:=by rfl)
    (h1:(assignEach [tg] X.env).map (·.2)=[assign tg X.env]:=by rfl):PS X (.Assign [tg] e pos) (tAsg te g):=by
 intro pins s σ H D I h
 refine wpAny_Assign_stores (thn (he pins s σ H _ I h) λ v s1 ⟨x,H1,I1,r1,q1⟩=>?_) hs hw
 rw [h1]
 exact thn (hg pins s1 σ H1 x v _ I1 r1 q1) λ _ s2 q=>q
theorem se3 {i:Nat} {x:Str} {e:Expr} {te:TE} {pos':Pos} (hN:X.N.Nodup) (hi:X.N[i]?=some x) (hx:Loc X.env.scope x) (he:PE X e te) (hs:swapsWith e (some (.Name x pos')) pos.line X.env=pure false:=by rfl) (hf:X.fn x=true \/ X.env.scope.names.lookup x=some .local:=by first | exact .inl rfl | exact .inr rfl | assumption) :
    PS X (.Assign [.Name x pos'] e pos) (tAsg te (sp2 i)):=by
 intro pins s σ H D I h
 refine wpAny_Assign_Name (thn (he pins s σ H _ I h) λ v s1 ⟨y,H1,I1,r1,q1⟩=>?_) hs
 exact ua1 I1 hN hi hx r1 (λ s2 I2=>⟨_,H1,I2,q1⟩) hf
end
section
variable {X:Cx} {pos:Pos}
noncomputable def zv2 (c:TT) (tb:TS):TS:=λ D σ H=>∃ W:Nat->St->Hp->Prop,(∃ m,W m σ H) /\ ∀ m σ H,W m σ H ->
 c σ H λ b H1=>if b=true then ∃ N:St->Hp->Prop,(∀ σ' H',N σ' H'->∃ m',m' < m /\ W m' σ' H') /\ tb { D with nx:=N,ct:=N,bk:=D.nx } σ H1 else D.nx σ H1
theorem ty1 {c:Expr} {body:List Stmt} {tc:TT} {tb:TS} (hp:PassesOwn (model X.prog X.w) X.A X.env X.xe) (hc:PT X c tc) (hb:PSs X body tb):PS X (.While c body [] pos) (zv2 tc tb):=by
 intro pins s σ H D I h
 obtain ⟨W,⟨m0,w0⟩,turn⟩:=h
 refine wpAny_While (codeAny_whileLoop (λ n s'=>∃ σ' H',Inv X pins σ' H' s' /\ W n σ' H') ?_ m0 ⟨σ,H,I,w0⟩)
 rintro n s1 ⟨σ1,H1,I1,w1⟩
 refine wpAny_passesOwn hp (thn (hc pins s1 σ1 H1 _ I1 (turn n σ1 H1 w1)) λ b s2 ⟨H2,I2,q2⟩=>?_)
 cases b with
 | true =>
  obtain ⟨N,hN,q2⟩:=q2
  rw [if_pos rfl]
  refine wpAny_passesOwn hp (thn (hb pins s2 σ1 H2 _ I2 q2) λ f s3 q3=>?_)
  cases f with
  | next =>
   obtain ⟨σ3,H3,I3,n3⟩:=q3
   obtain ⟨m',hm,w3⟩:=hN σ3 H3 n3
   exact ⟨m',hm,σ3,H3,I3,w3⟩
  | cont =>
   obtain ⟨σ3,H3,I3,n3⟩:=q3
   obtain ⟨m',hm,w3⟩:=hN σ3 H3 n3
   exact ⟨m',hm,σ3,H3,I3,w3⟩
  | brk=>exact q3
  | ret v=>exact q3
 | false =>
  rw [if_neg Bool.false_ne_true]
  exact wpAny_execs_nil ⟨σ1,H2,I2,q2⟩
end
structure It where
 go:Nat->Hp->Prop
 yld:Nat->Hp->V->Hp->Prop
 stop:Nat->Hp->Prop
noncomputable def FpOk (X:Cx) (pins:List (Addr × Obj)) (H:Hp) (b:Addr):Prop :=
 H b=none /\ b ≠ X.env.locals /\ b ∉ X.fs /\ (b ∈ X.ex \/ X.s₀.heap.objs.size<=b) /\ (∀ x c,X.env.cells.lookup x=some c->c ≠ b) /\ ∀ p ∈ X.pn ++ pins,p.1 ≠ b
theorem Inv.fpOk {X:Cx} {pins:List (Addr × Obj)} {σ:St} {H H':Hp} {s:Shared} {b:Addr} (I:Inv X pins σ H s) (hb:s.heap.objs.size<=b) (hn:H' b=none):FpOk X pins H' b:=by
 refine ⟨hn,Nat.ne_of_gt (Nat.lt_of_lt_of_le I.lt hb),I.nofs hb,.inr (Nat.le_trans I.sz hb),λ x c e z=>?_,λ p hp z=>?_⟩
 ·obtain ⟨v,q⟩:=I.cell x c e
  exact absurd (Nat.lt_of_lt_of_le q.lt (by rw [z]; exact hb)) (Nat.lt_irrefl _)
 ·exact absurd (Nat.lt_of_lt_of_le (Heap.lt_size (I.pin p hp).1) (by rw [z]; exact hb)) (Nat.lt_irrefl _)
structure Turn (P:Program) (w:World) (K:PySem.W.Frag) (tg:Expr) (J:It) (fp:List Addr) (it:Addr) (tn:Nat->Heap->Prop):Prop where
 mem:it ∈ fp
 obj:∀ i h,tn i h->∀ b ∈ fp,∃ o,h.get? b=some o /\ ∀ v,o.data ≠ .cell v
 keep:∀ i h h',tn i h->(∀ b ∈ fp,∀ o,h.get? b=some o->h'.get? b=some o)->tn i h'
 item:∀ (X:Cx),X.prog=P->X.w=w->X.K=K->X.calm=true->∀ (i:Nat) (pins:List (Addr × Obj)) (s:Shared) (σ:St) (H:Hp) (E:Value->Shared->Prop),Inv X pins σ H s->(∀ b ∈ fp,FpOk X pins H b)->tn i s.heap->J.go i H ->
  wpAny (model P w) X.A (pyNext (.ref it)) (λ r s1=>∃ u,r=some u ∧
   wpAny (model P w) X.A (letOwnedTupleGo tg (.ref it) u) (λ _ s2=>∃ x H',Inv X pins σ H' s2 /\ RelV x u /\ J.yld i H x H' /\ tn (i + 1) s2.heap /\ ∀ b ∈ fp,H' b=none) E s1) E s
 done:∀ (X:Cx),X.prog=P->X.w=w->X.K=K->X.calm=true->∀ (i:Nat) (pins:List (Addr × Obj)) (s:Shared) (σ:St) (H:Hp) (E:Value->Shared->Prop),Inv X pins σ H s->(∀ b ∈ fp,FpOk X pins H b)->tn i s.heap->J.stop i H ->
  wpAny (model P w) X.A (pyNext (.ref it)) (λ r s1=>r=none /\ Inv X pins σ H s1) E s
 self:∀ (A:Around) (i:Nat) (s:Shared) (Q:Value->Shared->Prop) (E:Value->Shared->Prop),tn i s.heap->Q (.ref it) s->wpAny (model P w) A (pyIter (.ref it)) Q E s
noncomputable abbrev TI:=St->Hp->(It->Hp->Prop)->Prop
noncomputable def PIE (X:Cx) (pins:List (Addr × Obj)) (σ:St) (tg:Expr) (R:It->Hp->Prop) (itv:Value) (s2:Shared):Prop :=
 ∃ (it:Addr) (fp:List Addr) (tn:Nat->Heap->Prop) (J:It) (H':Hp),itv=.ref it /\ Inv X pins σ H' s2 /\ Turn X.prog X.w X.K tg J fp it tn /\ tn 0 s2.heap /\ (∀ b ∈ fp,FpOk X pins H' b) /\ R J H'
noncomputable def PI (X:Cx) (tg iter:Expr) (wi:TI):Prop :=
 ∀ (pins:List (Addr × Obj)) (s:Shared) (σ:St) (H:Hp) (R:It->Hp->Prop),Inv X pins σ H s->wi σ H R ->
  wpAny (model X.prog X.w) X.A (eval iter X.env) (λ v s1=>wpAny (model X.prog X.w) X.A (pyIter v) (PIE X pins σ tg R) X.xe s1) X.xe s
theorem tr1 {M:Model} {A:Around} {E:Value->Shared->Prop} {s:Shared} {tg:Expr} {it:Addr} {u:Value} {o:Obj} {n:String} {vs:Array Value} {Q:Unit->Shared->Prop} (ho:s.heap.get? it=some o) (hc:o.cls=.type n) (hd:o.data=.fields vs)
    (hn:["enumerate", "zip", "dict_itemiterator", "dict_reverseitemiterator", "odict_iterator", "itertools.zip_longest", "itertools.pairwise"].contains n=false) (hQ:Q () s):wpAny M A (letOwnedTupleGo tg (.ref it) u) Q E s:=by
 unfold letOwnedTupleGo
 cases tg <;> first
  | exact wpAny_pure hQ
  | (cases u <;> first
      | exact wpAny_pure hQ
      | (refine wpAny_bind (wpAny_load ho ?_)
         rw [hc,hd]
         show wpAny M A (if (["enumerate", "zip", "dict_itemiterator", "dict_reverseitemiterator", "odict_iterator", "itertools.zip_longest", "itertools.pairwise"].contains n && vs[0]? == some (rawInt _))=true then _ else _) Q E s
         rw [if_neg (by intro h; rw [hn,Bool.false_and] at h; cases h)]
         exact wpAny_pure hQ))
noncomputable def Itl (K:PySem.W.Frag) (a:Addr):It :=
 ⟨λ i H=>∃ xs x,SqL K H a xs /\ xs[i]?=some x,λ i H x H'=>H'=H /\ ∀ xs,SqL K H a xs->xs[i]?=some x,λ i H=>∃ xs,SqL K H a xs /\ xs.length<=i⟩
noncomputable def Itt (K:PySem.W.Frag) (a:Addr):It :=
 ⟨λ i H=>∃ xs x,SqT K H a xs /\ xs[i]?=some x,λ i H x H'=>H'=H /\ ∀ xs,SqT K H a xs->xs[i]?=some x,λ i H=>∃ xs,SqT K H a xs /\ xs.length<=i⟩
noncomputable def Itr (lo:Int) (n:Nat):It:=⟨λ i _=>i < n,λ i H x H'=>H'=H /\ x=.int (lo + i),λ i _=>n<=i⟩
theorem vj1 {P:Program} {w:World} {K:PySem.W.Frag} {tg:Expr} (a it:Addr):Turn P w K tg (Itl K a) [it] it (λ i h=>h.IsListIter it a i) where
 mem:=by simp
 obj:=λ i h st b hb=>by
  have e:b=it:=by simpa using hb
  subst e
  obtain ⟨o,e,c,d⟩:=st
  exact ⟨o,e,λ v z=>by rw [d] at z; cases z⟩
 keep:=λ i h h' st k=>st.at λ o e=>k it (by simp) o e
 item:=by
  intro X hP hw hK hc i pins s σ H E I hf st hg
  subst hP hw hK
  obtain ⟨xs,x,hq,hx⟩:=hg
  obtain ⟨its,rv,p,hz⟩:=I.list hq
  obtain ⟨u,hu,ru⟩:=rv.get hx
  obtain ⟨f0,f1,f2,f3,f4,f5⟩:=hf it (by simp)
  refine wpAny_pyNext_list_item st p.isList (x:=u) (by simpa using hu) λ h' st' sb=>?_
  have I1:Inv X pins σ H { s with heap:=h' }:=I.turned (t':=s.toks) (λ b o hb e=>(sb.2 b hb).trans e) f0 f1 f3 f4 f5
  obtain ⟨o,e,c,d⟩:=id st'
  exact ⟨u,rfl,tr1 (s:={ s with heap:=h' }) e c d (by decide) ⟨x,H,I1,ru,⟨rfl,λ ys hy=>by rw [I.list_inj hy hq]; exact hx⟩,st',λ b hb=>(hf b hb).1⟩⟩
 done:=by
  intro X hP hw hK hc i pins s σ H E I hf st hg
  subst hP hw hK
  obtain ⟨xs,hq,hx⟩:=hg
  obtain ⟨its,rv,p,hz⟩:=I.list hq
  obtain ⟨f0,f1,f2,f3,f4,f5⟩:=hf it (by simp)
  have hl:=rv.length
  exact wpAny_pyNext_list_end (I.ok.hd hc) st p.isList (by simp; omega) λ h' eb=>⟨rfl,I.turned (t':=s.toks) (λ b o hb e=>eb b o hb e) f0 f1 f3 f4 f5⟩
 self:=λ _ _ _ _ _ st h=>wpAny_pyIter_listiter st h
theorem se1 {P:Program} {w:World} {K:PySem.W.Frag} {tg:Expr} (a it:Addr):Turn P w K tg (Itt K a) [it] it (λ i h=>h.IsTupleIter it a i) where
 mem:=by simp
 obj:=λ i h st b hb=>by
  have e:b=it:=by simpa using hb
  subst e
  obtain ⟨o,e,c,d⟩:=st
  exact ⟨o,e,λ v z=>by rw [d] at z; cases z⟩
 keep:=λ i h h' st k=>st.at λ o e=>k it (by simp) o e
 item:=by
  intro X hP hw hK hc i pins s σ H E I hf st hg
  subst hP hw hK
  obtain ⟨xs,x,hq,hx⟩:=hg
  obtain ⟨its,rv,p,hz⟩:=I.tuple hq
  obtain ⟨u,hu,ru⟩:=rv.get hx
  obtain ⟨f0,f1,f2,f3,f4,f5⟩:=hf it (by simp)
  refine wpAny_pyNext_tuple_item st (show s.heap.IsTuple a its.toArray from p) (x:=u) (by simpa using hu) λ h' st' sb=>?_
  have I1:Inv X pins σ H { s with heap:=h' }:=I.turned (t':=s.toks) (λ b o hb e=>(sb.2 b hb).trans e) f0 f1 f3 f4 f5
  obtain ⟨o,e,c,d⟩:=id st'
  exact ⟨u,rfl,tr1 (s:={ s with heap:=h' }) e c d (by decide) ⟨x,H,I1,ru,⟨rfl,λ ys hy=>by rw [I.tuple_inj hy hq]; exact hx⟩,st',λ b hb=>(hf b hb).1⟩⟩
 done:=by
  intro X hP hw hK hc i pins s σ H E I hf st hg
  subst hP hw hK
  obtain ⟨xs,hq,hx⟩:=hg
  obtain ⟨its,rv,p,hz⟩:=I.tuple hq
  obtain ⟨f0,f1,f2,f3,f4,f5⟩:=hf it (by simp)
  have hl:=rv.length
  exact wpAny_pyNext_tuple_end (I.ok.hd hc) st (show s.heap.IsTuple a its.toArray from p) (by simp; omega) λ h' eb=>⟨rfl,I.turned (t':=s.toks) (λ b o hb e=>eb b o hb e) f0 f1 f3 f4 f5⟩
 self:=λ _ _ _ _ _ st h=>wpAny_pyIter_tupleiter st h
theorem xf1 {P:Program} {w:World} {K:PySem.W.Frag} {tg:Expr} (it:Addr) (lo:Int) (n:Nat):Turn P w K tg (Itr lo n) [it] it (λ i h=>IsRangeIter h it (lo + (i:Nat) * 1) ((n:Int) - (i:Nat)) 1) where
 mem:=by simp
 obj:=λ i h st b hb=>by
  have e:b=it:=by simpa using hb
  subst e
  exact ⟨_,st,λ v z=>by
   have z':Data.fields _=Data.cell v:=z
   cases z'⟩
 keep:=λ i h h' st k=>k it (by simp) _ st
 item:=by
  intro X hP hw hK hc i pins s σ H E I hf st hg
  subst hP hw hK
  obtain ⟨f0,f1,f2,f3,f4,f5⟩:=hf it (by simp)
  have W:=Walks.range (prog:=X.prog) (w:=X.w) (I.ok.hd hc) it lo 1 n
  refine W.item i s _ _ hg st λ v h' tk hv st' kk=>?_
  obtain ⟨t,rfl⟩:=hv
  have I1:Inv X pins σ H { s with heap:=h',toks:=tk }:=I.turned (λ b o hb e=>kk b o (by simpa using hb) e) f0 f1 f3 f4 f5
  refine ⟨_,rfl,tr1 (s:={ s with heap:=h',toks:=tk }) (n := "range_iterator") st' rfl rfl (by decide) ⟨.int (lo + i),H,I1,⟨t,?_⟩,⟨rfl,rfl⟩,st',λ b hb=>(hf b hb).1⟩⟩
  rw [Int.mul_one]
 done:=by
  intro X hP hw hK hc i pins s σ H E I hf st hg
  subst hP hw hK
  obtain ⟨f0,f1,f2,f3,f4,f5⟩:=hf it (by simp)
  exact wpAny_pyNext_range_end (I.ok.hd hc) st (by have:n<=i:=hg; omega) λ h' eb=>⟨rfl,I.turned (t':=s.toks) (λ b o hb e=>eb b o hb e) f0 f1 f3 f4 f5⟩
 self:=λ _ _ _ _ _ st h=>wpAny_pyIter_rangeiter st h
end L2
namespace L2
open PySem PySem.Spec PyProof.Rows
section
variable {X:Cx} {tg:Expr}
theorem yc1 {pins:List (Addr × Obj)} {σ:St} {H:Hp} {s:Shared} {R:It->Hp->Prop} {E:Value->Shared->Prop} {lo hi:Int} {t u v:Tok} {tk:Nat} (I:Inv X pins σ H s) (h1 : -(2 ^ 62)<=lo) (h2:lo < 2 ^ 62) (h3 : -(2 ^ 62)<=hi) (h4:hi < 2 ^ 62)
    (q:R (Itr lo (hi - lo).toNat) H):wpAny (model X.prog X.w) X.A (pyIter (.ref s.heap.objs.size)) (PIE X pins σ tg R) E { s with heap:=s.heap.push { cls:=.type "range",data:=.fields #[.int lo t,.int hi u,.int 1 v] },toks:=tk }:=by
 refine wpAny_pyIter_range (IsRange.new ..) (small_one h1 h2 h3 h4) ?_
 have I1:Inv X pins σ H { s with heap:=s.heap.push { cls:=.type "range",data:=.fields #[.int lo t,.int hi u,.int 1 v] },toks:=tk }:=I.kept λ b o e=>Heap.get?_push_of_some _ e
 refine ⟨(s.heap.push { cls:=.type "range",data:=.fields #[.int lo t,.int hi u,.int 1 v] }).objs.size,[(s.heap.push { cls:=.type "range",data:=.fields #[.int lo t,.int hi u,.int 1 v] }).objs.size],_,_,H,rfl,
  I1.kept (t':=tk) λ b o e=>Heap.get?_push_of_some _ e,xf1 _ lo (hi - lo).toNat,?_,λ b hb=>?_,q⟩
 ·have e1:lo + ((0:Nat):Int) * 1=lo:=by simp
  have e2:(((hi - lo).toNat:Nat):Int) - ((0:Nat):Int)=Builtin.Range.rangeSize lo hi 1:=by rw [rangeSize_one]; split <;> omega
  show IsRangeIter _ _ (lo + ((0:Nat):Int) * 1) ((((hi - lo).toNat:Nat):Int) - ((0:Nat):Int)) 1
  rw [e1,e2]
  exact Heap.get?_push_size _ rfl
 ·have e:b=(s.heap.push { cls:=.type "range",data:=.fields #[.int lo t,.int hi u,.int 1 v] }).objs.size:=by simpa using hb
  subst e
  exact I1.fpOk (Nat.le_refl _) (I1.hok.fresh (Nat.le_refl _))
noncomputable def sv3 (ta:TA):TI:=λ σ H R=>ta σ H λ vs H1=>∃ j:Int,vs=[.int j] /\ -(2 ^ 62)<=j /\ j < 2 ^ 62 /\ R (Itr 0 j.toNat) H1
noncomputable def tv3 (ta:TA):TI:=λ σ H R=>ta σ H λ vs H1=>∃ i j:Int,vs=[.int i,.int j] /\ (-(2 ^ 62)<=i /\ i < 2 ^ 62 /\ -(2 ^ 62)<=j /\ j < 2 ^ 62) /\ R (Itr i (j - i).toNat) H1
theorem wo1 {a:Expr} {ta:TA} {p pos:Pos} (hg:Gl X "range") (hm:X.mg "range" = none) (ha:PA X [a] ta) (hs:starEach [a] X.env=[(false,eval a X.env)]:=by rfl):PI X tg (.Call (.Name "range" p) [a] [] pos) (sv3 ta):=by
 intro pins s σ H R I h
 refine Call_ (yq0 I hg hm boot_range (PyProof.Rows.callWith_type1 (thn (ha pos pins s σ H _ I h) λ us s1 ⟨vs,H1,I1,r1,q1⟩=>?_) hs rfl))
 obtain ⟨j,e,q1,q2,q⟩:=q1
 subst e
 cases r1 with
 | cons r rr =>
  cases rr
  obtain ⟨t,rfl⟩:=r
  exact call_range_1 (yc1 I1 (by omega) (by omega) q1 q2 (by simpa using q))
theorem zo1 {a b:Expr} {ta:TA} {p pos:Pos} (hg:Gl X "range") (hm:X.mg "range" = none) (ha:PA X [a,b] ta) (hs:starEach [a,b] X.env=[(false,eval a X.env),(false,eval b X.env)]:=by rfl) (hs2:starEach [b] X.env=[(false,eval b X.env)]:=by rfl) :
    PI X tg (.Call (.Name "range" p) [a,b] [] pos) (tv3 ta):=by
 intro pins s σ H R I h
 refine Call_ (yq0 I hg hm boot_range (PyProof.Rows.callWith_type1 (thn (ha pos pins s σ H _ I h) λ us s1 ⟨vs,H1,I1,r1,q1⟩=>?_) (by rw [hs,hs2]) (by rw [hs2]; rfl)))
 obtain ⟨i,j,e,⟨q1,q2,q3,q4⟩,q⟩:=q1
 subst e
 cases r1 with
 | cons r rr =>
  cases rr with
  | cons r' rr =>
   cases rr
   obtain ⟨t,rfl⟩:=r
   obtain ⟨t',rfl⟩:=r'
   exact call_range_2 (yc1 I1 q1 q2 q3 q4 q)
noncomputable def tFor (wi:TI) (g:TG) (tb:TS):TS:=λ D σ H=>wi σ H λ J H1=>∃ W:Nat->Nat->St->Hp->Prop,(∃ m,W 0 m σ H1) /\ ∀ i m σ H,W i m σ H ->
 (J.stop i H /\ D.nx σ H) \/ (J.go i H /\ ∃ N:St->Hp->Prop,(∀ σ' H',N σ' H'->∃ m',m' < m /\ W (i + 1) m' σ' H') /\ ∀ x H',J.yld i H x H'->g x σ H' λ σ2 H2=>tb { D with nx:=N,ct:=N,bk:=D.nx } σ2 H2)
noncomputable def sp0 (fp:List Addr) (h:Heap):List (Addr × Obj):=fp.filterMap λ b=>(h.get? b).map λ o=>(b,o)
theorem wf0 {fp:List Addr} {h:Heap} {b:Addr} {o:Obj} (hb:b ∈ fp) (e:h.get? b=some o):(b,o) ∈ sp0 fp h:=List.mem_filterMap.mpr ⟨b,hb,by rw [e]; rfl⟩
theorem zp1 {fp:List Addr} {h:Heap} {p:Addr × Obj} (hp:p ∈ sp0 fp h):p.1 ∈ fp /\ h.get? p.1=some p.2:=by
 obtain ⟨b,hb,e⟩:=List.mem_filterMap.mp hp
 cases q:h.get? b with
 | none=>rw [q] at e; cases e
 | some o =>
  rw [q] at e
  have e':(b,o)=p:=Option.some.inj e
  subst e'
  exact ⟨hb,q⟩
theorem Inv.pinned {pins:List (Addr × Obj)} {σ:St} {H:Hp} {s:Shared} {fp:List Addr} (I:Inv X pins σ H s) (hf:∀ b ∈ fp,FpOk X pins H b) (ho:∀ b ∈ fp,∃ o,s.heap.get? b=some o /\ ∀ v,o.data ≠ .cell v):Inv X (pins ++ sp0 fp s.heap) σ H s :=
 I.pins_of λ p hp=>(List.mem_append.mp hp).elim (λ z=>I.pin p (List.mem_append_right _ z)) λ z=>by
  obtain ⟨hb,e⟩:=zp1 z
  obtain ⟨f0,f1,f2,_⟩:=hf p.1 hb
  obtain ⟨o,e',d⟩:=ho p.1 hb
  rw [e] at e'; cases e'
  exact ⟨e,f0,f1,f2,d⟩
theorem Inv.unpinned {pins pl:List (Addr × Obj)} {σ:St} {H:Hp} {s:Shared} (I:Inv X (pins ++ pl) σ H s):Inv X pins σ H s:=I.pins_of λ p hp=>I.pin p (List.mem_append_right _ (List.mem_append_left _ hp))
theorem yf3 {iter:Expr} {body:List Stmt} {wi:TI} {g:TG} {tb:TS} {pos:Pos} (hp:PassesOwn (model X.prog X.w) X.A X.env X.xe) (hc:X.calm=true) (hi:PI X tg iter wi) (hg:PG X tg g) (hb:PSs X body tb)
    (hs:∀ x,foldedSetIterable iter X.env x=pure x:=by intro _; rfl):PS X (.For tg iter body [] pos) (tFor wi g tb):=by
 intro pins s σ H D I h
 refine wpAny_For (thn (hi pins s σ H _ I h) λ v s1 h1=>thn h1 λ itv s2 h2=>?_) hs
 obtain ⟨it,fp,tn,J,H2,e,I2,T,st2,f2,W,⟨m0,w0⟩,turn⟩:=h2
 subst e
 have stat:∀ {H':Hp},(∀ b ∈ fp,H' b=none)->∀ b ∈ fp,FpOk X pins H' b:=λ hn b hb=>⟨hn b hb,(f2 b hb).2⟩
 refine codeAny_forLoop_any (λ n s'=>∃ i σ' H',Inv X pins σ' H' s' /\ tn i s'.heap /\ (∀ b ∈ fp,H' b=none) /\ W i n σ' H') ?_ m0 ⟨0,σ,H2,I2,st2,λ b hb=>(f2 b hb).1,w0⟩
 rintro n s3 ⟨i,σ3,H3,I3,st3,fr3,w3⟩
 rcases turn i n σ3 H3 w3 with ⟨stop,qn⟩ | ⟨go,N,hN,step⟩
 ·refine wpAny_passesOwn hp (thn (T.done X rfl rfl rfl hc i pins s3 σ3 H3 X.xe I3 (stat fr3) st3 stop) λ r s4 ⟨hr,I4⟩=>?_)
  subst hr
  exact wpAny_execs_nil ⟨σ3,H3,I4,qn⟩
 ·refine wpAny_passesOwn hp (thn (T.item X rfl rfl rfl hc i pins s3 σ3 H3 X.xe I3 (stat fr3) st3 go) λ r s4 ⟨u,hr,h4⟩=>?_)
  subst hr
  refine wpAny_passesOwn hp (thn h4 λ _ s5 ⟨x,H5,I5,r5,y5,st5,fr5⟩=>?_)
  have I5':=I5.pinned (stat fr5) (T.obj _ _ st5)
  refine wpAny_passesOwn hp (thn (hg _ s5 σ3 H5 x u _ I5' r5 (step x H5 y5)) λ _ s6 ⟨σ6,H6,I6,q6⟩=>?_)
  refine wpAny_passesOwn hp (thn (hb _ s6 σ6 H6 _ I6 q6) λ f s7 q7=>?_)
  have again:∀ {σ7:St} {H7:Hp},Inv X (pins ++ sp0 fp s5.heap) σ7 H7 s7->N σ7 H7->∃ m,m < n /\ ∃ i σ' H',Inv X pins σ' H' s7 /\ tn i s7.heap /\ (∀ b ∈ fp,H' b=none) /\ W i m σ' H':=λ {σ7 H7} I7 n7=>by
   obtain ⟨m',hm,w7⟩:=hN σ7 H7 n7
   refine ⟨m',hm,i + 1,σ7,H7,I7.unpinned,T.keep _ _ _ st5 λ b hb o e=>(I7.pin (b,o) (List.mem_append_right _ (List.mem_append_right _ (wf0 hb e)))).1,λ b hb=>?_,w7⟩
   obtain ⟨o,e,d⟩:=T.obj _ _ st5 b hb
   exact (I7.pin (b,o) (List.mem_append_right _ (List.mem_append_right _ (wf0 hb e)))).2.1
  cases f with
  | next=>obtain ⟨σ7,H7,I7,n7⟩:=q7; exact again I7 n7
  | cont=>obtain ⟨σ7,H7,I7,n7⟩:=q7; exact again I7 n7
  | brk=>obtain ⟨σ7,H7,I7,q7⟩:=q7; exact ⟨σ7,H7,I7.unpinned,q7⟩
  | ret v=>obtain ⟨x7,σ7,H7,I7,r7,q7⟩:=q7; exact ⟨x7,σ7,H7,I7.unpinned,r7,q7⟩
end
end L2
namespace L2
open PySem PySem.Spec PyProof.Rows
noncomputable abbrev R2:=V->V->Hp->VK->Prop
noncomputable def OpR (X:Cx) (f:Value->Value->Sem Value) (r:R2):Prop :=
 ∀ (pins:List (Addr × Obj)) (s:Shared) (σ:St) (H:Hp) (x y:V) (v u:Value) (Q:VK),Inv X pins σ H s->RelV x v->RelV y u->r x y H Q ->
  wpAny (model X.prog X.w) X.A (f v u) (EP X pins σ Q) X.xe s
noncomputable def UnR (X:Cx) (f:Value->Sem Value) (r:V->Hp->VK->Prop):Prop :=
 ∀ (pins:List (Addr × Obj)) (s:Shared) (σ:St) (H:Hp) (x:V) (v:Value) (Q:VK),Inv X pins σ H s->RelV x v->r x H Q ->
  wpAny (model X.prog X.w) X.A (f v) (EP X pins σ Q) X.xe s
noncomputable def CallR (X:Cx) (f:Value) (r:List V->Hp->VK->Prop):Prop :=
 ∀ (pins:List (Addr × Obj)) (s:Shared) (σ:St) (H:Hp) (xs:List V) (us:List Value) (Q:VK),Inv X pins σ H s->Vals xs us->r xs H Q ->
  wpAny (model X.prog X.w) X.A (call f us) (EP X pins σ Q) X.xe s
noncomputable def tOp (r:R2) (ta tb:TE):TE:=λ σ H Q=>ta σ H λ x H1=>tb σ H1 λ y H2=>r x y H2 Q
noncomputable def tUn (r:V->Hp->VK->Prop) (ta:TE):TE:=λ σ H Q=>ta σ H λ x H1=>r x H1 Q
noncomputable def rI (C:Int->Int->Prop) (g:Int->Int->V):R2:=λ x y H Q=>∃ i j,x=.int i /\ y=.int j /\ C i j /\ Q (g i j) H
noncomputable def rI0 (g:Int->Int->V):R2:=λ x y H Q=>∃ i j,x=.int i /\ y=.int j /\ Q (g i j) H
noncomputable def rU (g:Int->V):V->Hp->VK->Prop:=λ x H Q=>∃ i,x=.int i /\ Q (g i) H
section
variable {X:Cx} {a b c:Expr} {ta tb tc:TE} {pos:Pos}
theorem binT (ha:PE X a ta) (hb:PE X b tb) {pins:List (Addr × Obj)} {s:Shared} {σ:St} {H:Hp} {R:V->V->Hp->Prop} (I:Inv X pins σ H s)
    (h:ta σ H λ x H1=>tb σ H1 λ y H2=>R x y H2) {Q:Value->Shared->Prop} {f:Value->Value->Sem Value}
    (hf:∀ v u s2 x y H2,Inv X pins σ H2 s2->RelV x v->RelV y u->R x y H2->wpAny (model X.prog X.w) X.A (f v u) Q X.xe s2) :
    wpAny (model X.prog X.w) X.A (eval a X.env) (λ v s₁=>wpAny (model X.prog X.w) X.A (eval b X.env) (λ u s₂=>wpAny (model X.prog X.w) X.A (f v u) Q X.xe s₂) X.xe s₁) X.xe s:=by
 refine thn (ha pins s σ H _ I h) λ v s1 ⟨x,H1,I1,r1,q1⟩=>?_
 refine thn (hb pins s1 σ H1 _ I1 q1) λ u s2 ⟨y,H2,I2,r2,q2⟩=>?_
 exact hf v u s2 x y H2 I2 r1 r2 q2
theorem vt3 {op:Operator} {r:R2} (ho:OpR X (binaryOp op) r) (ha:PE X a ta) (hb:PE X b tb):PE X (.BinOp a op b pos) (tOp r ta tb):=by
 intro pins s σ H Q I h
 exact wpAny_BinOp (binT ha hb I h λ v u s2 x y H2 I2 rx ry q=>ho pins s2 σ H2 x y v u Q I2 rx ry q)
theorem wt3 {op:UnaryOp} {r:V->Hp->VK->Prop} (ho:UnR X (unaryOp op) r) (ha:PE X a ta):PE X (.UnaryOp op a pos) (tUn r ta):=by
 intro pins s σ H Q I h
 exact UnaryOp_ (thn (ha pins s σ H _ I h) λ v s1 ⟨x,H1,I1,r1,q1⟩=>ho pins s1 σ H1 x v Q I1 r1 q1)
theorem opI {f:Value->Value->Sem Value} {C:Int->Int->Prop} {g:Int->Int->Int}
    (rule:∀ (i j:Int) (t u:Tok) (s:Shared) (Q:Value->Shared->Prop) (E:Value->Shared->Prop),C i j->Q (.int (g i j) s.toks) { s with toks:=s.toks + 1 }->wpAny (model X.prog X.w) X.A (f (.int i t) (.int j u)) Q E s) :
    OpR X f (rI C λ i j=>.int (g i j)):=by
 intro pins s σ H x y v u Q I rx ry h
 obtain ⟨i,j,rfl,rfl,hc,q⟩:=h
 obtain ⟨t,rfl⟩:=rx
 obtain ⟨t',rfl⟩:=ry
 exact rule i j t t' s _ _ hc ⟨.int (g i j),H,I.tok _,⟨_,rfl⟩,q⟩
theorem opI0 {f:Value->Value->Sem Value} {g:Int->Int->Int}
    (rule:∀ (i j:Int) (t u:Tok) (s:Shared) (Q:Value->Shared->Prop) (E:Value->Shared->Prop),Q (.int (g i j) s.toks) { s with toks:=s.toks + 1 }->wpAny (model X.prog X.w) X.A (f (.int i t) (.int j u)) Q E s) :
    OpR X f (rI0 λ i j=>.int (g i j)):=by
 intro pins s σ H x y v u Q I rx ry h
 obtain ⟨i,j,rfl,rfl,q⟩:=h
 obtain ⟨t,rfl⟩:=rx
 obtain ⟨t',rfl⟩:=ry
 exact rule i j t t' s _ _ ⟨.int (g i j),H,I.tok _,⟨_,rfl⟩,q⟩
theorem opB0 {f:Value->Value->Sem Value} {g:Int->Int->Bool}
    (rule:∀ (i j:Int) (t u:Tok) (s:Shared) (Q:Value->Shared->Prop) (E:Value->Shared->Prop),Q (.bool (g i j)) s->wpAny (model X.prog X.w) X.A (f (.int i t) (.int j u)) Q E s) :
    OpR X f (rI0 λ i j=>.bl (g i j)):=by
 intro pins s σ H x y v u Q I rx ry h
 obtain ⟨i,j,rfl,rfl,q⟩:=h
 obtain ⟨t,rfl⟩:=rx
 obtain ⟨t',rfl⟩:=ry
 exact rule i j t t' s _ _ ⟨.bl (g i j),H,I,rfl,q⟩
noncomputable def CPow (i j:Int):Prop:=0<=j /\ j<=1000000 /\ i.natAbs < 2 ^ 64
noncomputable def CMul (i j:Int):Prop:=(-(2 ^ 64) < i /\ i < 2 ^ 64) \/ (-(2 ^ 64) < j /\ j < 2 ^ 64)
theorem CMul.ok {i j:Int} (h:CMul i j):IntMulOk i j:=by
 rcases h with ⟨h1,h2⟩ | ⟨h1,h2⟩
 ·exact .of_left (intBits_le_64 h1 h2)
 ·exact .of_right (intBits_le_64 h1 h2)
theorem op_add:OpR X (binaryOp .Add) (rI0 λ i j=>.int (i + j)):=opI0 λ _ _ _ _ _ _ _ q=>add_int q
theorem xh3:OpR X (binaryOp .Sub) (rI0 λ i j=>.int (i - j)):=opI0 λ _ _ _ _ _ _ _ q=>sub_int q
theorem vh3:OpR X (binaryOp .Mod) (rI (λ _ j=>0 < j) λ i j=>.int (i % j)):=opI λ i j _ _ _ _ _ hc q=>by
 have h1:(0:Int) < j:=hc
 exact mod_int' (by omega) (by rw [Int.fmod_eq_emod_of_nonneg i (by omega)]; exact q)
theorem zh3:OpR X (binaryOp .Pow) (rI CPow λ i j=>.int (i ^ j.toNat)):=opI λ _ _ _ _ _ _ _ hc q=>pow_int_small hc.1 hc.2.1 hc.2.2 q
theorem unI {f:Value->Sem Value} {g:Int->Int}
    (rule:∀ (i:Int) (t:Tok) (s:Shared) (Q:Value->Shared->Prop) (E:Value->Shared->Prop),Q (.int (g i) s.toks) { s with toks:=s.toks + 1 }->wpAny (model X.prog X.w) X.A (f (.int i t)) Q E s) :
    UnR X f (rU λ i=>.int (g i)):=by
 intro pins s σ H x v Q I rx h
 obtain ⟨i,rfl,q⟩:=h
 obtain ⟨t,rfl⟩:=rx
 exact rule i t s _ _ ⟨.int (g i),H,I.tok _,⟨_,rfl⟩,q⟩
theorem vt2:UnR X (unaryOp .USub) (rU λ i=>.int (-i)):=unI λ _ _ _ _ _ q=>neg_int q
end
noncomputable def scal:V->V->Bool
 | .non,.non=>true | .non,.int _=>true | .int _,.non=>true | .non,.bl _=>true | .bl _,.non=>true | .non,.str _=>true | .str _,.non=>true
 | .int _,.int _=>true | .bl _,.bl _=>true | .str _,.str _=>true | .byt _,.byt _=>true
 | .int _,.str _=>true | .str _,.int _=>true | .bl _,.str _=>true | .str _,.bl _=>true
 | _,_=>false
noncomputable def rEq:R2:=λ x y H Q=>scal x y=true /\ Q (.bl (decide (x=y))) H
noncomputable def rNe:R2:=λ x y H Q=>scal x y=true /\ Q (.bl (!decide (x=y))) H
theorem yt1 {i j:Int}:decide (V.int i=V.int j)=(i == j):=by
 rw [Bool.eq_iff_iff]
 simp
theorem zh2 {i j:Bool}:decide (V.bl i=V.bl j)=(i == j):=by
 rw [Bool.eq_iff_iff]
 simp
theorem xt1 {i j:Str}:decide (V.str i=V.str j)=(i == j):=by
 rw [Bool.eq_iff_iff]
 simp
theorem zt1 {i j:Array UInt8}:decide (V.byt i=V.byt j)=(i.toList == j.toList):=by
 rw [Bool.eq_iff_iff]
 cases i
 cases j
 simp
section
variable {X:Cx} {a b c:Expr} {ta tb tc:TE} {pos:Pos}
theorem zc0 {pins:List (Addr × Obj)} {σ:St} {H:Hp} {s:Shared} {Q:VK} {k k':Bool} (I:Inv X pins σ H s) (q:Q (.bl k) H) (e:k=k'):EP X pins σ Q (.bool k') s:=by
 subst e
 exact ⟨.bl k,H,I,rfl,q⟩
theorem op_eq:OpR X (compareOp .Eq) rEq:=by
 intro pins s σ H x y v u Q I rx ry h
 obtain ⟨hs,q⟩:=h
 cases x with
 | non =>
  cases rx
  cases y with
  | non=>cases ry; exact PySem.EqNone.eq_none_none (zc0 I q (by simp))
  | bl j=>cases ry; exact PySem.EqNone.eq_none_bool (zc0 I q (by simp))
  | int j=>obtain ⟨t',rfl⟩:=ry; exact PySem.EqNone.eq_none_int (zc0 I q (by simp))
  | str j=>obtain ⟨t',rfl⟩:=ry; exact PySem.EqNone.eq_none_str (zc0 I q (by simp))
  | _=>exact absurd (show false=true from hs) Bool.false_ne_true
 | bl i =>
  cases rx
  cases y with
  | non=>cases ry; exact PySem.EqNone.eq_bool_none (zc0 I q (by simp))
  | bl j=>cases ry; exact eq_bool (zc0 I q zh2)
  | str j=>obtain ⟨t',rfl⟩:=ry; exact PySem.EqMixed.eq_bool_str (zc0 I q (by simp))
  | _=>exact absurd (show false=true from hs) Bool.false_ne_true
 | int i =>
  obtain ⟨t,rfl⟩:=rx
  cases y with
  | non=>cases ry; exact PySem.EqNone.eq_int_none (zc0 I q (by simp))
  | int j=>obtain ⟨t',rfl⟩:=ry; exact eq_int (zc0 I q yt1)
  | str j=>obtain ⟨t',rfl⟩:=ry; exact PySem.EqMixed.eq_int_str (zc0 I q (by simp))
  | _=>exact absurd (show false=true from hs) Bool.false_ne_true
 | str i =>
  obtain ⟨t,rfl⟩:=rx
  cases y with
  | non=>cases ry; exact PySem.EqNone.eq_str_none (zc0 I q (by simp))
  | bl j=>cases ry; exact PySem.EqMixed.eq_str_bool (zc0 I q (by simp))
  | int j=>obtain ⟨t',rfl⟩:=ry; exact PySem.EqMixed.eq_str_int (zc0 I q (by simp))
  | str j=>obtain ⟨t',rfl⟩:=ry; exact eq_str (zc0 I q xt1)
  | _=>exact absurd (show false=true from hs) Bool.false_ne_true
 | byt i =>
  obtain ⟨t,rfl⟩:=rx
  cases y with
  | byt j=>obtain ⟨t',rfl⟩:=ry; exact PySem.W.eq_bytes (zc0 I q zt1)
  | _=>exact absurd (show false=true from hs) Bool.false_ne_true
 | _=>cases y <;> exact absurd (show false=true from hs) Bool.false_ne_true
theorem op_ne:OpR X (compareOp .NotEq) rNe:=by
 intro pins s σ H x y v u Q I rx ry h
 obtain ⟨hs,q⟩:=h
 cases x with
 | non =>
  cases rx
  cases y with
  | non=>cases ry; exact PySem.EqNone.ne_none_none (zc0 I q (by simp))
  | bl j=>cases ry; exact PySem.EqNone.ne_none_bool (zc0 I q (by simp))
  | int j=>obtain ⟨t',rfl⟩:=ry; exact PySem.EqNone.ne_none_int (zc0 I q (by simp))
  | str j=>obtain ⟨t',rfl⟩:=ry; exact PySem.EqNone.ne_none_str (zc0 I q (by simp))
  | _=>exact absurd (show false=true from hs) Bool.false_ne_true
 | bl i =>
  cases rx
  cases y with
  | non=>cases ry; exact PySem.EqNone.ne_bool_none (zc0 I q (by simp))
  | bl j=>cases ry; exact ne_bool (zc0 I q (congrArg not zh2))
  | str j=>obtain ⟨t',rfl⟩:=ry; exact PySem.EqMixed.ne_bool_str (zc0 I q (by simp))
  | _=>exact absurd (show false=true from hs) Bool.false_ne_true
 | int i =>
  obtain ⟨t,rfl⟩:=rx
  cases y with
  | non=>cases ry; exact PySem.EqNone.ne_int_none (zc0 I q (by simp))
  | int j=>obtain ⟨t',rfl⟩:=ry; exact ne_int (zc0 I q (congrArg not yt1))
  | str j=>obtain ⟨t',rfl⟩:=ry; exact PySem.EqMixed.ne_int_str (zc0 I q (by simp))
  | _=>exact absurd (show false=true from hs) Bool.false_ne_true
 | str i =>
  obtain ⟨t,rfl⟩:=rx
  cases y with
  | non=>cases ry; exact PySem.EqNone.ne_str_none (zc0 I q (by simp))
  | bl j=>cases ry; exact PySem.EqMixed.ne_str_bool (zc0 I q (by simp))
  | int j=>obtain ⟨t',rfl⟩:=ry; exact PySem.EqMixed.ne_str_int (zc0 I q (by simp))
  | str j=>obtain ⟨t',rfl⟩:=ry; exact ne_str (zc0 I q (congrArg not xt1))
  | _=>exact absurd (show false=true from hs) Bool.false_ne_true
 | byt i =>
  obtain ⟨t,rfl⟩:=rx
  cases y with
  | byt j=>obtain ⟨t',rfl⟩:=ry; exact PySem.W.ne_bytes (zc0 I q (congrArg not zt1))
  | _=>exact absurd (show false=true from hs) Bool.false_ne_true
 | _=>cases y <;> exact absurd (show false=true from hs) Bool.false_ne_true
theorem wu3:OpR X (compareOp .Lt) (rI0 λ i j=>.bl (decide (i < j))):=opB0 λ _ _ _ _ _ _ _ q=>lt_int q
theorem vu3:OpR X (compareOp .Gt) (rI0 λ i j=>.bl (decide (j < i))):=opB0 λ _ _ _ _ _ _ _ q=>gt_int q
theorem op_ge:OpR X (compareOp .GtE) (rI0 λ i j=>.bl (decide (j<=i))):=opB0 λ _ _ _ _ _ _ _ q=>ge_int q
theorem yp1:OpR X (compareOp .In) (λ x y H Q=>∃ i j,x=.str i /\ y=.str j /\ Q (.bl (!(Builtin.Str.occurrences j i 0 j.length 1).isEmpty)) H):=by
 intro pins s σ H x y v u Q I rx ry h
 obtain ⟨i,j,rfl,rfl,q⟩:=h
 obtain ⟨t,rfl⟩:=rx
 obtain ⟨t',rfl⟩:=ry
 exact in_str (zc0 I q rfl)
theorem OpR.or {f:Value->Value->Sem Value} {r r':R2} (h:OpR X f r) (h':OpR X f r'):OpR X f (λ x y H Q=>r x y H Q \/ r' x y H Q):=by
 intro pins s σ H x y v u Q I rx ry q
 rcases q with q | q
 ·exact h pins s σ H x y v u Q I rx ry q
 ·exact h' pins s σ H x y v u Q I rx ry q
theorem sf2 (b:Expr) {op:CmpOp} (h:op ≠ .In:=by decide) (h2:op ≠ .NotIn:=by decide):behindInMarks op b=false:=by
 have e1:(op == CmpOp.In)=false:=by cases op <;> first | rfl | exact absurd rfl h
 have e2:(op == CmpOp.NotIn)=false:=by cases op <;> first | rfl | exact absurd rfl h2
 cases b <;> simp [behindInMarks,e1,e2]
theorem un2 {op:CmpOp} {r:R2} (ho:OpR X (compareOp op) r) (ha:PE X a ta) (hb:PE X b tb) (hm:behindInMarks op b=false):PE X (.Compare a [op] [b] pos) (tOp r ta tb):=by
 intro pins s σ H Q I h
 exact wpAny_Compare1 (binT ha hb I h λ v u s2 x y H2 I2 rx ry q=>ho pins s2 σ H2 x y v u Q I2 rx ry q) hm
noncomputable def wv2 (t:TE):TT:=λ σ H Q=>t σ H λ x H'=>∃ k,x=.bl k /\ Q k H'
theorem vl2 {op:CmpOp} {r:R2} (ho:OpR X (compareOp op) r) (ha:PE X a ta) (hb:PE X b tb) (hm:behindInMarks op b=false):PT X (.Compare a [op] [b] pos) (wv2 (tOp r ta tb)):=by
 intro pins s σ H Q I h
 refine wpAny_isTrue_Compare1 (thn (ha pins s σ H _ I h) λ v s1 ⟨x,H1,I1,r1,q1⟩=>thn (hb pins s1 σ H1 _ I1 q1) λ u s2 ⟨y,H2,I2,r2,q2⟩ =>
  thn (ho pins s2 σ H2 x y v u _ I2 r1 r2 q2) λ c s3 ⟨z,H3,I3,r3,k,e,q3⟩=>?_) hm
 subst e
 cases r3
 exact wpAny_truthy_bool ⟨H3,I3,q3⟩
theorem su0:(sizeLine:Nat) < 2 ^ 63:=by rw [sizeLine_eq]; decide
theorem zh1:OpR X (binaryOp .Add) (λ x y H Q=>∃ i j,x=.str i /\ y=.str j /\ i.length + j.length<=sizeLine /\ Q (.str (i ++ j)) H):=by
 intro pins s σ H x y v u Q I rx ry h
 obtain ⟨i,j,rfl,rfl,hz,q⟩:=h
 obtain ⟨t,rfl⟩:=rx
 obtain ⟨t',rfl⟩:=ry
 exact add_str (λ t' tk=>⟨.str (i ++ j),H,I.tok _,⟨_,rfl⟩,q⟩) hz
theorem te1 {x:V} {us:List Value} (r:Vals [x] us):∃ u,us=[u] /\ RelV x u:=by
 cases r with
 | cons r1 r2=>cases r2; exact ⟨_,rfl,r1⟩
theorem uw1 {x y:V} {us:List Value} (r:Vals [x,y] us):∃ u w',us=[u,w'] /\ RelV x u /\ RelV y w':=by
 cases r with
 | cons r1 r2 =>
  cases r2 with
  | cons r3 r4=>cases r4; exact ⟨_,_,rfl,r1,r3⟩
theorem tu1 (hc:X.calm=true):CallR X (.builtin "max") (λ xs H Q=>∃ i j,xs=[.int i,.int j] /\ Q (.int (if j > i then j else i)) H):=by
 intro pins s σ H xs us Q I r h
 obtain ⟨i,j,rfl,q⟩:=h
 obtain ⟨u,w',rfl,⟨t,rfl⟩,⟨t',rfl⟩⟩:=uw1 r
 refine max_two_ints (I.ok.hd hc) λ h' tk k=>⟨_,H,I.kept k,?_,q⟩
 by_cases hj:j > i
 ·rw [if_pos hj,if_pos hj]; exact ⟨_,rfl⟩
 ·rw [if_neg hj,if_neg hj]; exact ⟨_,rfl⟩
end
end L2
namespace L2
open PySem PySem.Spec PyProof.Rows
structure ObjM (h:Heap) (x dx C:Addr) (mA:Str->Option Value):Prop where
 obj:h.get? x=some (PySem.W.instObj C dx)
 ns:h.Ns1 dx mA
 ne:dx ≠ x
section
variable {prog:Program} {w:World} {A:Around} {E:Value->Shared->Prop} {s:Shared} {K:PySem.W.Frag} {x dx C f:Addr} {mA:Str->Option Value} {name:Str} {v:Value}
end
theorem RelO.some_of {v:V} {o:Option Value} (r:RelO (some v) o):∃ u,o=some u /\ RelV v u:=by
 cases o with
 | none=>exact (show False from r).elim
 | some u=>exact ⟨u,rfl,r⟩
section
variable {P:Program} {w:World} {H H':Hp} {h h':Heap} {a C dx:Addr} {fs fs':List (Str × V)}
end
structure Cls (K:PySem.W.Frag) (C:Addr):Prop where
 pg:PySem.W.plainGet K C Str.empty=true
 hd:PySem.W.hasDictIn K C=true
 po:PySem.W.plainOver K C=true
 sa:PySem.W.findIn K (.ref C) "__setattr__" = some (some (.builtin "object.__setattr__"))
structure Con (K:PySem.W.Frag) (C:Addr) (f:Str) (v:V) (u:Value):Prop where
 at_:PySem.W.findIn K (.ref C) f=some (some u)
 rel:RelV v u
 get:PySem.W.specialIn K u "__get__" = some none
 cp:PySem.W.copiedNames.contains f=false
structure Meth (K:PySem.W.Frag) (C:Addr) (m:Str) (f:Addr):Prop where
 at_:PySem.W.findIn K (.ref C) m=some (some (.ref f))
 fn:PySem.W.isFn K (.ref f)=true
 kp:PySem.W.keepIn K (.ref f)=true
section
variable {X:Cx} {pins:List (Addr × Obj)} {σ:St} {H:Hp} {s:Shared} {a C dx:Addr} {fs:List (Str × V)} {f:Str} {v:V} {A:Around} {E:Value->Shared->Prop}
end
section
variable {X:Cx} {o e value:Expr} {f:Str} {pos pos' tpos:Pos} {ta tv:TE}
end
section
variable {X:Cx} {pins:List (Addr × Obj)} {σ:St} {H:Hp} {s:Shared} {A:Around} {E:Value->Shared->Prop} {Q:Value->Shared->Prop} {c:Value} {b:Bool}
inductive TyOf (K:PySem.W.Frag) (H:Hp):V->Value->Prop where
 | non:TyOf K H .non (.type "NoneType")
 | bl (x:Bool):TyOf K H (.bl x) (.type "bool")
 | int (i:Int):TyOf K H (.int i) (.type "int")
 | str (x:Str):TyOf K H (.str x) (.type "str")
 | flt (x:UInt64):TyOf K H (.flt x) (.type "float")
 | lst {a:Addr} {xs:List V} (e:H a=some (.lst xs)):TyOf K H (.ref a) (.type "list")
 | frz {a:Addr} {o:Obj} {xs:List V} (e:H a=some (.frz o (.lst xs))):TyOf K H (.ref a) (.type "list")
 | tup {a:Addr} {xs:List V} (e:H a=some (.tup xs)):TyOf K H (.ref a) (.type "tuple")
 | dK {a:Addr} {kvs:List (Key × V)} (e:H a=some (.dK kvs)):TyOf K H (.ref a) (.type "dict")
 | dT {a:Addr} {kvs:List (List Key × V)} (e:H a=some (.dT kvs)):TyOf K H (.ref a) (.type "dict")
 | ins {a C dx:Addr} {fs:List (Str × V)} (e:H a=some (.ins C dx fs)) (cl:Cls K C) (ha:PySem.W.findIn K (.ref C) "__class__" = some (some (.builtin "object.__class__")))
     (hn:PySem.W.specialIn K (.builtin "object.__class__") "__get__" = some (some (.builtin "getset_descriptor.__get__"))) (htk:PySem.W.takesIn K (.builtin "object.__class__")=some true)
     (hm:PySem.W.mroIn K C (.type "object")=some true):TyOf K H (.ref a) (.ref C)
end
end L2
namespace L2
open PySem PySem.Spec PyProof.Rows
structure Room (k:Nat) (A:Around):Prop where
 hd:A.handled=none
 dp:A.depth + 3 * k + 5 < recursionLimit
 un:A.units + 16 * k + 200 < cLine
theorem Room.mono {j k:Nat} {A:Around} (r:Room k A) (h:j<=k):Room j A:=⟨r.hd,by have:=r.dp; omega,by have:=r.un; omega⟩
theorem Room.deeper {k:Nat} {A:Around} (r:Room (k + 1) A) (env:Env):Room k (A.deeper env) :=
 ⟨r.hd,by have:=r.dp; show A.depth + 1 + 3 * k + 5 < _; omega,by have:=r.un; show A.units + 3 + 16 * k + 200 < _; omega⟩
theorem Room.depth {k:Nat} {A:Around} (r:Room k A):A.depth < recursionLimit:=by have:=r.dp; omega
noncomputable def tNil:TA:=λ _ H Q=>Q [] H
noncomputable def zo3 (ta:TE) (tr:TA):TA:=λ σ H Q=>ta σ H λ x H1=>tr σ H1 λ xs H2=>Q (x :: xs) H2
section
variable {X:Cx} {e:Expr} {es:List Expr} {te:TE} {t:TA} {pos:Pos}
theorem sg3:PA X [] tNil:=λ _ _ _ _ H Q I h=>Calls.spliced_nil ⟨[],H,I,.nil,h⟩
theorem zo2 (ha:PE X e te) (hr:PA X es t) (hs:starEach (e :: es) X.env=(false,eval e X.env) :: starEach es X.env:=by rfl):PA X (e :: es) (zo3 te t):=by
 intro pos pins s σ H Q I h
 rw [hs]
 show wpAny _ _ (spliced ((false,eval e X.env) :: backTo pos (starEach es X.env))) _ _ s
 refine Calls.spliced_cons (thn (ha pins s σ H _ I h) λ u s1 ⟨x,H1,I1,r1,q1⟩=>?_)
 exact thn (hr pos pins s1 σ H1 _ I1 q1) λ us s2 ⟨xs,H2,I2,r2,q2⟩=>⟨x :: xs,H2,I2,.cons r1 r2,q2⟩
noncomputable def tTup (t:TA):TE:=λ σ H Q=>t σ H λ xs H1=>xs.length<=sizeLine /\ ∀ p,H1 p=none->Q (.ref p) (upd H1 p (.tup xs))
noncomputable def tLst (t:TA):TE:=λ σ H Q=>t σ H λ xs H1=>xs.length<=sizeLine /\ ∀ p,H1 p=none->Q (.ref p) (upd H1 p (.lst xs))
theorem tf2 {x1} (h:PA X es t):PE X (.Tuple es x1 pos) (tTup t):=by
 intro pins s σ H Q I hq
 refine wpAny_Tuple_spliced (thn (h pos pins s σ H _ I hq) λ us s1 ⟨xs,H1,I1,r,z,q⟩=>⟨by rw [<- r.length]; exact z,?_⟩)
 have hf:H1 s1.heap.objs.size=none:=I1.hok.fresh (Nat.le_refl _)
 refine ⟨.ref s1.heap.objs.size,upd H1 s1.heap.objs.size (.tup xs),I1.laid (t':=s1.toks) (λ b u e=>Heap.get?_push_of_some _ e) (Nat.le_refl _) ?_,rfl,q _ hf⟩
 exact ⟨z,us,r,⟨_,Heap.get?_push_size _ rfl,rfl,_,rfl⟩⟩
theorem vg3 (h:PA X es t):PE X (.List es pos) (tLst t):=by
 intro pins s σ H Q I hq
 refine wpAny_List_spliced (thn (h pos pins s σ H _ I hq) λ us s1 ⟨xs,H1,I1,r,z,q⟩=>⟨by rw [<- r.length]; exact z,?_⟩)
 have hf:H1 s1.heap.objs.size=none:=I1.hok.fresh (Nat.le_refl _)
 refine ⟨.ref s1.heap.objs.size,upd H1 s1.heap.objs.size (.lst xs),I1.laid (t':=s1.toks) (λ b u e=>Heap.get?_push_of_some _ e) (Nat.le_refl _) ?_,rfl,q _ hf⟩
 exact ⟨z,us,0,r,Heap.get?_push_size _ rfl⟩
end
noncomputable abbrev Sp:=List V->Hp->VK->XK->Prop
noncomputable abbrev CXT:=List Env->Hp->Shared->XK->Value->Shared->Prop
structure Env0 (P:Program) (w:World) (K:PySem.W.Frag) (mg:Str->Option Value) (base:Heap) (A:Around) (outer:List Env) (s:Shared) (H:Hp):Prop where
 frames:A.frames=some outer
 mod:Mod K mg base
 bs:∀ b o,base.get? b=some o->s.heap.get? b=some o /\ H b=none
 bsz:base.objs.size<=s.heap.objs.size
 funs:s.heap.FunFrames base outer
 frf:∀ b ∈ frs outer,H b=none
 hok:HOk P w H s.heap
 bare:AllBare s.gens
noncomputable def CE (outer:List Env) (P:Program) (w:World) (H:Hp) (s:Shared) (Q:VK) (u:Value) (s':Shared):Prop :=
 ∃ v H',s'.os=s.os /\ AllBare s'.gens /\ Un (frs outer) [] H H' s.heap s'.heap /\ HOk P w H' s'.heap /\ RelV v u /\ Q v H'
noncomputable def CR (CX:CXT) (outer:List Env) (P:Program) (w:World) (H:Hp) (s:Shared) (Q:VK) (E:XK) (r:Result) (s':Shared):Prop :=
 match r with
 | .ok (.ret u)=>CE outer P w H s Q u s'
 | .ok _=>False
 | .error e=>CX outer H s E e s'
structure FnOk (P:Program) (w:World) (K:PySem.W.Frag) (mg:Str->Option Value) (base:Heap) (CX:CXT) (k:Nat) (f:Addr) (fd:FuncData) (ps:List Str) (sp:Sp):Prop where
 len:∀ vs H Q E,sp vs H Q E->vs.length=ps.length
 run:∀ (A:Around) (outer:List Env) (s:Shared) (H:Hp) (args:Args) (us:List Value) (vs:List V) (Q:VK) (E:XK),Room k A->Env0 P w K mg base A outer s H->BindsTo s fd args (ps.zip us)->Vals vs us->sp vs H Q E ->
  codeAny (model P w) A (.call (.ref f) args) (CR CX outer P w H s Q E) s
theorem FnOk.mono {P:Program} {w:World} {K:PySem.W.Frag} {mg:Str->Option Value} {base:Heap} {CX:CXT} {j k:Nat} {f:Addr} {fd:FuncData} {ps:List Str} {sp:Sp} (F:FnOk P w K mg base CX j f fd ps sp) (h:j<=k) :
    FnOk P w K mg base CX k f fd ps sp:=⟨F.len,λ A outer s H args us vs Q E hr=>F.run A outer s H args us vs Q E (hr.mono h)⟩
section
variable {X:Cx} {pins:List (Addr × Obj)} {σ:St} {H:Hp} {s s':Shared}
theorem Inv.env0 (I:Inv X pins σ H s):Env0 X.prog X.w X.K X.mg X.base X.A X.stack s H :=
 ⟨I.ok.frames,I.ok.mod,I.bs,Nat.le_trans I.ok.bsz I.sz,I.stack,I.stkFree,I.hok,I.bare⟩
theorem Inv.after {Q:VK} {u:Value} (I:Inv X pins σ H s) (h:CE X.stack X.prog X.w H s Q u s'):EP X pins σ Q u s':=by
 obtain ⟨v,H',os,bare,un,hok,r,q⟩:=h
 obtain ⟨hh,g,d,t,os'⟩:=s'
 obtain rfl:os'=s.os:=os
 exact ⟨v,H',I.call (h':=hh) (g':=g) (d':=d) (t':=t) (ch:=[]) un hok bare (λ b z=>absurd z (by simp)),r,q⟩
end
noncomputable def wo3 (sp:Sp) (dvs:List V) (E:XK) (t:TA):TE:=λ σ H Q=>t σ H λ vs H1=>sp (vs ++ dvs) H1 Q E
noncomputable def Binds (K:PySem.W.Frag) (fd:FuncData) (ps:List Str) (ds:List Value):Prop :=
 ∀ (s:Shared) (us:List Value),K.In s.heap->(us ++ ds).length=ps.length->BindsTo s fd ⟨us,[]⟩ (ps.zip (us ++ ds))
theorem Binds.all {K:PySem.W.Frag} {fd:FuncData} {ps:List Str} (h:∀ us:List Value,us.length=ps.length->bindArgs fd ⟨us,[]⟩=pure (ps.zip us)):Binds K fd ps []:=λ s us _ hl=>by
 rw [List.append_nil] at hl ⊢
 exact .of_eq (h us hl)
noncomputable def yw1 (CX:CXT) (X:Cx) (E:XK):Prop:=∀ (pins:List (Addr × Obj)) (σ:St) (H:Hp) (s:Shared) (e:Value) (s':Shared),Inv X pins σ H s->CX X.stack H s E e s'->X.xe e s'
section
variable {X:Cx} {CX:CXT} {k:Nat} {f C:Addr} {fd:FuncData} {ps:List Str} {sp:Sp} {dvs:List V} {ds:List Value} {E:XK} {x m:Str} {p pos apos:Pos} {e o:Expr} {es:List Expr} {ta:TE} {t:TA}
theorem xy2 {pins:List (Addr × Obj)} {σ:St} {H:Hp} {s:Shared} {Q:VK} {us:List Value} {vs:List V} (F:FnOk X.prog X.w X.K X.mg X.base CX k f fd ps sp) (hr:Room k X.A) (hb:Binds X.K fd ps ds) (hd:Vals dvs ds) (hx:yw1 CX X E)
    (I:Inv X pins σ H s) (r:Vals vs us) (h:sp (vs ++ dvs) H Q E):wpAny (model X.prog X.w) X.A (call (.ref f) us) (EP X pins σ Q) X.xe s:=by
 have r2:Vals (vs ++ dvs) (us ++ ds):=r.append hd
 have hl:(us ++ ds).length=ps.length:=by rw [<- r2.length]; exact F.len _ _ _ _ h
 refine wpAny_call (codeAny_mono (F.run X.A X.stack s H ⟨us,[]⟩ (us ++ ds) (vs ++ dvs) Q E hr I.env0 (hb s us I.kIn hl) r2 h) λ r s' hq=>?_)
 cases r with
 | error e=>exact hx pins σ H s e s' I hq
 | ok fl =>
  cases fl with
  | ret u=>exact I.after hq
  | next=>exact False.elim hq
  | brk=>exact False.elim hq
  | cont=>exact False.elim hq
theorem tn2 (F:FnOk X.prog X.w X.K X.mg X.base CX k f fd ps sp) (hr:Room k X.A) (hg:Gl X x) (hm:X.mg x=some (.ref f)) (hk:PySem.W.keepIn X.K (.ref f)=true) (hb:Binds X.K fd ps ds) (hd:Vals dvs ds) (hx:yw1 CX X E)
    (ha:PA X (e :: es) t) (hdb:(x == ("__debug__" : Str))=false:=by decide) (he:starEach (e :: es) X.env=(false,eval e X.env) :: starEach es X.env:=by rfl) (hpl:(backTo pos (starEach es X.env)).any (·.1)=false:=by rfl) :
    PE X (.Call (.Name x p) (e :: es) [] pos) (wo3 sp dvs E t):=by
 intro pins s σ H Q I h
 refine wpAny_Call_Name_kw (vq1 I hg hm ?_ hdb)
 refine PySem.W.callWith_K (h₀:=X.base) I.ok.mod.kin hk (thn (ha pos pins s σ H _ I h) λ us s1 ⟨vs,H1,I1,r,q⟩=>⟨I1.kIn,?_⟩) he hpl
 exact xy2 F hr hb hd hx I1 r q
structure Mk (K:PySem.W.Frag) (C f:Addr):Prop where
 makes:PySem.W.makesIn K C=true
 init:PySem.W.findIn K (.ref C) "__init__" = some (some (.ref f))
 fn:PySem.W.isFn K (.ref f)=true
 kp:PySem.W.keepIn K (.ref C)=true
end
section
variable {X:Cx} {CX:CXT} {k:Nat} {f C:Addr} {fd:FuncData} {ps ks:List Str} {sp:Sp} {E:XK} {x m:Str} {p pos apos kpos:Pos} {e o:Expr} {es:List Expr} {kws:List Keyword} {te ta:TE} {t tk:TA} {nm:Option Str}
structure KBinds (K:PySem.W.Frag) (fd:FuncData) (ps ks:List Str) (g:List Value->List Value->List Value) (gV:List V->List V->List V):Prop where
 to:∀ (s:Shared) (us ws:List Value),K.In s.heap->(g us ws).length=ps.length->BindsTo s fd ⟨us,ks.zip ws⟩ (ps.zip (g us ws))
 rel:∀ {vs:List V} {us:List Value} {zs:List V} {ws:List Value},Vals vs us->Vals zs ws->Vals (gV vs zs) (g us ws)
variable {g:List Value->List Value->List Value} {gV:List V->List V->List V}
end
structure FnScope (N P:List Str) (sc:Scope):Prop where
 kind:sc.kind=.function
 co:sc.isCoroutine=false
 gen:sc.isGenerator=false
 nd:N.Nodup
 pre:N.take P.length=P
 par:∀ x ∈ P,sc.names.lookup x=some .local \/ sc.names.lookup x=some .cell
 nofree:∀ y ∈ sc.names,y.2 ≠ .free
theorem ww0 {kindOf:Str->Option NameKind} {x:Str}:∀ {binds:List (Str × Value)} {m:Str->Option Value},(∀ v,(x,v) ∉ binds)->bindL kindOf binds m x=m x
 | [],_,_=>rfl
 | (n,v) :: r,m,h=>by
  unfold bindL
  rw [ww0 λ w hw=>h w (List.mem_cons_of_mem _ hw)]
  split
  ·have:x ≠ n:=by rintro rfl; exact h v List.mem_cons_self
   simp [this]
  ·rfl
theorem uw0 {kindOf:Str->Option NameKind} {x:Str}:∀ {binds:List (Str × Value)} {m:Str->Option Value},(∀ v,(x,v) ∉ binds)->bindC kindOf binds m x=m x
 | [],_,_=>rfl
 | (n,v) :: r,m,h=>by
  unfold bindC
  rw [uw0 λ w hw=>h w (List.mem_cons_of_mem _ hw)]
  split
  ·rfl
  ·have:x ≠ n:=by rintro rfl; exact h v List.mem_cons_self
   simp [this]
theorem vw0 {kindOf:Str->Option NameKind} {x:Str} {v:Value}:∀ {P:List Str} {vs:List Value} {i:Nat} {m:Str->Option Value},P.Nodup->P[i]?=some x->vs[i]?=some v->kindOf x=some .local ->
    bindL kindOf (P.zip vs) m x=some v
 | [],_,_,_,_,h,_,_=>by simp at h
 | _ :: _,[],_,_,_,_,h,_=>by simp at h
 | p :: P,w :: vs,0,m,nd,h1,h2,hk=>by
  simp at h1 h2; subst h1; subst h2
  show bindL kindOf ((p,w) :: P.zip vs) m p=_
  unfold bindL
  rw [ww0 λ v hv=>(List.nodup_cons.mp nd).1 (List.of_mem_zip hv).1,if_pos hk]
  simp
 | p :: P,w :: vs,i + 1,m,nd,h1,h2,hk=>by
  show bindL kindOf ((p,w) :: P.zip vs) m x=_
  unfold bindL
  exact vw0 (i:=i) (List.nodup_cons.mp nd).2 (by simpa using h1) (by simpa using h2) hk
theorem tw0 {kindOf:Str->Option NameKind} {x:Str} {v:Value}:∀ {P:List Str} {vs:List Value} {i:Nat} {m:Str->Option Value},P.Nodup->P[i]?=some x->vs[i]?=some v->kindOf x ≠ some .local ->
    bindC kindOf (P.zip vs) m x=some v
 | [],_,_,_,_,h,_,_=>by simp at h
 | _ :: _,[],_,_,_,_,h,_=>by simp at h
 | p :: P,w :: vs,0,m,nd,h1,h2,hk=>by
  simp at h1 h2; subst h1; subst h2
  show bindC kindOf ((p,w) :: P.zip vs) m p=_
  unfold bindC
  rw [uw0 λ v hv=>(List.nodup_cons.mp nd).1 (List.of_mem_zip hv).1,if_neg hk]
  simp
 | p :: P,w :: vs,i + 1,m,nd,h1,h2,hk=>by
  show bindC kindOf ((p,w) :: P.zip vs) m x=_
  unfold bindC
  exact tw0 (i:=i) (List.nodup_cons.mp nd).2 (by simpa using h1) (by simpa using h2) hk
noncomputable def start (N:List Str) (vs:List V):St:=vs.map some ++ List.replicate (N.length - vs.length) none
noncomputable def cxOf (CX:CXT) (P:Program) (w:World) (K:PySem.W.Frag) (mg:Str->Option Value) (base:Heap) (N:List Str) (qual:Str) (scope:Scope) (f:Addr) (cd:Value) (A:Around) (outer:List Env) (s:Shared) (H:Hp) (E:XK):Cx where
 prog:=P
 w:=w
 K:=K
 mg:=mg
 base:=base
 A:=A.deeper (envOfC qual scope s.heap.objs.size f cd)
 N:=N
 s₀:=s
 H₀:=H
 env:=envOfC qual scope s.heap.objs.size f cd
 outer:=outer
 stack:=envOfC qual scope s.heap.objs.size f cd :: outer
 ex:=[]
 calm:=true
 fn:=λ _=>true
 pn:=[]
 xe:=λ e s'=>wpAny (model P w) (A.deeper (envOfC qual scope s.heap.objs.size f cd)) (leaving (envOfC qual scope s.heap.objs.size f cd) e) (λ _ s''=>CX outer H s E e s'') (λ e' s''=>CX outer H s E e' s'') s'
theorem ts0 {sc:Scope} {n:Nat} {x:Str} (h:sc.names.lookup x=some .cell):∃ c,(cellsFrom n sc.names []).lookup x=some c:=by
 have q:=PySem.W.cellsFrom_some sc.names n [] (.inl h)
 exact Option.isSome_iff_exists.mp q
theorem yr1 {CX:CXT} {P:Program} {w:World} {K:PySem.W.Frag} {mg:Str->Option Value} {base:Heap} {N ps:List Str} {qual:Str} {scope:Scope} {f:Addr} {cd:Value} {A:Around} {outer:List Env} {s s1:Shared} {H:Hp} {E:XK} {us:List Value} {vs:List V}
    (S:FnScope N ps scope) (hd:A.handled=none) (e0:Env0 P w K mg base A outer s H) (hl:vs.length=ps.length) (r:Vals vs us)
    (x:InCallC s s.heap.objs.size (bindL (envOfC qual scope s.heap.objs.size f cd).kindOf (ps.zip us) λ _=>none) (cellsFrom (s.heap.objs.size + 1) scope.names []) (bindC (envOfC qual scope s.heap.objs.size f cd).kindOf (ps.zip us) λ _=>none) s1) :
    Inv (cxOf CX P w K mg base N qual scope f cd A outer s H E) [] (start N vs) H s1:=by
 have hpl:ps.length<=N.length:=by have:=congrArg List.length S.pre; rw [List.length_take] at this; omega
 obtain ⟨h1,tk,rfl,hk⟩:=x.done
 have noA:∀ b:Addr,b ∉ (cxOf CX P w K mg base N qual scope f cd A outer s H E).ex:=λ b z=>absurd (show b ∈ ([]:List Addr) from z) (by simp)
 refine ⟨⟨e0.mod,S.kind,rfl,rfl,Nat.le_refl _,λ y z c h1 h2=>?_,λ y hy=>?_,λ y c _ h=>?_,λ _=>hd,Around.frames_deeper e0.frames,.inr ⟨rfl,rfl⟩,λ b z=>absurd z (noA b),e0.bs,e0.bsz,λ b _ _=>noA b,λ b z=>absurd z (noA b),e0.funs,e0.frf⟩,
  rfl,e0.bare,Un.kept hk,⟨_,x.toInCall.ns,λ i y v h1 h2 h3=>?_⟩,λ y c h=>⟨_,x.cell y c h⟩,e0.hok.fresh (Nat.le_refl _),λ y c h=>?_,λ p hp=>absurd (show p ∈ ([]:List (Addr × Obj)) from hp) (by simp),e0.hok.kept hk,?_⟩
 ·exact name_of_addr x.apart (PySem.mem_of_lookup h1) (PySem.mem_of_lookup h2)
 ·have hy:scope.names.lookup y=some .cell \/ scope.names.lookup y=some .free:=hy
  rcases hy with hy | hy
  ·exact ts0 hy
  ·exact absurd rfl (S.nofree _ (PySem.mem_of_lookup hy))
 ·exact Nat.le_of_lt (x.above y c (PySem.mem_of_lookup h))
 ·have hi:i < vs.length:=by
    unfold start at h2
    by_cases hi:i < vs.length
    ·exact hi
    ·rw [List.getElem?_append_right (by simpa using hi)] at h2
     rw [List.getElem?_replicate] at h2
     split at h2 <;> cases h2
  have ha:vs[i]?=some v:=by
   unfold start at h2
   rw [List.getElem?_append_left (by simpa using hi),List.getElem?_map] at h2
   cases e:vs[i]? with
   | none=>rw [e] at h2; cases h2
   | some a=>rw [e] at h2; cases h2; rfl
  obtain ⟨u,hu,rv⟩:=r.get ha
  have hp:ps[i]?=some y:=by
   rw [<- S.pre,List.getElem?_take_of_lt (by omega)]; exact h1
  have ndP:ps.Nodup:=by rw [<- S.pre]; exact S.nd.sublist (List.take_sublist _ _)
  refine ⟨u,rv,?_⟩
  rcases S.par y (List.mem_of_getElem? hp) with k | k
  ·exact .inl ⟨k,vw0 ndP hp hu k⟩
  ·obtain ⟨c,e⟩:=ts0 (n:=s.heap.objs.size + 1) k
   refine .inr ⟨.inl k,c,e,?_⟩
   have q:=x.cell y c e
   rw [tw0 ndP hp hu (by show scope.names.lookup y ≠ _; rw [k]; decide)] at q
   exact q
 ·exact e0.hok.fresh (Nat.le_of_lt (x.above y c (PySem.mem_of_lookup h)))
 ·unfold start
  show _=N.length
  rw [List.length_append,List.length_map,List.length_replicate]
  omega
theorem yw3 {CX:CXT} {P:Program} {w:World} {K:PySem.W.Frag} {mg:Str->Option Value} {base:Heap} {k:Nat} {f:Addr} {name qual:Str} {params:Arguments} {body:List Stmt} {scope:Scope} {dV kV doc pm cdv ct oc:Value} {an od:Option Addr}
    {osl:Array (Option Value)} {N ps:List Str} {sp:Sp} (lk:K.lookup f=some ⟨oc,od,.func (PySem.W.fnOf name qual params body scope dV kV doc pm an cdv ct),osl⟩) (hcd:PySem.W.codeIn K cdv qual=true) (S:FnScope N ps scope)
    (len:∀ vs H Q E,sp vs H Q E->vs.length=ps.length)
    (hbody:∀ (A:Around) (outer:List Env) (s:Shared) (H:Hp) (vs:List V) (Q:VK) (E:XK),Room k (A.deeper (envOfC qual scope s.heap.objs.size f cdv))->sp vs H Q E ->
     ∃ t,PSs (cxOf CX P w K mg base N qual scope f cdv A outer s H E) body t /\ t { nx:=λ _ H'=>Q .non H',rt:=Q } (start N vs) H) :
    FnOk P w K mg base CX (k + 1) f (PySem.W.fnOf name qual params body scope dV kV doc pm an cdv ct) ps sp:=by
 refine ⟨len,λ A outer s H args us vs Q E hr e0 hb r hsp=>?_⟩
 have hl:=len _ _ _ _ hsp
 have KX:K.In s.heap:=e0.mod.kin.keeps λ b o e=>(e0.bs b o e).1
 have lim:s.heap.NoLimit:=e0.mod.nolimit.keeps λ b o e=>(e0.bs b o e).1
 have hkind:∀ y ∈ ps.zip us,scope.names.lookup y.1=some .local \/ (scope.names.lookup y.1=some .cell /\ ((cellsFrom (s.heap.objs.size + 1) scope.names []).lookup y.1).isSome=true):=λ ⟨n,v⟩ hy=>by
  rcases S.par n (List.of_mem_zip hy).1 with q | q
  ·exact .inl q
  ·exact .inr ⟨q,PySem.W.cellsFrom_some _ _ _ (.inl q)⟩
 refine codeAny_call_function hr.depth (KX _ _ lk) rfl S.co S.gen rfl (PySem.W.codeRec_of KX hcd) (hb _ _ _ _ ?_)
 refine wpAny_newFunctionEnv_cells S.kind hkind λ env he s1 x=>?_
 subst he
 refine ⟨lim.keeps x.toInCall.keep,codeAny_func ?_⟩
 obtain ⟨t,ht,hq⟩:=hbody A outer s H vs Q E (hr.deeper _) hsp
 have I:Inv (cxOf CX P w K mg base N qual scope f cdv A outer s H E) [] (start N vs) H s1:=yr1 S hr.hd e0 hl r x
 refine wpAny_mono (ht [] s1 (start N vs) H _ I hq) (λ fl s' hs=>?_) λ e s' hs=>hs
 have fin:∀ {σ':St} {H':Hp} {v:V} {u:Value},Inv (cxOf CX P w K mg base N qual scope f cdv A outer s H E) [] σ' H' s'->RelV v u->Q v H'->CE outer P w H s Q u s' :=
  λ {σ' H' v u} J rv q=>⟨v,H',J.os,J.bare,J.base,J.hok,rv,q⟩
 cases fl with
 | ret u =>
  obtain ⟨v,σ',H',J,rv,q⟩:=hs
  exact fin J rv q
 | next =>
  obtain ⟨σ',H',J,q⟩:=hs
  exact fin (v:=V.non) (u:=Value.none) J rfl q
 | brk =>
  obtain ⟨_,_,_,q⟩:=hs
  exact False.elim q
 | cont =>
  obtain ⟨_,_,_,q⟩:=hs
  exact False.elim q
end L2
namespace L2
open PySem PySem.Spec PyProof.Rows
section
variable {X:Cx} {x:Str} {p pos:Pos} {e:Expr} {es:List Expr} {t:TA} {id T:String} {r:List V->Hp->VK->Prop}
noncomputable def tCB (r:List V->Hp->VK->Prop) (t:TA):TE:=λ σ H Q=>t σ H λ vs H1=>r vs H1 Q
theorem wz1 (hc:CallR X (.builtin id) r) (hg:Gl X x) (hm:X.mg x=none) (hv:bootBuiltins x=some (.builtin id)) (ha:PA X (e :: es) t) (hn:x ≠ "__name__" := by decide) (hdb:(x == ("__debug__" : Str))=false:=by decide)
    (he:starEach (e :: es) X.env=(false,eval e X.env) :: starEach es X.env:=by rfl) (hpl:(backTo pos (starEach es X.env)).any (·.1)=false:=by rfl):PE X (.Call (.Name x p) (e :: es) [] pos) (tCB r t):=by
 intro pins s σ H Q I h
 refine wpAny_Call_Name_kw (yq0 I hg hm hv ?_ hn hdb)
 exact PyProof.Rows.callWith_builtin1 (thn (ha pos pins s σ H _ I h) λ us s1 ⟨vs,H1,I1,r1,q1⟩=>hc pins s1 σ H1 vs us Q I1 r1 q1) he hpl
theorem uo1 (hc:CallR X (.type T) r) (hg:Gl X x) (hm:X.mg x=none) (hv:bootBuiltins x=some (.type T)) (ha:PA X (e :: es) t) (hn:x ≠ "__name__" := by decide) (hdb:(x == ("__debug__" : Str))=false:=by decide)
    (he:starEach (e :: es) X.env=(false,eval e X.env) :: starEach es X.env:=by rfl) (hpl:(backTo pos (starEach es X.env)).any (·.1)=false:=by rfl):PE X (.Call (.Name x p) (e :: es) [] pos) (tCB r t):=by
 intro pins s σ H Q I h
 refine wpAny_Call_Name_kw (yq0 I hg hm hv ?_ hn hdb)
 exact PyProof.Rows.callWith_type1 (thn (ha pos pins s σ H _ I h) λ us s1 ⟨vs,H1,I1,r1,q1⟩=>hc pins s1 σ H1 vs us Q I1 r1 q1) he hpl
end
end L2
namespace HT
open PySem PyProof.Rows
section
open PySem.SeqAt
open PySem.AutoSeq1 (wpAny_loadPart')
open PySem.MeetsSeq PySem.MeetsSeq2 PySem.MeetsSeq3
end
section
variable {prog:Program} {w:World} {A:Around} {E:Value->Shared->Prop} {s:Shared}
theorem cat_tup {t b:Addr} {vs ws:List Value} {Q:Value->Shared->Prop} (ht:IsTup s.heap t vs.toArray) (hb:IsTup s.heap b ws.toArray) (hv:vs ≠ [])
    (h1:ws=[]->Q (.ref t) s) (h2:ws ≠ []->Q (.ref s.heap.objs.size) { s with heap:=s.heap.push { cls:=.type "tuple",data:=.seq (vs ++ ws).toArray } })
    (hsz:vs.length + ws.length<=sizeLine):wpAny (model prog w) A (binaryOp .Add (.ref t) (.ref b)) Q E s:=by
 obtain ⟨⟨cls,dd,data,sl⟩,ho,hc,n,hd⟩:=id ht
 obtain ⟨⟨cls2,dd2,data2,sl2⟩,ho2,hc2,n2,hd2⟩:=id hb
 simp only at hc hd hc2 hd2
 subst hc hd hc2 hd2
 have e:vs.toArray ++ ws.toArray=(vs ++ ws).toArray:=by simp
 by_cases hw:ws=[]
 ·exact concat_meets ⟨_,ho,rfl⟩ ⟨_,ho2,rfl⟩ noFill_tuple_add seq_tuple_add PySem.F.slot_tuple_add PySem.F.entry_tuple_add (PySem.F.args_tuple_add_2 _ _)
    (tuple_addW1 t b vs.toArray ws.toArray n n2 dd dd2 sl sl2 (by simpa using hv) (by simp [hw])) ⟨ho,ho2,h1 hw⟩
 ·refine concat_meets ⟨_,ho,rfl⟩ ⟨_,ho2,rfl⟩ noFill_tuple_add seq_tuple_add PySem.F.slot_tuple_add PySem.F.entry_tuple_add (PySem.F.args_tuple_add_2 _ _)
    (tuple_addW2 t b vs.toArray ws.toArray n n2 dd dd2 sl sl2 (by simpa using hv) (by simpa using hw) (by rw [List.size_toArray,List.size_toArray]; exact hsz)) ⟨ho,ho2,?_⟩
  rw [e]
  exact h2 hw
noncomputable def sIx (n d:Nat):Option Int->Nat
 | none=>d
 | some v=>if v < 0 then (v + (n:Int)).toNat else min v.toNat n
theorem tx2 (n d:Nat) (hd:d<=n) (o:Option Int):sIx n d o<=n:=by
 cases o with
 | none=>exact hd
 | some v =>
  show (if v < 0 then (v + (n:Int)).toNat else min v.toNat n)<=n
  by_cases hv:v < 0
  ·rw [if_pos hv]; omega
  ·rw [if_neg hv]; exact Nat.min_le_right _ _
theorem yu1 (v:Int) (n d:Nat):(if v < 0 then max (v + (n:Int)) 0 else min v (n:Int))=((sIx n d (some v):Nat):Int):=by
 show (if v < 0 then max (v + (n:Int)) 0 else min v (n:Int))=(((if v < 0 then (v + (n:Int)).toNat else min v.toNat n):Nat):Int)
 by_cases hv:v < 0
 ·simp only [if_pos hv]; omega
 ·simp only [if_neg hv]; omega
theorem yj1 (lo hi:Option Int) (n:Nat):Builtin.Slice.sliceAdjust lo hi 1 (n:Int)=(((sIx n 0 lo:Nat):Int),((sIx n n hi:Nat):Int)):=by
 have h1:¬ ((1:Int) < 0):=by omega
 unfold Builtin.Slice.sliceAdjust
 simp only [h1,if_false]
 refine Prod.ext ?_ ?_
 ·cases lo with
  | none=>rfl
  | some v=>exact yu1 v n 0
 ·cases hi with
  | none=>rfl
  | some v=>exact yu1 v n n
theorem xh1 (i j:Nat):Builtin.Slice.slicePlaces (i:Int) (j:Int) 1=j - i:=by
 unfold Builtin.Slice.slicePlaces
 have h1:(1:Int) > 0:=by omega
 simp only [h1,if_true,Int.ediv_one]
 split <;> omega
theorem up0 {v:Value} {o:Option Int} {Q:Option Int->Shared->Prop} (p:IsPart v o) (h:Q o s):wpAny (model prog w) A (Builtin.Slice.slicePartIndex v) Q E s:=by
 cases p with
 | none=>exact slicePart_none h
 | int i t=>exact slicePart_int h
theorem sliceApplied_gen {sl:Addr} {vl vu:Value} {lo hi:Option Int} {n:Nat} {Q:Int × Int × Nat->Shared->Prop} (hs:s.heap.IsSliceOf sl vl vu .none) (pl:IsPart vl lo) (pu:IsPart vu hi)
    (h:Q (((sIx n 0 lo:Nat):Int),1,sIx n n hi - sIx n 0 lo) s):wpAny (model prog w) A (Builtin.Slice.sliceApplied (.ref sl) (pure (n:Int))) Q E s:=by
 obtain ⟨os,hos,hcs,hds⟩:=id hs
 unfold Builtin.Slice.sliceApplied Builtin.Slice.sliceFields
 refine wpAny_bind (wpAny_bind (wpAny_field hos hds (x:=vl) rfl (wpAny_bind (wpAny_field hos hds (x:=vu) rfl (wpAny_bind (wpAny_field hos hds (x:=.none) rfl (wpAny_pure ?_)))))))
 refine wpAny_bind (slicePart_none ?_)
 show wpAny _ _ (if ((1:Int) == 0)=true then _ else _) _ _ s
 rw [if_neg (by decide)]
 refine wpAny_bind (up0 pl (wpAny_bind (up0 pu (wpAny_bind (wpAny_pure ?_)))))
 show wpAny _ _ (match Builtin.Slice.sliceAdjust lo hi 1 (n:Int) with | (lo,hi)=>pure (lo,(1:Int),Builtin.Slice.slicePlaces lo hi 1)) _ _ s
 rw [yj1 lo hi n]
 show wpAny _ _ (pure (((sIx n 0 lo:Nat):Int),(1:Int),Builtin.Slice.slicePlaces ((sIx n 0 lo:Nat):Int) ((sIx n n hi:Nat):Int) 1)) _ _ s
 rw [xh1]
 exact wpAny_pure h
theorem xz1 (xs:Array Value) (i k:Nat):((List.range k).filterMap λ (m:Nat)=>xs[((i:Int) + (m:Int) * 1).toNat]?).toArray=((xs.toList.drop i).take k).toArray:=by
 have e:(λ (m:Nat)=>xs[((i:Int) + (m:Int) * 1).toNat]?)=λ m=>xs[i + m]?:=by
  funext m
  have:((i:Int) + (m:Int) * 1).toNat=i + m:=by omega
  rw [this]
 rw [e]
 have:=pick_run xs i k
 rw [List.filterMap_map] at this
 have e2:((λ x=>xs[x]?) ∘ λ x=>i + x)=λ m=>xs[i + m]?:=rfl
 rw [e2] at this
 rw [this]
theorem getItem_tuple_cut {t sl:Addr} {items:Array Value} {vl vu:Value} {lo hi:Option Int} {Q:Value->Shared->Prop} (ht:IsTup s.heap t items) (hs:s.heap.IsSliceOf sl vl vu .none) (pl:IsPart vl lo) (pu:IsPart vu hi)
    (hw:¬ (sIx items.size 0 lo=0 /\ sIx items.size items.size hi=items.size))
    (h:Q (.ref s.heap.objs.size) { s with heap:=s.heap.push { cls:=.type "tuple",data:=.seq ((items.toList.drop (sIx items.size 0 lo)).take (sIx items.size items.size hi - sIx items.size 0 lo)).toArray } })
    (hsz:items.size<=sizeLine):wpAny (model prog w) A (getItem (.ref t) (.ref sl)) Q E s:=by
 have htake:sizeOk (.seq ((items.toList.drop (sIx items.size 0 lo)).take (sIx items.size items.size hi - sIx items.size 0 lo)).toArray):=by
  show ((items.toList.drop (sIx items.size 0 lo)).take (sIx items.size items.size hi - sIx items.size 0 lo)).toArray.size<=sizeLine
  rw [List.size_toArray,List.length_take,List.length_drop,Array.length_toList]
  omega
 have hj:sIx items.size items.size hi<=items.size:=tx2 _ _ (Nat.le_refl _) hi
 obtain ⟨os,hos,hcs,hds⟩:=id hs
 have hTs:s.TypeIs (.ref sl) "slice" := ⟨os,hos,hcs⟩
 unfold getItem
 try with_reducible refine wpAny_holding ?_
 first | refine wpAny_bind (wpAny_pure ?_) | skip
 refine wpAny_bind (wpAny_sequenceKey ht.typeIs (by decide) ?_)
 refine wpAny_bind (wpAny_callSpecial?_slot (name:=Str.ofString "__getitem__") ht.typeIs PyProof.Rows.slot_tuple_getitem
  (wpAny_call_entry PyProof.Rows.slot_tuple_getitem ht.typeIs entry_tuple_getitem ?_ (args_tuple_getitem _ _)))
 show wpAny _ _ (Builtin.Tuple.tupleItemsOf (.ref t) >>= _) _ _ s
 refine wpAny_bind (tupleItemsOf_ ht ?_)
 refine wpAny_bind (wpAny_typeOf hTs ?_)
 rw [if_pos (by decide)]
 refine wpAny_bind (sliceApplied_gen hs pl pu ?_)
 have hno:¬ ((((sIx items.size 0 lo:Nat):Int) == 0 && (1:Int) == 1 && (sIx items.size items.size hi - sIx items.size 0 lo) == items.size)=true):=by
  intro q
  rw [Bool.and_eq_true,Bool.and_eq_true] at q
  have q1:((sIx items.size 0 lo:Nat):Int)=0:=eq_of_beq q.1.1
  have q2:sIx items.size items.size hi - sIx items.size 0 lo=items.size:=eq_of_beq q.2
  exact hw ⟨by omega,by omega⟩
 show wpAny _ _ (if (((sIx items.size 0 lo:Nat):Int) == 0 && (1:Int) == 1 && (sIx items.size items.size hi - sIx items.size 0 lo) == items.size)=true then _ else _) _ _ s
 rw [if_neg hno,xz1]
 first
  | exact wpAny_bind (m:=Builtin.Tuple.tupleExact _) (wpAny_newObj_type (wpAny_pure ⟨_,rfl,wpAny_pure h⟩) htake)
  | exact wpAny_bind (m:=Builtin.Tuple.tupleExact _) (wpAny_newObj_type (wpAny_bind (wpAny_pure (wpAny_pure ⟨_,rfl,wpAny_pure h⟩))) htake)
  | exact wpAny_bind (wpAny_bind (m:=Builtin.Tuple.tupleExact _) (wpAny_newObj_type (wpAny_pure (wpAny_pure ⟨_,rfl,wpAny_pure h⟩)) htake))
  | exact wpAny_bind (wpAny_bind (m:=Builtin.Tuple.tupleExact _) (wpAny_newObj_type (wpAny_pure ⟨_,rfl,wpAny_pure h⟩) htake))
end
end HT
namespace L2
open PySem PySem.Spec PyProof.Rows
noncomputable abbrev TO:=St->Hp->(Option Int->Hp->Prop)->Prop
noncomputable def PO (X:Cx) (e:Option Expr) (t:TO):Prop :=
 ∀ (pins:List (Addr × Obj)) (s:Shared) (σ:St) (H:Hp) (Q:Option Int->Hp->Prop),Inv X pins σ H s->t σ H Q ->
  wpAny (model X.prog X.w) X.A (evalPart e X.env) (λ u s'=>∃ o H',Inv X pins σ H' s' /\ IsPart u o /\ Q o H') X.xe s
noncomputable def xj2:TO:=λ _ H Q=>Q none H
noncomputable def vn3 (t:TE):TO:=λ σ H Q=>t σ H λ x H1=>∃ i,x=.int i /\ Q (some i) H1
theorem zq0 {ns:List Int}:∀ {us:List Value},Vals (ns.map V.int) us->IntsAre us ns:=by
 induction ns with
 | nil=>intro us r; rw [List.map_nil] at r; cases r; exact .nil
 | cons n ns ih =>
  intro us r
  rw [List.map_cons] at r
  cases r with
  | cons r1 r2 =>
   obtain ⟨t,e⟩:=r1
   subst e
   exact .cons n t (ih r2)
section
variable {X:Cx} {e:Expr} {te:TE} {lo hi:Option Expr} {tl th:TO} {pos p2:Pos}
theorem um2:PO X none xj2:=by
 intro pins s σ H Q I h
 rw [evalPart_none]
 exact wpAny_pure ⟨none,H,I,.none,h⟩
theorem vm2 (h:PE X e te):PO X (some e) (vn3 te):=by
 intro pins s σ H Q I hw
 rw [evalPart_some]
 refine thn (h pins s σ H _ I hw) λ u s1 ⟨x,H1,I1,r1,q1⟩=>?_
 obtain ⟨i,rfl,q⟩:=q1
 obtain ⟨t,rfl⟩:=r1
 exact ⟨some i,H1,I1,.int i t,q⟩
noncomputable def SlR (X:Cx) (r:V->Option Int->Option Int->Hp->VK->Prop):Prop :=
 ∀ (pins:List (Addr × Obj)) (s:Shared) (σ:St) (H:Hp) (x:V) (v vl vu:Value) (lo hi:Option Int) (sl:Addr) (Q:VK),Inv X pins σ H s->RelV x v->s.heap.IsSliceOf sl vl vu .none->IsPart vl lo->IsPart vu hi->r x lo hi H Q ->
  ∃ T id,typeLookup (.type T) "__getitem__" = pure (some (.builtin id)) /\ s.TypeIs v T /\ wpAny (model X.prog X.w) X.A (getItem v (.ref sl)) (EP X pins σ Q) X.xe s
theorem SlR.or {r r':V->Option Int->Option Int->Hp->VK->Prop} (h:SlR X r) (h':SlR X r'):SlR X (λ x lo hi H Q=>r x lo hi H Q \/ r' x lo hi H Q):=by
 intro pins s σ H x v vl vu lo hi sl Q I rx hs pl pu q
 rcases q with q | q
 ·exact h pins s σ H x v vl vu lo hi sl Q I rx hs pl pu q
 ·exact h' pins s σ H x v vl vu lo hi sl Q I rx hs pl pu q
noncomputable def tSl (r:V->Option Int->Option Int->Hp->VK->Prop) (te:TE) (tl th:TO):TE:=λ σ H Q=>te σ H λ x H1=>tl σ H1 λ l H2=>th σ H2 λ u H3=>r x l u H3 Q
theorem zz1 {r:V->Option Int->Option Int->Hp->VK->Prop} (hr:SlR X r) (he:PE X e te) (hl:PO X lo tl) (hu:PO X hi th):PE X (.Subscript e (.Slice lo hi none p2) pos) (tSl r te tl th):=by
 intro pins s σ H Q I h
 refine Subscript_ (thn (he pins s σ H _ I h) λ v s1 ⟨x,H1,I1,r1,q1⟩=>?_)
 refine wpAny_Slice (thn (hl pins s1 σ H1 _ I1 q1) λ vl s2 ⟨l,H2,I2,pl,q2⟩=>thn (hu pins s2 σ H2 _ I2 q2) λ vu s3 ⟨u,H3,I3,pu,q3⟩=>?_)
 rw [evalPart_none]
 refine wpAny_pure ?_
 have I4:Inv X pins σ H3 { s3 with heap:=s3.heap.push { cls:=.type "slice",data:=.fields #[vl,vu,.none] } }:=I3.kept (t':=s3.toks) λ b ob q=>Heap.get?_push_of_some _ q
 obtain ⟨T,id,hT,ht,hg⟩:=hr pins { s3 with heap:=s3.heap.push { cls:=.type "slice",data:=.fields #[vl,vu,.none] } } σ H3 x v vl vu l u s3.heap.objs.size Q I4 r1 (Heap.IsSliceOf.new ..) pl pu q3
 show wpAny (model X.prog X.w) X.A (subscriptTail e (.Slice lo hi none p2) v (.ref s3.heap.objs.size)) (EP X pins σ Q) X.xe { s3 with heap:=s3.heap.push { cls:=.type "slice",data:=.fields #[vl,vu,.none] } }
 exact tail_any (ops:=[.ref s3.heap.objs.size,v]) ht hT hg (by with_unfolding_all rfl)
noncomputable def cutV (xs:List V) (lo hi:Option Int):List V:=(xs.drop (HT.sIx xs.length 0 lo)).take (HT.sIx xs.length xs.length hi - HT.sIx xs.length 0 lo)
theorem zo0 (xs:List V) (lo hi:Option Int):(cutV xs lo hi).length<=xs.length:=by
 unfold cutV
 rw [List.length_take,List.length_drop]
 omega
noncomputable def rSlT (K:PySem.W.Frag):V->Option Int->Option Int->Hp->VK->Prop:=λ x lo hi H Q=>∃ a xs,x=.ref a /\ SqT K H a xs ∧
 ¬ (HT.sIx xs.length 0 lo=0 /\ HT.sIx xs.length xs.length hi=xs.length) /\ ∀ p,H p=none->Q (.ref p) (upd H p (.tup (cutV xs lo hi)))
theorem ww2:SlR X (rSlT X.K):=by
 intro pins s σ H x v vl vu lo hi sl Q I rx hs pl pu h
 obtain ⟨a,xs,rfl,hx,hw,q⟩:=h
 cases rx
 obtain ⟨its,r,ht,hz⟩:=I.tuple hx
 have hlen:its.toArray.size=xs.length:=by rw [List.size_toArray]; exact r.length.symm
 refine ⟨"tuple",_,PyProof.Rows.slot_tuple_getitem.lookup,ht.typeIs,?_⟩
 refine HT.getItem_tuple_cut ht hs pl pu (by rw [hlen]; exact hw) ?_ (by rw [hlen]; exact hz)
 rw [hlen]
 refine ⟨.ref s.heap.objs.size,_,I.laid (t':=s.toks) (o:=.tup (cutV xs lo hi)) (λ b ob q=>Heap.get?_push_of_some _ q) (Nat.le_refl _) ?_,rfl,q _ (I.hok.fresh (Nat.le_refl _))⟩
 exact ⟨Nat.le_trans (zo0 xs lo hi) hz,_,(r.drop (HT.sIx xs.length 0 lo)).take (HT.sIx xs.length xs.length hi - HT.sIx xs.length 0 lo),IsTup.new _ _⟩
noncomputable def vs3 (K:PySem.W.Frag):R2:=λ x y H Q=>∃ a b xs ys,x=.ref a /\ y=.ref b /\ SqT K H a xs /\ SqT K H b ys /\ xs ≠ [] /\ xs.length + ys.length<=sizeLine ∧
 (ys=[]->Q (.ref a) H) /\ (ys ≠ []->∀ p,H p=none->Q (.ref p) (upd H p (.tup (xs ++ ys))))
theorem Vals.nil_iff {xs:List V} {us:List Value} (r:Vals xs us):us=[] ↔ xs=[]:=by
 cases r with
 | nil=>simp
 | cons _ _=>simp
theorem wo2:OpR X (binaryOp .Add) (vs3 X.K):=by
 intro pins s σ H x y v u Q I rx ry h
 obtain ⟨a,b,xs,ys,rfl,rfl,ha,hb,hx,hz,q1,q2⟩:=h
 cases rx
 cases ry
 obtain ⟨its,r1,p1,_⟩:=I.tuple ha
 obtain ⟨its2,r2,p2,_⟩:=I.tuple hb
 refine HT.cat_tup p1 p2 (λ z=>hx (r1.nil_iff.mp z)) (λ z=>⟨.ref a,H,I,rfl,q1 (r2.nil_iff.mp z)⟩) (λ z=>?_) (by rw [<- r1.length,<- r2.length]; exact hz)
 refine ⟨.ref s.heap.objs.size,_,I.laid (t':=s.toks) (o:=.tup (xs ++ ys)) (λ b ob q=>Heap.get?_push_of_some _ q) (Nat.le_refl _) ?_,rfl,q2 (λ w=>z (r2.nil_iff.mpr w)) _ (I.hok.fresh (Nat.le_refl _))⟩
 exact ⟨by rw [List.length_append]; exact hz,_,r1.append r2,IsTup.new _ _⟩
end
end L2
namespace L2
open PySem PySem.Spec PyProof.Rows
noncomputable def ixN (n:Nat) (i:Int):Option Nat:=if 0<=i then (if i < n then some i.toNat else none) else if -(n:Int)<=i then some (i + n).toNat else none
noncomputable def atI {α:Type} (xs:List α) (i:Int):Option α:=(ixN xs.length i).bind λ j=>xs[j]?
theorem xr1 {n:Nat} {i:Int} {j:Nat} (h:ixN n i=some j):seqIndex? i n=some j /\ j < n /\ -(n:Int)<=i /\ i < n:=by
 unfold ixN at h
 by_cases h0:0<=i
 ·rw [if_pos h0] at h
  by_cases h1:i < n
  ·rw [if_pos h1] at h
   have e:i.toNat=j:=Option.some.inj h
   exact ⟨by rw [seqIndex_of h0 h1,e],by omega,by omega,h1⟩
  ·rw [if_neg h1] at h; cases h
 ·rw [if_neg h0] at h
  by_cases h1 : -(n:Int)<=i
  ·rw [if_pos h1] at h
   have e:(i + n).toNat=j:=Option.some.inj h
   exact ⟨by rw [seqIndex_neg (by omega) h1,e],by omega,h1,by omega⟩
  ·rw [if_neg h1] at h; cases h
theorem tv1 {α:Type} {xs:List α} {i:Int} {v:α} (h:atI xs i=some v):∃ j,seqIndex? i xs.length=some j /\ xs[j]?=some v /\ j < xs.length /\ -(xs.length:Int)<=i /\ i < xs.length:=by
 unfold atI at h
 cases e:ixN xs.length i with
 | none=>rw [e] at h; cases h
 | some j =>
  rw [e] at h
  obtain ⟨h1,h2,h3,h4⟩:=xr1 e
  exact ⟨j,h1,h,h2,h3,h4⟩
noncomputable def xw1 (b:Expr):Prop:=∀ o i,subscripted b false o i=operate [o,i] (getItem o i)
noncomputable def IxR (X:Cx) (r:R2):Prop :=
 ∀ (value slice:Expr) (pins:List (Addr × Obj)) (s:Shared) (σ:St) (H:Hp) (x y:V) (v u:Value) (Q:VK),Inv X pins σ H s->RelV x v->RelV y u->r x y H Q ->
  subscripted slice false v u=operate [v,u] (getItem v u)->wpAny (model X.prog X.w) X.A (subscriptTail value slice v u) (EP X pins σ Q) X.xe s
noncomputable def MtR (X:Cx) (id:String) (r:V->List V->Hp->VK->Prop):Prop :=
 ∀ (pins:List (Addr × Obj)) (s:Shared) (σ:St) (H:Hp) (x:V) (xs:List V) (v:Value) (us:List Value) (Q:VK),Inv X pins σ H s->RelV x v->Vals xs us->r x xs H Q ->
  wpAny (model X.prog X.w) X.A (call (.builtin id) (v :: us)) (EP X pins σ Q) X.xe s
section
variable {X:Cx} {a b:Expr} {ta tb:TE} {pos:Pos}
theorem IxR.or {r r':R2} (h:IxR X r) (h':IxR X r'):IxR X (λ x y H Q=>r x y H Q \/ r' x y H Q):=by
 intro value slice pins s σ H x y v u Q I rx ry q hs
 rcases q with q | q
 ·exact h value slice pins s σ H x y v u Q I rx ry q hs
 ·exact h' value slice pins s σ H x y v u Q I rx ry q hs
theorem ut3 {r:R2} (hr:IxR X r) (ha:PE X a ta) (hb:PE X b tb) (hs:xw1 b):PE X (.Subscript a b pos) (tOp r ta tb):=by
 intro pins s σ H Q I h
 exact Subscript_ (binT ha hb I h λ v u s2 x y H2 I2 rx ry q=>hr a b pins s2 σ H2 x y v u Q I2 rx ry q (hs _ _))
noncomputable def rIxL (K:PySem.W.Frag):R2:=λ x y H Q=>∃ p xs i v,x=.ref p /\ y=.int i /\ SqL K H p xs /\ atI xs i=some v /\ Q v H
noncomputable def rIxT (K:PySem.W.Frag):R2:=λ x y H Q=>∃ p xs i v,x=.ref p /\ y=.int i /\ SqT K H p xs /\ atI xs i=some v /\ Q v H
theorem ix_list:IxR X (rIxL X.K):=by
 intro value slice pins s σ H x y v u Q I rx ry h hs
 obtain ⟨p,xs,i,z,rfl,rfl,hq,he,q⟩:=h
 cases rx
 obtain ⟨t,rfl⟩:=ry
 obtain ⟨its,r,pl,hz⟩:=I.list hq
 obtain ⟨j,h1,h2,h3,h4,h5⟩:=tv1 he
 obtain ⟨w,ew,rw'⟩:=r.get h2
 have hl:=r.length
 have hn:=su0
 have fin:EP X pins σ Q w s:=⟨z,H,I,rw',q⟩
 by_cases h0:0<=i
 ·have hj:i.toNat=j:=by
    rw [seqIndex_of h0 h5] at h1
    exact Option.some.inj h1
  exact item_listR pl.isList h0 (by omega) (by rw [hj]; simpa using ew) fin hs
 ·have hj:(i + (its.toArray.size:Int)).toNat=j:=by
    rw [seqIndex_neg (by omega) h4] at h1
    rw [List.size_toArray,<- hl]
    exact Option.some.inj h1
  exact subscriptTail_builtinR (x:=w) pl.isList.typeIs slot_list_getitem.lookup
   (wpAny_getItem_list_neg (Q:=λ r s'=>r=w /\ EP X pins σ Q r s') pl.isList (by omega) (by rw [List.size_toArray] <;> omega) (by omega) (by rw [hj]; simpa using ew) ⟨rfl,fin⟩) hs
theorem yk3:IxR X (rIxT X.K):=by
 intro value slice pins s σ H x y v u Q I rx ry h hs
 obtain ⟨p,xs,i,z,rfl,rfl,hq,he,q⟩:=h
 cases rx
 obtain ⟨t,rfl⟩:=ry
 obtain ⟨its,r,pl,hz⟩:=I.tuple hq
 obtain ⟨j,h1,h2,h3,h4,h5⟩:=tv1 he
 obtain ⟨w,ew,rw'⟩:=r.get h2
 have hl:=r.length
 have hn:=su0
 have fin:EP X pins σ Q w s:=⟨z,H,I,rw',q⟩
 exact subscriptTail_builtinR (x:=w) pl.typeIs slot_tuple_getitem.lookup
  (getItem_tuple (j:=j) (Q:=λ r s'=>r=w /\ EP X pins σ Q r s') pl (by omega) (by omega) (by rw [List.size_toArray,<- hl]; exact h1) (by simpa using ew) ⟨rfl,fin⟩) hs
theorem xi1 (its:List Value) (n j:Nat) (u:Value):Obj.mapSeq (·.setIfInBounds j u) { cls:=.type "list",data:=.seq its.toArray n }={ cls:=.type "list",data:=.seq (its.set j u).toArray n }:=by
 simp [Obj.mapSeq]
theorem Inv.lst {pins:List (Addr × Obj)} {σ:St} {H:Hp} {s:Shared} {p:Addr} {xs:List V} (I:Inv X pins σ H s) (h:H p=some (.lst xs)) :
    ∃ (its:List Value) (n:Nat),Vals xs its /\ s.heap.get? p=some { cls:=.type "list",data:=.seq its.toArray n } /\ xs.length<=sizeLine:=by
 obtain ⟨z,its,n,r,e⟩:=I.hok p _ h
 exact ⟨its,n,r,e,z⟩
theorem Inv.lstUpd {pins:List (Addr × Obj)} {σ:St} {H:Hp} {s:Shared} {p:Addr} {xs ys:List V} {its its':List Value} {n n':Nat} {f:Obj->Obj} (I:Inv X pins σ H s) (h:H p=some (.lst xs))
    (ho:s.heap.get? p=some { cls:=.type "list",data:=.seq its.toArray n }) (hf:f { cls:=.type "list",data:=.seq its.toArray n }={ cls:=.type "list",data:=.seq its'.toArray n' }) (r:Vals ys its') (hz:ys.length<=sizeLine) (t:Nat) :
    Inv X pins σ (upd H p (.lst ys)) { s with heap:=s.heap.update p f,toks:=t }:=by
 have e:(s.heap.update p f).get? p=some { cls:=.type "list",data:=.seq its'.toArray n' }:=by
  rw [Heap.get?_update_self f ho (by rw [hf] <;> rfl),hf]
 refine I.write (x:=p) (e:=p) (by rw [h]; trivial) (.inl rfl) (λ b u hb q=>(Heap.get?_update_other _ _ (Ne.symm hb)).trans q) ⟨_,e⟩ ?_
 exact ⟨hz,its',n',r,e⟩
noncomputable def zs3:V->V->V->Hp->(Hp->Prop)->Prop:=λ o i v H Q=>∃ p xs k j,o=.ref p /\ i=.int k /\ H p=some (.lst xs) /\ ixN xs.length k=some j /\ Q (upd H p (.lst (xs.set j v)))
theorem sx1:PSet X zs3:=by
 intro pins s σ H o i v ov iv u Q I ro ri rv h
 obtain ⟨p,xs,k,j,rfl,rfl,hp,hj,q⟩:=h
 cases ro
 obtain ⟨t,rfl⟩:=ri
 obtain ⟨its,n,r,ho,hz⟩:=I.lst hp
 obtain ⟨h1,h2,h3,h4⟩:=xr1 hj
 have hl:=r.length
 have hn:=su0
 have I':Inv X pins σ (upd H p (.lst (xs.set j v))) { s with heap:=s.heap.update p (Obj.mapSeq (·.setIfInBounds j u)) } :=
  I.lstUpd hp ho (xi1 its n j u) (r.set rv j) (by rw [List.length_set]; exact hz) s.toks
 by_cases h0:0<=k
 ·have hk:k.toNat=j:=by
    rw [seqIndex_of h0 h4] at h1
    exact Option.some.inj h1
  exact PySem.W.ki_setAt ho h0 (by omega) (by rw [List.size_toArray,<- hl]; exact h4) (by rw [hk]; exact ⟨_,I',q⟩)
 ·have hk:(k + (its.toArray.size:Int)).toNat=j:=by
    rw [seqIndex_neg (by omega) h3] at h1
    rw [List.size_toArray,<- hl]
    exact Option.some.inj h1
  exact PySem.W.ki_setBack ho (by omega) (by rw [List.size_toArray,<- hl]; exact h3) (by omega) (by rw [hk]; exact ⟨_,I',q⟩)
theorem ut0 (lo hi:Option Int) (n:Nat):(sliceBounds lo hi none n).1=((HT.sIx n 0 lo:Nat):Int) /\ (sliceBounds lo hi none n).2.1=((HT.sIx n n hi:Nat):Int) /\ (sliceBounds lo hi none n).2.2=1:=by
 refine ⟨?_,?_,rfl⟩
 ·cases lo with
  | none=>simp [sliceBounds,HT.sIx]
  | some i =>
   simp only [sliceBounds,HT.sIx,Option.getD_none,show (1:Int) > 0 by decide,if_true]
   by_cases h:i < 0
   ·simp only [h,if_true] <;> omega
   ·simp only [h,if_false] <;> omega
 ·cases hi with
  | none=>simp [sliceBounds,HT.sIx]
  | some i =>
   simp only [sliceBounds,HT.sIx,Option.getD_none,show (1:Int) > 0 by decide,if_true]
   by_cases h:i < 0
   ·simp only [h,if_true] <;> omega
   ·simp only [h,if_false] <;> omega
theorem zr0 (its:List Value) (lo hi:Option Int):slicePick its.toArray lo hi none=((its.drop (HT.sIx its.length 0 lo)).take (HT.sIx its.length its.length hi - HT.sIx its.length 0 lo)).toArray:=by
 obtain ⟨h1,h2,h3⟩:=ut0 lo hi its.toArray.size
 unfold slicePick
 rw [h1,h2,h3]
 simp only [sliceRange_one,pick_run,List.size_toArray] <;> rfl
noncomputable def rSlL (K:PySem.W.Frag):V->Option Int->Option Int->Hp->VK->Prop:=λ x lo hi H Q=>∃ a xs,x=.ref a /\ SqL K H a xs /\ ∀ p,H p=none->Q (.ref p) (upd H p (.lst (cutV xs lo hi)))
theorem vj2:SlR X (rSlL X.K):=by
 intro pins s σ H x v vl vu lo hi sl Q I rx hs pl pu h
 obtain ⟨a,xs,rfl,hx,q⟩:=h
 cases rx
 obtain ⟨its,r,ht,hz⟩:=I.list hx
 have hlen:=r.length
 refine ⟨"list",_,slot_list_getitem.lookup,ht.isList.typeIs,?_⟩
 refine wpAny_getItem_list_slice ht.isList hs pl pu .none (by simp) ?_ (by rw [List.size_toArray] <;> omega)
 rw [zr0,<- hlen]
 refine ⟨.ref s.heap.objs.size,_,I.laid (t':=s.toks) (o:=.lst (cutV xs lo hi)) (λ b ob q=>Heap.get?_push_of_some _ q) (Nat.le_refl _) ?_,rfl,q _ (I.hok.fresh (Nat.le_refl _))⟩
 exact ⟨Nat.le_trans (zo0 xs lo hi) hz,_,0,(r.drop (HT.sIx xs.length 0 lo)).take (HT.sIx xs.length xs.length hi - HT.sIx xs.length 0 lo),Heap.get?_push_size _ rfl⟩
noncomputable def zs0:V->Bool
 | .non=>true
 | .bl _=>true
 | .int _=>true
 | .str _=>true
 | _=>false
noncomputable def eqV:V->V->Bool
 | .non,.non=>true
 | .bl a,.bl b=>a == b
 | .bl a,.int b=>(if a then 1 else 0) == b
 | .int a,.bl b=>a == (if b then 1 else 0)
 | .int a,.int b=>a == b
 | .str a,.str b=>a == b
 | _,_=>false
theorem tl3 {A:Around} {s:Shared} {y x:V} {u v:Value} (ry:RelV y u) (rx:RelV x v) (fy:zs0 y=true) (fx:zs0 x=true):SeqAt.EqAt A s u v (eqV y x):=by
 cases y with
 | non =>
  cases ry
  cases x with
  | non=>cases rx; exact SeqAt.EqAt.same _
  | bl b=>cases rx; exact SeqAt.EqAt.none_bool b
  | int b=>obtain ⟨t,rfl⟩:=rx; exact SeqAt.EqAt.none_int b t
  | str b=>obtain ⟨t,rfl⟩:=rx; exact SeqAt.EqAt.none_str b t
  | _=>exact absurd (show false=true from fx) Bool.false_ne_true
 | bl a =>
  cases ry
  cases x with
  | non=>cases rx; exact SeqAt.EqAt.bool_none a
  | bl b=>cases rx; exact SeqAt.EqAt.bool_bool a b
  | int b=>obtain ⟨t,rfl⟩:=rx; exact SeqAt.EqAt.bool_int a b t
  | str b=>obtain ⟨t,rfl⟩:=rx; exact SeqAt.EqAt.bool_str a b t
  | _=>exact absurd (show false=true from fx) Bool.false_ne_true
 | int a =>
  obtain ⟨t',rfl⟩:=ry
  cases x with
  | non=>cases rx; exact SeqAt.EqAt.int_none a t'
  | bl b=>cases rx; exact SeqAt.EqAt.int_bool a t' b
  | int b=>obtain ⟨t,rfl⟩:=rx; exact SeqAt.EqAt.int_int a t' b t
  | str b=>obtain ⟨t,rfl⟩:=rx; exact SeqAt.EqAt.int_str a t' b t
  | _=>exact absurd (show false=true from fx) Bool.false_ne_true
 | str a =>
  obtain ⟨t',rfl⟩:=ry
  cases x with
  | non=>cases rx; exact SeqAt.EqAt.str_none a t'
  | bl b=>cases rx; exact SeqAt.EqAt.str_bool a t' b
  | int b=>obtain ⟨t,rfl⟩:=rx; exact SeqAt.EqAt.str_int a t' b t
  | str b=>obtain ⟨t,rfl⟩:=rx; exact SeqAt.EqAt.str_str a t' b t
  | _=>exact absurd (show false=true from fx) Bool.false_ne_true
 | _=>exact absurd (show false=true from fy) Bool.false_ne_true
noncomputable def eqU (x:V) (u:Value):Bool:=match u with
 | .none=>eqV .non x
 | .bool b=>eqV (.bl b) x
 | .int i _=>eqV (.int i) x
 | .str z _=>eqV (.str z) x
 | _=>false
theorem xh2 {x y:V} {u:Value} (r:RelV y u) (f:zs0 y=true):eqU x u=eqV y x:=by
 cases y with
 | non=>cases r; rfl
 | bl b=>cases r; rfl
 | int i=>obtain ⟨t,rfl⟩:=r; rfl
 | str z=>obtain ⟨t,rfl⟩:=r; rfl
 | _=>exact absurd (show false=true from f) Bool.false_ne_true
theorem to0 {x:V}:∀ {xs:List V} {us:List Value},Vals xs us->xs.all zs0=true->us.any (eqU x)=xs.any λ y=>eqV y x
 | _,_,.nil,_=>rfl
 | y :: xs,u :: us,.cons r t,f=>by
  rw [List.all_cons,Bool.and_eq_true] at f
  rw [List.any_cons,List.any_cons,xh2 r f.1,to0 t f.2]
theorem zj0 {A:Around} {s:Shared} {x:V} {v:Value} (rx:RelV x v) (fx:zs0 x=true):∀ {xs:List V} {us:List Value},Vals xs us->xs.all zs0=true->∀ u ∈ us,SeqAt.EqAt A s u v (eqU x u)
 | _,_,.nil,_=>λ u hu=>by cases hu
 | y :: xs,u :: us,.cons r t,f=>λ u' hu=>by
  rw [List.all_cons,Bool.and_eq_true] at f
  rcases List.mem_cons.mp hu with rfl | hu
  ·rw [xh2 r f.1]; exact tl3 r rx f.1 fx
  ·exact zj0 rx fx t f.2 u' hu
noncomputable def inV (x:V) (xs:List V):Bool:=xs.any λ y=>eqV y x
noncomputable def rIn (K:PySem.W.Frag) (neg:Bool):R2:=λ x y H Q=>∃ p xs,y=.ref p /\ (SqL K H p xs \/ SqT K H p xs) /\ zs0 x=true /\ xs.all zs0=true /\ Q (.bl (if neg then !inV x xs else inV x xs)) H
theorem op_in_seq:OpR X (compareOp .In) (rIn X.K false):=by
 intro pins s σ H x y v u Q I rx ry h
 obtain ⟨p,xs,rfl,hq,fx,fs,q⟩:=h
 cases ry
 rcases hq with hq | hq
 ·obtain ⟨its,r,pl,hz⟩:=I.list hq
  refine SeqAt.in_listAt (eqU x) pl.isList (λ w hw=>zj0 rx fx r fs w (by simpa using hw)) ⟨.bl _,H,I,rfl,?_⟩
  rw [show its.toArray.any (eqU x)=its.any (eqU x) by simp,to0 r fs]
  exact q
 ·obtain ⟨its,r,pl,hz⟩:=I.tuple hq
  refine SeqAt.in_tupleAt (eqU x) pl (λ w hw=>zj0 rx fx r fs w (by simpa using hw)) ⟨.bl _,H,I,rfl,?_⟩
  rw [show its.toArray.any (eqU x)=its.any (eqU x) by simp,to0 r fs]
  exact q
theorem op_notIn_seq:OpR X (compareOp .NotIn) (rIn X.K true):=by
 intro pins s σ H x y v u Q I rx ry h
 obtain ⟨p,xs,rfl,hq,fx,fs,q⟩:=h
 cases ry
 rcases hq with hq | hq
 ·obtain ⟨its,r,pl,hz⟩:=I.list hq
  refine SeqAt.notIn_listAt (eqU x) pl.isList (λ w hw=>zj0 rx fx r fs w (by simpa using hw)) ⟨.bl _,H,I,rfl,?_⟩
  rw [show its.toArray.any (eqU x)=its.any (eqU x) by simp,to0 r fs]
  exact q
 ·obtain ⟨its,r,pl,hz⟩:=I.tuple hq
  refine SeqAt.notIn_tupleAt (eqU x) pl (λ w hw=>zj0 rx fx r fs w (by simpa using hw)) ⟨.bl _,H,I,rfl,?_⟩
  rw [show its.toArray.any (eqU x)=its.any (eqU x) by simp,to0 r fs]
  exact q
theorem vu0:OpR X (compareOp .NotIn) (λ x y H Q=>∃ i j,x=.str i /\ y=.str j /\ Q (.bl (!(!(Builtin.Str.occurrences j i 0 j.length 1).isEmpty))) H):=by
 intro pins s σ H x y v u Q I rx ry h
 obtain ⟨i,j,rfl,rfl,q⟩:=h
 obtain ⟨t,rfl⟩:=rx
 obtain ⟨t',rfl⟩:=ry
 exact notIn_str ⟨.bl _,H,I,rfl,q⟩
theorem call_len_seq:CallR X (.builtin "len") (λ xs H Q=>∃ p ys,xs=[.ref p] /\ (SqL X.K H p ys \/ SqT X.K H p ys) /\ Q (.int ys.length) H):=by
 intro pins s σ H xs us Q I r h
 obtain ⟨p,ys,rfl,hq,q⟩:=h
 obtain ⟨u,rfl,rx⟩:=te1 r
 cases rx
 have hn:=su0
 rcases hq with hq | hq
 ·obtain ⟨its,r',pl,hz⟩:=I.list hq
  have hlen:=r'.length
  exact Calls.call_len_list pl.isList (by simp only [List.size_toArray] <;> omega) ⟨.int ys.length,H,I.tok _,⟨s.toks + 1,by rw [List.size_toArray,hlen]⟩,q⟩
 ·obtain ⟨its,r',pl,hz⟩:=I.tuple hq
  have hlen:=r'.length
  exact len_tuple pl (by simp only [List.size_toArray] <;> omega) ⟨.int ys.length,H,I.tok _,⟨s.toks + 1,by rw [List.size_toArray,hlen]⟩,q⟩
theorem zw0:CallR X (.builtin "len") (λ xs H Q=>∃ z,xs=[.str z] /\ z.length<=sizeLine /\ Q (.int z.length) H):=by
 intro pins s σ H xs us Q I r h
 obtain ⟨z,rfl,hz,q⟩:=h
 obtain ⟨u,rfl,t,rfl⟩:=te1 r
 have hn:=su0
 exact len_str (by omega) ⟨.int z.length,H,I.tok _,⟨_,rfl⟩,q⟩
theorem CallR.or {f:Value} {r r':List V->Hp->VK->Prop} (h:CallR X f r) (h':CallR X f r'):CallR X f (λ xs H Q=>r xs H Q \/ r' xs H Q):=by
 intro pins s σ H xs us Q I rs q
 rcases q with q | q
 ·exact h pins s σ H xs us Q I rs q
 ·exact h' pins s σ H xs us Q I rs q
theorem ss0:CallR X (.type "tuple") (λ xs H Q=>∃ p ys,xs=[.ref p] /\ ((SqL X.K H p ys /\ ∀ l,H l=none->Q (.ref l) (upd H l (.tup ys))) \/ (SqT X.K H p ys /\ Q (.ref p) H))):=by
 intro pins s σ H xs us Q I r h
 obtain ⟨p,ys,rfl,h⟩:=h
 obtain ⟨u,rfl,rx⟩:=te1 r
 cases rx
 rcases h with ⟨hq,q⟩ | ⟨hq,q⟩
 ·obtain ⟨its,r',pl,hz⟩:=I.list hq
  have hlen:=r'.length
  refine call_tuple_list pl.isList (λ h' kp=>?_) (by simp only [List.size_toArray] <;> omega)
  have I1:Inv X pins σ H { s with heap:=h' }:=I.kept (t':=s.toks) kp
  have I2:Inv X pins σ (upd H h'.objs.size (.tup ys)) { s with heap:=h'.push { cls:=.type "tuple",data:=.seq its.toArray } } :=
   I1.laid (t':=s.toks) (λ b o e=>Heap.get?_push_of_some _ e) (Nat.le_refl _) (show ObjOk X.prog X.w _ _ _ (.tup ys) from ⟨hz,its,r',IsTup.new _ _⟩)
  exact ⟨.ref h'.objs.size,_,I2,rfl,q _ (I1.hok.fresh (Nat.le_refl _))⟩
 ·obtain ⟨its,r',pl,hz⟩:=I.tuple hq
  exact call_tuple_same pl ⟨.ref p,H,I,rfl,q⟩
noncomputable def tyV (K:PySem.W.Frag) (T:String) (x:V) (H:Hp):Prop:=match x with
 | .str _=>T = "str"
 | .int _=>T = "int"
 | .ref p=>(T = "list" /\ ∃ xs,SqL K H p xs) \/ (T = "tuple" /\ ∃ o,K.lookup p=some o /\ o.cls=.type "tuple" /\ o.dict=none) ∨
     (T = "dict" /\ ((∃ kvs,H p=some (.dK kvs)) \/ ∃ kvs,H p=some (.dT kvs))) \/ (T = "set" /\ ∃ S n,H p=some (.set S n))
 | _=>False
theorem ut2 {pins:List (Addr × Obj)} {σ:St} {H:Hp} {s:Shared} {T:String} {x:V} {v:Value} (I:Inv X pins σ H s) (r:RelV x v) (ty:tyV X.K T x H) :
    s.TypeIs v T /\ ∀ a,v=.ref a->∃ ob,s.heap.get? a=some ob /\ ob.dict=none:=by
 cases x with
 | str z =>
  obtain ⟨t,rfl⟩:=r
  cases (show T = "str" from ty)
  exact ⟨typeIs_str s z t,λ _ e=>nomatch e⟩
 | int i =>
  obtain ⟨t,rfl⟩:=r
  cases (show T = "int" from ty)
  exact ⟨typeIs_int s i t,λ _ e=>nomatch e⟩
 | ref p =>
  cases r
  rcases ty with ⟨rfl,xs,hq⟩ | ⟨rfl,o,hk,hc,hd⟩ | ⟨rfl,hk⟩ | ⟨rfl,S,n,hk⟩
  ·obtain ⟨its,_,pl,_⟩:=I.list hq
   refine ⟨pl.isList.typeIs,λ a e=>?_⟩
   cases e
   obtain ⟨o,n,e,c,hd,_⟩:=pl
   exact ⟨o,e,hd⟩
  ·refine ⟨⟨o,I.kIn p o hk,hc⟩,λ a e=>?_⟩
   cases e
   exact ⟨o,I.kIn _ o hk,hd⟩
  ·have z:∃ o,s.heap.get? p=some o /\ o.ExactDict:=by
     rcases hk with ⟨kvs,hk⟩ | ⟨kvs,hk⟩
     ·obtain ⟨_,_,_,_,o,_,_,e,ex,_⟩:=I.hok p _ hk
      exact ⟨o,e,ex⟩
     ·obtain ⟨_,_,_,_,o,_,_,e,ex,_⟩:=I.hok p _ hk
      exact ⟨o,e,ex⟩
   obtain ⟨o,e,ex⟩:=z
   refine ⟨⟨o,e,ex.1⟩,λ a e2=>?_⟩
   cases e2
   exact ⟨o,e,ex.2.1⟩
  ·obtain ⟨o,_,_,_,e,ex,_⟩:=I.hok p _ hk
   refine ⟨⟨o,e,ex.1⟩,λ a e2=>?_⟩
   cases e2
   exact ⟨o,e,ex.2.1⟩
 | _=>exact False.elim ty
noncomputable def tBM (K:PySem.W.Frag) (T:String) (r:V->List V->Hp->VK->Prop) (to:TE) (t:TA):TE:=λ σ H Q=>to σ H λ x H1=>tyV K T x H1 /\ t σ H1 λ xs H2=>r x xs H2 Q
variable {o e:Expr} {es:List Expr} {to:TE} {t:TA} {name:Str} {apos cpos:Pos} {T id:String} {r:V->List V->Hp->VK->Prop}
theorem sn2 (pa:PlainAttrs T) (slot:Slot T name id) (hty:typeOf (.builtin id)=pure (.type "method_descriptor")) (hm:MtR X id r) (ho:PE X o to) (ha:PA X (e :: es) t)
    (hbase:attributeBase o name X.env (eval o X.env)=eval o X.env:=by rfl)
    (hfew:((backTo cpos (starEach (e :: es) X.env)).all (λ x=>!x.1) && (backToKw cpos (keywordEach [] X.env)).all (λ x=>x.1.isSome)
     && decide ((e :: es).length + ([]:List Keyword).length + (if ([]:List Keyword).isEmpty then 0 else 1) < 30))=true:=by rfl)
    (hline:(apos.endLine == cpos.line)=true:=by rfl) (hs:starEach (e :: es) X.env=(false,eval e X.env) :: starEach es X.env:=by rfl) (hplain:(backTo cpos (starEach es X.env)).any (·.1)=false:=by rfl) :
    PE X (.Call (.Attribute o name apos) (e :: es) [] cpos) (tBM X.K T r to t):=by
 intro pins s σ H Q I h
 refine wpAny_Call_method_late hbase hfew hline rfl (thn (ho pins s σ H _ I h) λ v s1 ⟨x,H1,I1,r1,ty,q1⟩=>?_)
 obtain ⟨h1,h2⟩:=ut2 I1 r1 ty
 refine ⟨T,id,pa,slot,hty,h1,h2,?_⟩
 have hA:=ha cpos pins s1 σ H1 _ I1 q1
 rw [hs] at hA ⊢
 refine Calls.callWith_builtin (by show (false || (backTo cpos (starEach es X.env)).any (·.1))=false; rw [hplain] <;> rfl) (Calls.evalArgs_plain ?_)
 exact thn hA λ us s2 ⟨vs,H2,I2,r2,q2⟩=>hm pins s2 σ H2 x vs v us Q I2 r1 r2 q2
end
end L2
namespace L2
open PySem PySem.Spec PyProof.Rows
noncomputable def MtM (X:Cx) (id:String) (r:V->List V->Hp->VK->Prop):Prop :=
 ∀ (pins:List (Addr × Obj)) (s:Shared) (σ:St) (H:Hp) (x:V) (xs:List V) (v:Value) (us:List Value) (Q:VK),Inv X pins σ H s->RelV x v->Vals xs us->r x xs H Q ->
  wpAny (model X.prog X.w) X.A (call (.builtin id) (v :: us)) (EP X pins σ Q) X.xe s
theorem Vals.one:∀ {x:V} {us:List Value},Vals [x] us->∃ u,us=[u] /\ RelV x u
 | _,_,.cons r .nil=>⟨_,rfl,r⟩
theorem Vals.rep {xs:List V} {us:List Value} (h:Vals xs us):∀ k:Nat,Vals (List.replicate k xs).flatten (List.replicate k us).flatten
 | 0=>.nil
 | k + 1=>by
  rw [List.replicate_succ,List.replicate_succ,List.flatten_cons,List.flatten_cons]
  exact Vals.append h (Vals.rep h k)
theorem xo0 (its:List Value):∀ (k:Nat) (acc:List Value),
    List.foldl (λ x1 x2=>x1 ++ x2) acc.toArray (List.replicate k its.toArray)=(acc ++ (List.replicate k its).flatten).toArray
 | 0,acc=>by simp
 | k + 1,acc=>by
  have e:acc.toArray ++ its.toArray=(acc ++ its).toArray:=by simp
  have e2:(acc ++ its) ++ (List.replicate k its).flatten=acc ++ (List.replicate (k + 1) its).flatten:=by
   rw [List.replicate_succ,List.flatten_cons,List.append_assoc]
  rw [<- e2,<- xo0 its k (acc ++ its),<- e,List.replicate_succ,List.foldl_cons]
section
variable {X:Cx} {pins:List (Addr × Obj)} {σ:St} {H:Hp} {s:Shared} {l b:Addr} {xs ys zs:List V}
theorem Inv.lset {its its':List Value} {n:Nat} {f:Array Value->Array Value} {t':Nat} (I:Inv X pins σ H s) (hH:H l=some (.lst xs))
    (e:s.heap.get? l=some { cls:=.type "list",data:=.seq its.toArray n }) (hf:f its.toArray=its'.toArray) (hv:Vals ys its') (hz:ys.length<=sizeLine) :
    Inv X pins σ (upd H l (.lst ys)) { s with heap:=s.heap.update l (Obj.mapSeq f),toks:=t' }:=by
 have q:=PySem.IsL.update e f
 rw [hf] at q
 refine I.write (x:=l) (e:=l) (by rw [hH]; exact trivial) (.inl rfl) (λ b' u hb hu=>(Heap.get?_update_other s.heap (Obj.mapSeq f) (Ne.symm hb)).trans hu) ⟨_,q⟩ ?_
 exact ⟨hz,its',_,hv,q⟩
theorem Inv.lnew {its:List Value} {t':Nat} (I:Inv X pins σ H s) (hv:Vals ys its) (hz:ys.length<=sizeLine) :
    Inv X pins σ (upd H s.heap.objs.size (.lst ys)) { s with heap:=s.heap.push { cls:=.type "list",data:=.seq its.toArray },toks:=t' } :=
 I.laid (λ _ _ q=>Heap.get?_push_of_some _ q) (Nat.le_refl _) ⟨hz,its,0,hv,Heap.get?_push_size _ rfl⟩
theorem Inv.fresh (I:Inv X pins σ H s):H s.heap.objs.size=none:=I.hok.fresh (Nat.le_refl _)
theorem Inv.lstM (I:Inv X pins σ H s) (hH:H l=some (.lst xs)):xs.length<=sizeLine /\ ∃ (its:List Value) (n:Nat),Vals xs its /\ xs.length=its.length /\ s.heap.get? l=some { cls:=.type "list",data:=.seq its.toArray n }:=by
 obtain ⟨z,its,n,r,e⟩:=I.hok l _ hH
 exact ⟨z,its,n,r,r.length,e⟩
theorem vc1 {n:Nat} (h:n<=sizeLine):Builtin.List.listTooLong n=false:=by
 unfold Builtin.List.listTooLong
 exact decide_eq_false (by omega)
end
section
variable {X:Cx}
noncomputable def wk2:V->List V->Hp->VK->Prop:=λ x vs H Q=>∃ l xs y,x=.ref l /\ vs=[y] /\ H l=some (.lst xs) /\ xs.length < sizeLine /\ Q .non (upd H l (.lst (xs ++ [y])))
theorem vn0:MtM X "list.append" wk2:=by
 intro pins s σ H x vs v us Q I rx rv h
 obtain ⟨l,xs,y,rfl,rfl,hH,hz,q⟩:=h
 cases rx
 obtain ⟨u,rfl,ru⟩:=rv.one
 obtain ⟨z,its,n,r,hl,e⟩:=I.lstM hH
 refine call_meets F.slot_list_append ⟨_,e,rfl⟩ F.entry_list_append (F.args_list_append_2 _ _) (PySem.list_append l its.toArray n u (by rw [List.size_toArray]; omega)) ⟨e,?_⟩
 refine ⟨.non,_,I.lset (its':=its ++ [u]) hH e (by simp) (r.append (.cons ru .nil)) ?_,rfl,q⟩
 rw [List.length_append,List.length_singleton]
 omega
noncomputable def zk2:V->List V->Hp->VK->Prop:=λ x vs H Q=>∃ l b xs zs,x=.ref l /\ vs=[.ref b] /\ H l=some (.lst xs) /\ H b=some (.lst zs) /\ xs.length + zs.length<=sizeLine /\ Q .non (upd H l (.lst (xs ++ zs)))
theorem up1:MtM X "list.extend" zk2:=by
 intro pins s σ H x vs v us Q I rx rv h
 obtain ⟨l,b,xs,zs,rfl,rfl,hH,hB,hz,q⟩:=h
 cases rx
 obtain ⟨u,rfl,ru⟩:=rv.one
 cases ru
 obtain ⟨z,its,n,r,hl,e⟩:=I.lstM hH
 obtain ⟨z2,its2,n2,r2,hl2,e2⟩:=I.lstM hB
 have hsz:its.toArray.size + its2.toArray.size<=sizeLine:=by rw [List.size_toArray,List.size_toArray]; omega
 have hlong:¬ (!its.toArray.isEmpty && Builtin.List.listTooLong (its.toArray.size + its2.toArray.size))=true:=by
  rw [vc1 hsz,Bool.and_false]
  exact Bool.false_ne_true
 refine call_meets F.slot_list_extend ⟨_,e,rfl⟩ F.entry_list_extend (F.args_list_extend_2 _ _)
  (AutoSeq1.list_extend_list_list_0 l its.toArray n b its2.toArray n2 hlong (by rw [List.size_toArray]; omega) (by omega)) ⟨e,e2,?_⟩
 refine ⟨.non,_,I.lset (its':=its ++ its2) hH e (by simp) (r.append r2) ?_,rfl,q⟩
 rw [List.length_append]
 omega
noncomputable def rCat:R2:=λ x y H Q=>∃ l b xs zs,x=.ref l /\ y=.ref b /\ H l=some (.lst xs) /\ H b=some (.lst zs) /\ xs.length + zs.length<=sizeLine /\ ∀ p,H p=none->Q (.ref p) (upd H p (.lst (xs ++ zs)))
theorem op_cat:OpR X (binaryOp .Add) rCat:=by
 intro pins s σ H x y v u Q I rx ry h
 obtain ⟨l,b,xs,zs,rfl,rfl,hH,hB,hz,q⟩:=h
 cases rx
 cases ry
 obtain ⟨z,its,n,r,hl,e⟩:=I.lstM hH
 obtain ⟨z2,its2,n2,r2,hl2,e2⟩:=I.lstM hB
 refine PySem.P.add_list e e2 ?_ (by rw [List.size_toArray,List.size_toArray]; omega)
 have ea:its.toArray ++ its2.toArray=(its ++ its2).toArray:=by simp
 rw [ea]
 exact ⟨.ref _,_,I.lnew (t':=s.toks) (r.append r2) (by rw [List.length_append]; omega),rfl,q _ I.fresh⟩
noncomputable def rRep:R2:=λ x y H Q=>∃ l k xs,x=.ref l /\ y=.int k /\ H l=some (.lst xs) /\ -(2 ^ 63)<=k /\ k < 2 ^ 63 /\ xs.length * k.toNat<=sizeLine ∧
 ∀ p,H p=none->Q (.ref p) (upd H p (.lst (List.replicate k.toNat xs).flatten))
theorem vy0 {α:Type} (xs:List α) (k:Nat):(List.replicate k xs).flatten.length=k * xs.length:=by
 induction k with
 | zero=>simp
 | succ k ih=>rw [List.replicate_succ,List.flatten_cons,List.length_append,ih,Nat.succ_mul,Nat.add_comm]
theorem yh3:OpR X (binaryOp .Mult) rRep:=by
 intro pins s σ H x y v u Q I rx ry h
 obtain ⟨l,k,xs,rfl,rfl,hH,h1,h2,hz,q⟩:=h
 cases rx
 obtain ⟨t,rfl⟩:=ry
 obtain ⟨z,its,n,r,hl,e⟩:=I.lstM hH
 have hlen:its.toArray.size * k.toNat<=sizeLine:=by rw [List.size_toArray,<- hl]; exact hz
 have hcap:¬ its.toArray.size * k.toNat > (2 ^ 63 - 1) / 8:=by
  have:(sizeLine:Nat)<=(2 ^ 63 - 1) / 8:=by decide
  omega
 have hfit:¬ (!Builtin.List.listFitsIndex k)=true:=by
  rw [fitsIndex_both h1 h2]
  exact Bool.false_ne_true
 have hlong:¬ Builtin.List.listTooLong (its.toArray.size * k.toNat)=true:=by
  rw [vc1 hlen]
  exact Bool.false_ne_true
 have hnew:List.foldl (λ x1 x2=>x1 ++ x2) #[] (List.replicate (if its.toArray.isEmpty=true then 0 else k.toNat) its.toArray)=(List.replicate k.toNat its).flatten.toArray:=by
  have f0:∀ m:Nat,List.foldl (λ x1 x2=>x1 ++ x2) #[] (List.replicate m its.toArray)=(List.replicate m its).flatten.toArray:=λ m=>by
   have:=xo0 its m []
   rw [List.nil_append] at this
   exact this
  rw [f0]
  cases its with
  | nil=>simp
  | cons a r'=>rw [if_neg (by simp)]
 refine wpAny_binaryOp_repeat_ref (T := "list") (U := "int") (by decide) ⟨_,e,rfl⟩ (λ s'=>typeIs_int s' k t) noFill_list_mul F.fills_int_mul F.slot_int_rmul repeat_list F.slot_int_index.lookup
  (call_meets F.slot_int_rmul (typeIs_int s k t) F.entry_int_rmul (F.args_int_rmul_2 _ _) (int___rmul___int_list k t l its.toArray n)
   ⟨e,rfl,⟨_,e,rfl⟩,call_meets F.slot_list_mul ⟨_,e,rfl⟩ F.entry_list_mul (F.args_list_mul_2 _ _) (AutoListH.list___mul___list_int_3 l its.toArray n k t hfit hcap hlong) ⟨e,?_⟩⟩)
 rw [hnew]
 exact ⟨.ref _,_,I.lnew (t':=s.toks) (r.rep k.toNat) (by rw [vy0,Nat.mul_comm]; exact hz),rfl,q _ I.fresh⟩
end
section
variable {prog:Program} {w:World} {A:Around} {E:Value->Shared->Prop} {s:Shared}
end
section
variable {X:Cx}
end
end L2
namespace Att
open PySem PySem.W PySem.Calls PyProof.Rows
theorem sn0 {P:Params} {h:Heap}:∀ (ns:List Int) (vs:List Value),WellAll P h vs (ns.map WData.int)->IntsAre vs ns:=by
 intro ns
 induction ns with
 | nil =>
  intro vs w
  rw [List.map_nil] at w
  cases w
  exact .nil
 | cons n ns ih =>
  intro vs w
  rw [List.map_cons] at w
  cases w with
  | cons a b =>
   cases a
   exact .cons _ _ (ih _ b)
theorem tl1 {l:OpenLaw} {n:Nat} (hn:l.most=some n) {P:Params} {h:Heap} {args:List WData} {vals:List Value}
    (hpre:l.row.toRowW.claim.pre args=true) (hwl:WellAll P h vals args) :
    ∃ a vs ns,vals=[Value.ref a] /\ args=[WData.list (ns.map WData.int)] /\ h.get? a=some { cls:=.type "list",data:=.seq vs.toArray } /\ IntsAre vs ns /\ ns.length<=n:=by
 have hsh:WShape.hasAll [] args [.list .int]=true:=(pre_splitW hpre).1
 have hc:l.pre.holds [] { args:=args }=true:=(pre_splitW hpre).2
 obtain ⟨d,r,rfl,h1,h2⟩:=hasAllW_cons hsh
 obtain rfl:=hasAllW_nil h2
 obtain ⟨xs,rfl,h3⟩:=hasW_list h1
 obtain ⟨ns,rfl⟩:=items_int h3
 have hlen:ns.length<=n:=by
  unfold OpenLaw.pre at hc
  have h4:(WTm.not (.lt (.lit (.int (n:Int))) (.len (.arg 0)))).holds [] { args:=[.list (ns.map .int)] }=true:=by
   have h4:=(holds_andW hc).1
   rw [hn] at h4
   exact h4
  have h5:=condW_of h4 (w_not (w_lt w_lit (w_len_list (w_arg rfl))))
  rw [List.length_map] at h5
  refine Nat.le_of_not_lt λ q=>?_
  have q':(n:Int) < ((ns.length:Nat):Int):=by omega
  first
   | (rw [decide_eq_true q'] at h5; exact absurd h5 (by decide))
   | (simp at h5; omega)
 cases hwl with
 | cons w1 w2 =>
  cases w2
  cases w1 with
  | list ho hall=>exact ⟨_,_,ns,rfl,rfl,ho,sn0 ns _ hall,hlen⟩
theorem xo1 (l:OpenLaw) (args:List WData):l.row.toRowW.claim.post args (.bool true) args=true :=
 postW_of (r:=l.row.toRowW) (X:=(true == true))
  (show WShape.has [] (.bool true) .bool=true by first | rfl | decide | simp [WShape.has,WShape.arms,WShape.armsAll])
  (show (WTm.eq .res (.lit (.bool true))).value [] { args:=args,res:=some (.bool true),after:=args }=some (.bool (true == true)) from w_eq_bool (w_res rfl) w_lit) rfl
theorem attach_call {l:OpenLaw} {n:Nat} {q:Program} {loose:List Str} {XP:(Str->Option Value)->Heap->Prop} {YP:World->Heap->Prop} {d:DefRec}
    (hn:l.most=some n) (hdf:d.params.defaults=[])
    (call:∀ (w:World) (s₀ s₁:Shared) (mg mb:Str->Option Value) (fa:Addr) (o:Obj) (pm cd doc:Value) (a:Addr) (vs:List Value) (ns:List Int),
     Ground q loose [] XP w s₀ mg mb s₁.heap->YP w s₁.heap ->
     s₁.heap.get? fa=some o->o.data=.func (docDef d.name d.params d.body d.scope pm cd doc)->s₁.heap.CodeRec cd d.name->mg d.name=some (.ref fa) ->
     s₁.heap.get? a=some { cls:=.type "list",data:=.seq vs.toArray }->IntsAre vs ns->ns.length<=n->s₁.gens = #[] ->
     codeAny (model l.prog w) callerA (.call (.ref fa) ⟨[.ref a],[]⟩) (λ r s'=>r=.ok (.ret (.bool true)) /\ OldK s₁.heap s'.heap /\ s'.os=s₁.os /\ AllBare s'.gens) s₁) :
    WalkO q loose XP YP l.row.toRowW d [] (λ f vs=>PySem.call f vs):=by
 intro w s₀ s₁ mg mb G Y fa o pm cd doc dV kV ho hd hcd hD hmg hg args vals as hpre hlay hrd hwl hlo
 obtain rfl:dV=.none:=Dflts.none hD hdf
 obtain rfl:kV=.none:=Dflts.noKw hD
 obtain ⟨a,vs,ns,rfl,rfl,hobj,hints,hlen⟩:=tl1 hn hpre hwl
 refine enter_call (codeAny_mono (call w s₀ s₁ mg mb fa o pm cd doc a vs ns G Y ho (fd_plain hd) hcd hmg hobj hints hlen hg) λ r s' hq=>?_)
 obtain ⟨rfl,h2,h3,h4⟩:=hq
 exact ⟨.inl ⟨.bool true,.bool true,[],rfl,λ _=>rfl,.bool true,xo1 l _,λ _=>⟨List.Pairwise.nil,λ _ hm=>(nomatch hm)⟩⟩,h2,h3,h4⟩
section
variable {prog:Program} {w:World} {A:Around} {E:Value->Shared->Prop} {s:Shared} {K:Frag}
noncomputable def ledger (h:Heap) (L d:Addr):List (Addr × Obj):=(List.range h.objs.size).filterMap λ a=>if a=L \/ a=d then none else (h.get? a).map λ o=>(a,o)
end
end Att
namespace L2
open PySem PySem.Spec PyProof.Rows
theorem xt0:∀ {vs:List Value} {ns:List Int},IntsAre vs ns->Vals (ns.map V.int) vs
 | _,_,.nil=>.nil
 | _,_,.cons n t h=>.cons ⟨t,rfl⟩ (xt0 h)
noncomputable def Only (H:Hp):Prop:=∀ b,H b=none \/ ∃ o xs,H b=some (.frz o (.lst xs))
theorem va2 {P:Program} {w:World} {K:PySem.W.Frag} {mg mb:Str->Option Value} {CX:CXT} {k:Nat} {fa a:Addr} {fd:FuncData} {x:Str} {sp:Sp} {s₁:Shared} {vs:List Value} {ns:List Int}
    (KX:K.In s₁.heap) (hns:s₁.heap.Ns mainGlobals mg) (hb:s₁.heap.Ns builtinsNs mb) (hbb:∀ x:Str,x ≠ "__name__" -> mb x=bootBuiltins x) (hlim:s₁.heap.NoLimit) (hg:s₁.gens = #[])
    (ha:s₁.heap.get? a=some { cls:=.type "list",data:=.seq vs.toArray }) (hi:IntsAre vs ns) (hl:ns.length<=sizeLine) (hr:Room k callerA)
    (F:∀ base:Heap,K.In base->base.Ns mainGlobals mg->FnOk P w K mg base CX k fa fd [x] sp) (hbind:∀ (s:Shared) (u:Value),BindsTo s fd ⟨[u],[]⟩ [(x,u)])
    (hsp:∀ H:Hp,Only H->SqL K H a (ns.map V.int)->sp [.ref a] H (λ v _=>v=.bl true) λ _ _ _=>False)
    (hCX:∀ H e s',CX [] H s₁ (λ _ _ _=>False) e s'->False) :
    codeAny (model P w) callerA (.call (.ref fa) ⟨[.ref a],[]⟩) (λ r s'=>r=.ok (.ret (.bool true)) /\ OldK s₁.heap s'.heap /\ s'.os=s₁.os /\ AllBare s'.gens) s₁:=by
 have rv:=xt0 hi
 have lenV:=hi.length
 have core:∀ H:Hp,Only H->SqL K H a (ns.map V.int)->HOk P w H s₁.heap->(∀ b,H b ≠ none->b=a)->(H a ≠ none->K.lookup a=none) ->
     codeAny (model P w) callerA (.call (.ref fa) ⟨[.ref a],[]⟩) (λ r s'=>r=.ok (.ret (.bool true)) /\ OldK s₁.heap s'.heap /\ s'.os=s₁.os /\ AllBare s'.gens) s₁:=by
  intro H hO hS hok hA hK
  have base_of:∀ {b:Addr} {o:Obj},s₁.heap.get? b=some o->H b=none->(hidT s₁.heap H).get? b=some o:=λ e n=>xc2 e n
  have noA:∀ {b:Addr} {o:Obj} {es:Array DictEntry} {ep:Nat},s₁.heap.get? b=some o->o.data=.dict es ep->H b=none:=λ {b o es ep} e d=>by
   cases q:H b with
   | none=>rfl
   | some u =>
    have e':b=a:=hA b (by rw [q]; simp)
    subst e'
    rw [ha] at e; cases e
    have d':Data.seq vs.toArray _=Data.dict es ep:=d
    cases d'
  have nsK:∀ {b:Addr} {m:Str->Option Value},s₁.heap.Ns b m->(hidT s₁.heap H).Ns b m:=λ {b m} ⟨o,es,ep,e,d,r⟩=>⟨o,es,ep,base_of e (noA e d),d,r⟩
  have hKb:K.In (hidT s₁.heap H):=λ b o e=>base_of (KX b o e) (by
   cases q:H b with
   | none=>rfl
   | some u =>
    have e':b=a:=hA b (by rw [q]; simp)
    subst e'
    rw [hK (by rw [q]; simp)] at e; cases e)
  have hM:Mod K mg (hidT s₁.heap H):=⟨hKb,nsK hns,⟨mb,nsK hb,hbb⟩,let ⟨mc,h1,h2⟩:=hlim; ⟨mc,nsK h1,h2⟩⟩
  have e0:Env0 P w K mg (hidT s₁.heap H) callerA [] s₁ H:=⟨rfl,hM,λ b o e=>uo2 e,Nat.le_of_eq (vr1 _ _),trivial,λ b hb=>absurd (show b ∈ ([]:List Addr) from hb) (by simp),hok,.of_eq hg⟩
  refine codeAny_mono ((F _ hKb (nsK hns)).run callerA [] s₁ H ⟨[.ref a],[]⟩ [.ref a] [.ref a] _ _ hr e0 (hbind s₁ (.ref a)) (.cons rfl .nil) (hsp H hO hS)) λ r s' h=>?_
  cases r with
  | error e=>exact (hCX H e s' h).elim
  | ok fl =>
   cases fl with
   | next=>exact False.elim h
   | brk=>exact False.elim h
   | cont=>exact False.elim h
   | ret u =>
    obtain ⟨v,H',os,bare,un,hok',r',q⟩:=h
    have q':v=.bl true:=q
    subst q'
    obtain rfl:u=Value.bool true:=r'
    refine ⟨rfl,OldK.of_keep λ b o e=>?_,os,bare⟩
    cases q:H b with
    | none=>exact un.keep b o e q (by intro z; exact absurd (show b ∈ ([]:List Addr) from z) (by simp)) (by simp)
    | some u =>
     rcases hO b with z | ⟨ob,xs,z⟩
     ·rw [q] at z; cases z
     ·have z2:=un.frzs b ob _ z
      obtain ⟨e1,_⟩:=hok b _ z
      obtain ⟨e2,_⟩:=hok' b _ z2
      rw [e] at e1; cases e1
      exact e2
 cases hk:K.lookup a with
 | some o =>
  have e:=KX a o hk
  rw [ha] at e
  cases e
  refine core (λ _=>none) (λ _=>.inl rfl) (.inr ⟨_,vs.toArray,_,hk,rfl,rfl,rfl,by rw [List.size_toArray,lenV]; exact hl,by simpa using rv⟩) (λ b u z=>by have z':(none:Option HO)=some u:=z; cases z') (λ b z=>absurd rfl z) λ z=>absurd rfl z
 | none =>
  refine core (λ b=>if b=a then some (.frz { cls:=.type "list",data:=.seq vs.toArray } (.lst (ns.map V.int))) else none) (λ b=>?_) (.inl (.inr ⟨{ cls:=.type "list",data:=.seq vs.toArray },if_pos rfl⟩)) (λ b u z=>?_) (λ b z=>?_) λ _=>hk
  ·by_cases hb:b=a
   ·exact .inr ⟨_,_,if_pos hb⟩
   ·exact .inl (if_neg hb)
  ·by_cases hb:b=a
   ·have z':=(if_pos hb).symm.trans z
    cases z'
    subst hb
    exact ⟨ha,by rw [List.length_map]; exact hl,vs,_,rv,ha⟩
   ·have z':=(if_neg hb).symm.trans z
    cases z'
  ·by_cases hb:b=a
   ·exact hb
   ·exact absurd (if_neg hb) z
end L2
namespace L2
open PySem PySem.Spec PyProof.Rows
noncomputable abbrev KOf {K:PySem.W.Frag} {h:Heap} (_:K.In h):PySem.W.Frag:=K
theorem walk_of {l:PySem.W.OpenLaw} {n k:Nat} {q:Program} {loose:List Str} {XP:(Str->Option Value)->Heap->Prop} {YP:World->Heap->Prop} {d:DefRec} {K:Params->PySem.W.Frag} {CX:World->CXT} {sp:World->Sp} {x:Str}
    (hn:l.most=some n) (hn2:n<=sizeLine) (hdf:d.params.defaults=[]) (hr:Room k callerA)
    (hY:∀ (w:World) (h:Heap),YP w h->(K w.params).In h)
    (F:∀ (w:World) (mg:Str->Option Value) (fa:Addr) (h:Heap),(K w.params).In h->h.Ns mainGlobals mg->mg d.name=some (.ref fa) ->
     ∃ fd:FuncData,(∀ (s:Shared) (u:Value),BindsTo s fd ⟨[u],[]⟩ [(x,u)]) ∧
      ∀ base:Heap,(K w.params).In base->base.Ns mainGlobals mg->FnOk l.prog w (K w.params) mg base (CX w) k fa fd [x] (sp w))
    (hsp:∀ (w:World) (H:Hp) (a:Addr) (ns:List Int),ns.length<=n->Only H->SqL (K w.params) H a (ns.map V.int)->sp w [.ref a] H (λ v _=>v=.bl true) λ _ _ _=>False)
    (hCX:∀ (w:World) (H:Hp) (s:Shared) (e:Value) (s':Shared),CX w [] H s (λ _ _ _=>False) e s'->False) :
    PySem.W.WalkO q loose XP YP l.row.toRowW d [] (λ f vs=>PySem.call f vs):=by
 refine Att.attach_call hn hdf λ w s₀ s₁ mg mb fa o pm cd doc a vs ns G Y ho hd hcd hmg hobj hints hlen hg=>?_
 have KX:=hY w _ Y
 obtain ⟨fd,hb,hF⟩:=F w mg fa _ KX G.T.g hmg
 exact va2 KX G.T.g G.T.b G.T.builtins G.T.nolimit hg hobj hints (Nat.le_trans hlen hn2) hr hF hb (λ H hO hS=>hsp w H a ns hlen hO hS) λ H e s'=>hCX w H s₁ e s'
end L2
namespace L2
open PySem PySem.Spec PyProof.Rows
noncomputable abbrev CX0:CXT:=λ _ _ _ _ _ _=>False
noncomputable abbrev E0:XK:=λ _ _ _=>False
theorem zu3 {X:Cx}:yw1 CX0 X E0:=λ _ _ _ _ _ _ _ h=>h.elim
structure Fun (K:PySem.W.Frag) (x qual:Str) (st:Stmt) (f:Addr) (fd:FuncData):Prop where
 ex:∃ (oc:Value) (od:Option Addr) (kV doc pm:Value) (an:Option Addr) (cdv ct:Value) (osl:Array (Option Value)),
  fd=PySem.W.fnOf x qual (th0 st) (tb0 st) (wa0 st) .none kV doc pm an cdv ct /\ K.lookup f=some ⟨oc,od,.func fd,osl⟩ /\ PySem.W.codeIn K cdv qual=true
 kp:PySem.W.keepIn K (.ref f)=true
section
variable {P:Program} {w:World} {K:PySem.W.Frag} {mg:Str->Option Value} {base:Heap}
theorem Fun.ok {x qual:Str} {st:Stmt} {f:Addr} {fd:FuncData} {N ps:List Str} {k:Nat} {sp:Sp} (F:Fun K x qual st f fd) (S:FnScope N ps (wa0 st)) (len:∀ vs H Q E,sp vs H Q E->vs.length=ps.length)
    (hbody:∀ (cdv:Value) (A:Around) (outer:List Env) (s:Shared) (H:Hp) (vs:List V) (Q:VK) (E:XK),Room k (A.deeper (envOfC qual (wa0 st) s.heap.objs.size f cdv))->sp vs H Q E ->
     ∃ t,PSs (cxOf CX0 P w K mg base N qual (wa0 st) f cdv A outer s H E).nox (tb0 st) t /\ t { nx:=λ _ H'=>Q .non H',rt:=Q } (start N vs) H):FnOk P w K mg base CX0 (k + 1) f fd ps sp:=by
 obtain ⟨oc,od,kV,doc,pm,an,cdv,ct,osl,rfl,lk,hcd⟩:=F.ex
 refine yw3 lk hcd S len λ A outer s H vs Q E hr hsp=>?_
 obtain ⟨t,h,q⟩:=hbody cdv A outer s H vs Q E hr hsp
 exact ⟨t,h.nox,q⟩
theorem Fun.binds {x qual:Str} {st:Stmt} {f:Addr} {fd:FuncData} {ps:List Str} (F:Fun K x qual st f fd)
    (h:∀ (kV doc pm:Value) (an:Option Addr) (cdv ct:Value) (us:List Value),us.length=ps.length->bindArgs (PySem.W.fnOf x qual (th0 st) (tb0 st) (wa0 st) .none kV doc pm an cdv ct) ⟨us,[]⟩=pure (ps.zip us)):Binds K fd ps []:=by
 obtain ⟨oc,od,kV,doc,pm,an,cdv,ct,osl,rfl,lk,hcd⟩:=F.ex
 exact .all (h kV doc pm an cdv ct)
theorem ug2 {x qual:Str} {st:Stmt} {f:Addr} {oc:Value} {od an:Option Addr} {osl:Array (Option Value)} {kV doc pm cdv ct:Value} (l:K.lookup f=some ⟨oc,od,.func (PySem.W.fnOf x qual (th0 st) (tb0 st) (wa0 st) .none kV doc pm an cdv ct),osl⟩)
    (c:PySem.W.codeIn K cdv qual=true) (k:PySem.W.keepIn K (.ref f)=true):Fun K x qual st f (PySem.W.fnOf x qual (th0 st) (tb0 st) (wa0 st) .none kV doc pm an cdv ct):=⟨⟨oc,od,kV,doc,pm,an,cdv,ct,osl,rfl,l,c⟩,k⟩
end
section
variable {X:Cx}
theorem pv (i:Nat) {x:Str} {pos:Pos} (hN:X.N[i]?=some x:=by rfl) (hv:Vis X.env.scope x:=by first | exact Or.inl rfl | exact Or.inr (Or.inl rfl) | exact Or.inr (Or.inr rfl)) (hd:(x == ("__debug__" : Str))=false:=by decide)
    (hcd:(x == ("__classdict__" : Str))=false:=by decide):PE X (.Name x pos) (tVar i):=uf2 hN hv hd hcd
end
noncomputable def Same (H H':Hp):Prop:=∀ b o,H b=some o->H' b=some o
end L2
namespace Pv
open PySem
inductive D where
 | non | bl (b:Bool) | int (i:Int) | str (x:Str) | tup (l:List D) | fls (l:List D) | ref (a:Addr) | ty (n:String) | exc (c:Str)
 | ktp (l:List D)
inductive MO where
 | lst (xs:List D)
 | ins (c:Str) (fs:List (Str × D))
 | dct (kvs:List ((Int × Int × Int) × D))
 | dcl (kvs:List (List Int × D))
 | dck (kvs:List (Sum Int Str × D))
noncomputable abbrev Mu:=Addr->Option MO
noncomputable def updM (μ:Mu) (a:Addr) (o:MO):Mu:=λ b=>if b=a then some o else μ b
theorem za0 {μ:Mu} {a:Addr} {o:MO}:updM μ a o a=some o:=by unfold updM; rw [if_pos rfl]
theorem ua0 {μ:Mu} {a b:Addr} {o:MO} (h:b ≠ a):updM μ a o b=μ b:=by unfold updM; rw [if_neg h]
noncomputable def Ext (μ μ':Mu):Prop:=∀ a o,μ a=some o->μ' a=some o
theorem Ext.refl (μ:Mu):Ext μ μ:=λ _ _ h=>h
theorem Ext.trans {a b c:Mu} (h:Ext a b) (k:Ext b c):Ext a c:=λ x o q=>k x o (h x o q)
theorem Ext.new {μ:Mu} {p:Addr} {o:MO} (h:μ p=none):Ext μ (updM μ p o):=λ a u q=>by
 rw [ua0]; exact q
 intro e; subst e; rw [h] at q; cases q
theorem Ext.free {μ μ':Mu} {p:Addr} (e:Ext μ μ') (h:μ' p=none):μ p=none:=by
 cases q:μ p with
 | none=>rfl
 | some o=>rw [e p o q] at h; cases h
noncomputable def ExtB (p:Addr) (μ μ':Mu):Prop:=∀ a o,a ≠ p->μ a=some o->μ' a=some o
theorem ExtB.refl (p:Addr) (μ:Mu):ExtB p μ μ:=λ _ _ _ h=>h
theorem ExtB.trans {p:Addr} {a b c:Mu} (h:ExtB p a b) (k:ExtB p b c):ExtB p a c:=λ x o n q=>k x o n (h x o n q)
theorem Ext.b {μ μ':Mu} (p:Addr) (e:Ext μ μ'):ExtB p μ μ':=λ a o _ q=>e a o q
theorem ExtB.upd {μ:Mu} {p:Addr} {o:MO}:ExtB p μ (updM μ p o):=λ a u n q=>by rw [ua0 n]; exact q
theorem ub0 {μ:Mu} {p q:Addr} {o:MO} (h:μ p=some o) (k:μ q=none):p ≠ q:=by
 intro e; subst e; rw [h] at k; cases k
noncomputable abbrev St3:=List (Option D)
noncomputable def getI:St3->Nat->Option D
 | [],_=>none
 | o :: _,0=>o
 | _ :: r,i + 1=>getI r i
theorem uy0:∀ (ρ:St3) (i:Nat),getI ρ i=(ρ[i]?).getD none
 | [],i=>by simp [getI]
 | o :: _,0=>by simp [getI]
 | _ :: r,i + 1=>by simp [getI,uy0 r i]
noncomputable abbrev VK3:=D->Mu->Prop
noncomputable abbrev TE3:=St3->Mu->VK3->Prop
noncomputable abbrev TT3:=St3->Mu->(Bool->Mu->Prop)->Prop
noncomputable abbrev TA3:=St3->Mu->(List D->Mu->Prop)->Prop
structure Ends3 where
 nx:St3->Mu->Prop
 rt:VK3
 bk:St3->Mu->Prop:=λ _ _=>False
 ct:St3->Mu->Prop:=λ _ _=>False
noncomputable abbrev TS3:=Ends3->St3->Mu->Prop
noncomputable abbrev R3:=D->D->Mu->VK3->Prop
noncomputable abbrev Sp3:=List D->Mu->VK3->Prop
noncomputable abbrev C3:=List D->Mu->VK3->Prop
noncomputable abbrev TG3:=D->St3->Mu->(St3->Mu->Prop)->Prop
noncomputable abbrev TGs3:=List D->St3->Mu->(St3->Mu->Prop)->Prop
noncomputable abbrev TI3:=St3->Mu->(List D->(Mu->Prop)->Mu->Prop)->Prop
noncomputable def v3 (i:Nat):TE3:=λ ρ μ Q=>match getI ρ i with
 | some d=>Q d μ
 | none=>False
noncomputable def c3 (d:D):TE3:=λ _ μ Q=>Q d μ
noncomputable def o3 (r:R3) (ta tb:TE3):TE3:=λ ρ μ Q=>ta ρ μ λ x μ1=>tb ρ μ1 λ y μ2=>r x y μ2 Q
noncomputable def un3 (r:D->Mu->VK3->Prop) (ta:TE3):TE3:=λ ρ μ Q=>ta ρ μ λ x μ1=>r x μ1 Q
noncomputable def b3 (t:TE3):TT3:=λ ρ μ Q=>t ρ μ λ d μ1=>match d with
 | .bl c=>Q c μ1
 | _=>False
noncomputable def and3 (t u:TT3):TT3:=λ ρ μ Q=>t ρ μ λ c μ1=>if c=true then u ρ μ1 Q else Q false μ1
noncomputable def or3 (t u:TT3):TT3:=λ ρ μ Q=>t ρ μ λ c μ1=>if c=true then Q true μ1 else u ρ μ1 Q
noncomputable def not3 (t:TT3):TT3:=λ ρ μ Q=>t ρ μ λ c μ1=>Q (!c) μ1
noncomputable def andV3 (t u:TE3):TE3:=λ ρ μ Q=>t ρ μ λ d μ1=>match d with
 | .bl c=>if c=true then u ρ μ1 Q else Q (.bl false) μ1
 | _=>False
noncomputable def orV3 (t u:TE3):TE3:=λ ρ μ Q=>t ρ μ λ d μ1=>match d with
 | .bl c=>if c=true then Q (.bl true) μ1 else u ρ μ1 Q
 | _=>False
noncomputable def notV3 (t:TE3):TE3:=λ ρ μ Q=>t ρ μ λ d μ1=>match d with
 | .bl c=>Q (.bl (!c)) μ1
 | _=>False
noncomputable def if3 (c:TT3) (t u:TE3):TE3:=λ ρ μ Q=>c ρ μ λ b μ1=>if b=true then t ρ μ1 Q else u ρ μ1 Q
noncomputable def nil3:TA3:=λ _ μ Q=>Q [] μ
noncomputable def cons3 (t:TE3) (u:TA3):TA3:=λ ρ μ Q=>t ρ μ λ d μ1=>u ρ μ1 λ ds μ2=>Q (d :: ds) μ2
noncomputable def tup3 (t:TA3):TE3:=λ ρ μ Q=>t ρ μ λ ds μ1=>ds.length<=sizeLine /\ Q (.tup ds) μ1
noncomputable def lst3 (t:TA3):TE3:=λ ρ μ Q=>t ρ μ λ ds μ1=>ds.length<=sizeLine /\ ∀ p,μ1 p=none->Q (.ref p) (updM μ1 p (.lst ds))
noncomputable def call3 (sp:Sp3) (t:TA3):TE3:=λ ρ μ Q=>t ρ μ λ ds μ1=>sp ds μ1 Q
noncomputable def mt3 (r:D->List D->Mu->VK3->Prop) (to:TE3) (t:TA3):TE3:=λ ρ μ Q=>to ρ μ λ x μ1=>match x with
 | .ref p=>match μ1 p with
  | some (.lst _)=>t ρ μ1 λ ds μ2=>r (.ref p) ds μ2 Q
  | _=>False
 | _=>False
noncomputable abbrev TO3:=St3->Mu->(Option Int->Mu->Prop)->Prop
noncomputable def np3:TO3:=λ _ μ Q=>Q none μ
noncomputable def pt3 (t:TE3):TO3:=λ ρ μ Q=>t ρ μ λ d μ1=>match d with
 | .int i=>Q (some i) μ1
 | _=>False
noncomputable def sl3 (r:D->Option Int->Option Int->Mu->VK3->Prop) (te:TE3) (tl th:TO3):TE3:=λ ρ μ Q=>te ρ μ λ x μ1=>tl ρ μ1 λ l μ2=>th ρ μ2 λ u μ3=>r x l u μ3 Q
noncomputable def sIx3 (n d:Nat):Option Int->Nat
 | none=>d
 | some v=>if v < 0 then (v + (n:Int)).toNat else min v.toNat n
noncomputable def cut3 {α:Type} (xs:List α) (lo hi:Option Int):List α:=(xs.drop (sIx3 xs.length 0 lo)).take (sIx3 xs.length xs.length hi - sIx3 xs.length 0 lo)
noncomputable def slR:D->Option Int->Option Int->Mu->VK3->Prop:=λ x lo hi μ Q=>match x with
 | .tup l=>Q (.tup (cut3 l lo hi)) μ
 | .str z=>z.length<=sizeLine /\ Q (.str ⟨(cut3 z.cps.toList lo hi).toArray⟩) μ
 | .ref p=>match μ p with
  | some (.lst l)=>∀ r,μ r=none->Q (.ref r) (updM μ r (.lst (cut3 l lo hi)))
  | _=>False
 | .fls l=>∀ r,μ r=none->Q (.ref r) (updM μ r (.lst (cut3 l lo hi)))
 | _=>False
noncomputable def next3:TS3:=λ D ρ μ=>D.nx ρ μ
noncomputable def never3:TS3:=λ _ _ _=>False
noncomputable def brk3:TS3:=λ D ρ μ=>D.bk ρ μ
noncomputable def cnt3:TS3:=λ D ρ μ=>D.ct ρ μ
noncomputable def seq3 (t u:TS3):TS3:=λ D ρ μ=>t { D with nx:=u D } ρ μ
noncomputable def drop3 (t:TE3):TS3:=λ D ρ μ=>t ρ μ λ _ μ1=>D.nx ρ μ1
noncomputable def ret3 (t:TE3):TS3:=λ D ρ μ=>t ρ μ D.rt
noncomputable def retN3:TS3:=λ D _ μ=>D.rt .non μ
noncomputable def ifs3 (c:TT3) (t u:TS3):TS3:=λ D ρ μ=>c ρ μ λ b μ1=>if b=true then t D ρ μ1 else u D ρ μ1
noncomputable def gn3 (i:Nat):TG3:=λ d ρ μ Q=>Q (ρ.set i (some d)) μ
noncomputable def gnil3:TGs3:=λ ds ρ μ Q=>match ds with
 | []=>Q ρ μ
 | _=>False
noncomputable def gcons3 (t:TG3) (u:TGs3):TGs3:=λ ds ρ μ Q=>match ds with
 | d :: r=>t d ρ μ λ ρ1 μ1=>u r ρ1 μ1 Q
 | []=>False
noncomputable def gtup3 (n:Nat) (t:TGs3):TG3:=λ d ρ μ Q=>match d with
 | .tup l=>l.length=n /\ t l ρ μ Q
 | _=>False
noncomputable def set3 (i:Nat) (t:TE3):TS3:=λ D ρ μ=>t ρ μ λ d μ1=>D.nx (ρ.set i (some d)) μ1
noncomputable def asg3 (t:TE3) (g:TG3):TS3:=λ D ρ μ=>t ρ μ λ d μ1=>g d ρ μ1 D.nx
noncomputable def par3 (i j:Nat) (t:TA3):TS3:=λ D ρ μ=>t ρ μ λ ds μ1=>match ds with
 | [v,w]=>D.nx ((ρ.set i (some v)).set j (some w)) μ1
 | _=>False
noncomputable def ixN (n:Nat) (i:Int):Option Nat:=if 0<=i then (if i < n then some i.toNat else none) else if -(n:Int)<=i then some (i + n).toNat else none
noncomputable def atI {α:Type} (xs:List α) (i:Int):Option α:=(ixN xs.length i).bind λ j=>xs[j]?
noncomputable def sub3 (to ti:TE3):TG3:=λ d ρ μ Q=>to ρ μ λ o μ1=>ti ρ μ1 λ i μ2=>match o,i with
 | .ref p,.int k=>match μ2 p with
  | some (.lst xs)=>match ixN xs.length k with
   | some j=>Q ρ (updM μ2 p (.lst (xs.set j d)))
   | none=>False
  | _=>False
 | _,_=>False
noncomputable def xs1 (S:Mu->Prop) (g:TG3) (tb:TS3) (D':Ends3):List D->St3->Mu->Prop
 | [],ρ,μ=>S μ /\ D'.nx ρ μ
 | x :: r,ρ,μ=>S μ /\ ∃ N:St3->Mu->Prop,(∀ ρ' μ',N ρ' μ'->xs1 S g tb D' r ρ' μ') /\ g x ρ μ λ ρ1 μ1=>tb { D' with nx:=N,ct:=N,bk:=D'.nx } ρ1 μ1
noncomputable def for3 (ti:TI3) (g:TG3) (tb:TS3):TS3:=λ D' ρ μ=>ti ρ μ λ l S μ1=>xs1 S g tb D' l ρ μ1
theorem ze0 {S:Mu->Prop} {g:TG3} {tb:TS3} {D':Ends3} (W:List D->St3->Mu->Prop) {l:List D} {ρ:St3} {μ:Mu} (h0:W l ρ μ) (hS:∀ l ρ μ,W l ρ μ->S μ) (hn:∀ ρ μ,W [] ρ μ->D'.nx ρ μ)
    (hs:∀ x r ρ μ,W (x :: r) ρ μ->g x ρ μ λ ρ1 μ1=>tb { D' with nx:=W r,ct:=W r,bk:=D'.nx } ρ1 μ1):xs1 S g tb D' l ρ μ:=by
 induction l generalizing ρ μ with
 | nil=>exact ⟨hS _ _ _ h0,hn _ _ h0⟩
 | cons x r ih=>exact ⟨hS _ _ _ h0,W r,λ ρ' μ' q=>ih q,hs x r ρ μ h0⟩
noncomputable def is3 (t:TE3):TI3:=λ ρ μ R=>t ρ μ λ d μ1=>match d with
 | .tup l=>R l (λ _=>True) μ1
 | .fls l=>R l (λ _=>True) μ1
 | .str z=>R (z.cps.toList.map λ c=>D.str ⟨#[c]⟩) (λ _=>True) μ1
 | .ref p=>match μ1 p with
  | some (.lst l)=>R l (λ μ=>μ p=some (.lst l)) μ1
  | _=>False
 | _=>False
noncomputable def rngD (lo:Int) (n:Nat):List D:=(List.range n).map λ i=>.int (lo + (i:Nat))
theorem vm1 (lo:Int) (n:Nat):rngD lo (n + 1)=.int lo :: rngD (lo + 1) n:=by
 unfold rngD
 rw [List.range_succ_eq_map,List.map_cons,List.map_map]
 have e0:lo + ((0:Nat):Int)=lo:=by simp
 rw [e0]
 congr 1
 apply List.map_congr_left
 intro a _
 show D.int (lo + ((a + 1:Nat):Int))=D.int (lo + 1 + (a:Int))
 have e1:lo + ((a + 1:Nat):Int)=lo + 1 + (a:Int):=by omega
 rw [e1]
noncomputable def ir3 (t:TA3):TI3:=λ ρ μ R=>t ρ μ λ ds μ1=>match ds with
 | [.int j]=>(-(2 ^ 62)<=j /\ j < 2 ^ 62) /\ R (rngD 0 j.toNat) (λ _=>True) μ1
 | _=>False
noncomputable def ir23 (t:TA3):TI3:=λ ρ μ R=>t ρ μ λ ds μ1=>match ds with
 | [.int i,.int j]=>(-(2 ^ 62)<=i /\ i < 2 ^ 62 /\ -(2 ^ 62)<=j /\ j < 2 ^ 62) /\ R (rngD i (j - i).toNat) (λ _=>True) μ1
 | _=>False
noncomputable def tc2 (S:Mu->Prop) (p:Addr) (g:TG3) (tc:TT3) (te:TE3) (Q:VK3) (l:List D) (ρ0:St3) (μ0:Mu):Prop :=
 ∃ W:List D->List D->St3->Mu->Prop,W l [] ρ0 μ0 /\ (∀ l ys ρ μ,W l ys ρ μ->S μ /\ μ p=some (.lst ys)) /\ (∀ ys ρ μ,W [] ys ρ μ->Q (.ref p) μ) ∧
  ∀ x r ys ρ μ,W (x :: r) ys ρ μ->ys.length < sizeLine /\ g x ρ μ λ ρ1 μ1=>tc ρ1 μ1 λ b μ2 =>
   if b=true then te ρ1 μ2 λ d μ3=>μ3 p=some (.lst ys) /\ W r (ys ++ [d]) ρ1 (updM μ3 p (.lst (ys ++ [d]))) else W r ys ρ1 μ2
noncomputable def comp3 (js:List (Option Nat)) (ti:TI3) (g:TG3) (tc:TT3) (te:TE3):TE3:=λ ρ μ Q=>ti ρ μ λ l S μ1=>∀ p,μ1 p=none->tc2 S p g tc te Q l (js.map λ j=>j.bind (getI ρ)) (updM μ1 p (.lst []))
noncomputable def tt3:TT3:=λ _ μ Q=>Q true μ
theorem wj0 {S:Mu->Prop} {p:Addr} {te:TE3} {Q:VK3} {l:List D} {o:Option D} {rest:St3} {μ:Mu} (f:D->D) (hp:μ p=none) (hl:l.length<=sizeLine) (hS:∀ μ',Ext μ μ'->S μ')
    (hx:∀ x ∈ l,∀ μ' R,Ext μ μ'->(∀ μ2,Ext μ' μ2->R (f x) μ2)->te (some x :: rest) μ' R) (hQ:∀ μ',Ext μ μ'->μ' p=some (.lst (l.map f))->Q (.ref p) μ') :
    tc2 S p (gn3 0) tt3 te Q l (o :: rest) (updM μ p (.lst [])):=by
 refine ⟨λ r ys ρ μ'=>Ext μ μ' /\ μ' p=some (.lst ys) /\ (∃ o',ρ=o' :: rest) /\ ∃ a,a ++ r=l /\ ys=a.map f,?_,?_,?_,?_⟩
 ·exact ⟨Ext.new hp,za0,⟨o,rfl⟩,[],rfl,rfl⟩
 ·rintro r ys ρ μ' ⟨h1,h2,_⟩
  exact ⟨hS _ h1,h2⟩
 ·rintro ys ρ μ' ⟨h1,h2,_,a,e,rfl⟩
  rw [List.append_nil] at e
  subst e
  exact hQ _ h1 h2
 ·rintro x r ys ρ μ' ⟨h1,h2,⟨o',rfl⟩,a,e,rfl⟩
  refine ⟨by rw [List.length_map]; rw [<- e,List.length_append,List.length_cons] at hl; omega,?_⟩
  show te (some x :: rest) μ' _
  refine hx x (by rw [<- e]; simp) μ' _ h1 λ μ2 h3=>⟨h3 _ _ h2,λ b u hb=>?_,za0,⟨_,rfl⟩,a ++ [x],by simp [<- e],by simp⟩
  rw [ua0 (ub0 hb hp)]
  exact h3 _ _ (h1 _ _ hb)
noncomputable def CPow (i j:Int):Prop:=0<=j /\ j<=1000000 /\ i.natAbs < 2 ^ 64
noncomputable def Big:Nat:=2 ^ 1000
noncomputable def CMul (i j:Int):Prop:=((-(2 ^ 64) < i /\ i < 2 ^ 64) \/ (-(2 ^ 64) < j /\ j < 2 ^ 64)) \/ (i.natAbs < Big /\ j.natAbs < Big)
noncomputable def int2 (C:Int->Int->Prop) (g:Int->Int->D):R3:=λ x y μ Q=>match x,y with
 | .int i,.int j=>C i j /\ Q (g i j) μ
 | _,_=>False
noncomputable def int20 (g:Int->Int->D):R3:=λ x y μ Q=>match x,y with
 | .int i,.int j=>Q (g i j) μ
 | _,_=>False
noncomputable def subR:R3:=int20 λ i j=>.int (i - j)
noncomputable def mulR:R3:=λ x y μ Q=>match x,y with
 | .int i,.int j=>CMul i j /\ Q (.int (i * j)) μ
 | .tup l,.int k=>((-(2 ^ 62)<=k /\ k < 2 ^ 62) /\ l.length * k.toNat<=1000000) /\ Q (.tup (List.replicate k.toNat l).flatten) μ
 | .ref p,.int k=>match μ p with
  | some (.lst l)=>((-(2 ^ 62)<=k /\ k < 2 ^ 62) /\ l.length * k.toNat<=1000000) /\ ∀ r,μ r=none->Q (.ref r) (updM μ r (.lst (List.replicate k.toNat l).flatten))
  | _=>False
 | _,_=>False
noncomputable def modR:R3:=int2 (λ _ j=>0 < j) λ i j=>.int (i % j)
noncomputable def fdivR:R3:=int2 (λ _ j=>0 < j /\ j < 2 ^ 120) λ i j=>.int (i / j)
noncomputable def powR:R3:=int2 CPow λ i j=>.int (i ^ j.toNat)
noncomputable def ltR:R3:=int20 λ i j=>.bl (decide (i < j))
noncomputable def leR:R3:=int20 λ i j=>.bl (decide (i<=j))
noncomputable def gtR:R3:=int20 λ i j=>.bl (decide (j < i))
noncomputable def geR:R3:=int20 λ i j=>.bl (decide (j<=i))
noncomputable def negR:D->Mu->VK3->Prop:=λ x μ Q=>match x with
 | .int i=>Q (.int (-i)) μ
 | _=>False
noncomputable def addR:R3:=λ x y μ Q=>match x,y with
 | .int i,.int j=>Q (.int (i + j)) μ
 | .str i,.str j=>i.length + j.length<=sizeLine /\ Q (.str (i ++ j)) μ
 | .ref p,.ref q=>match μ p,μ q with
  | some (.lst xs),some (.lst ys)=>xs.length + ys.length<=sizeLine /\ ∀ r,μ r=none->Q (.ref r) (updM μ r (.lst (xs ++ ys)))
  | _,_=>False
 | .tup l,.tup m=>l.length + m.length<=sizeLine /\ Q (.tup (l ++ m)) μ
 | _,_=>False
noncomputable def eqS:D->D->Option Bool
 | .int i,.int j=>some (decide (i=j))
 | .bl i,.bl j=>some (decide (i=j))
 | .str i,.str j=>some (decide (i=j))
 | .non,.non=>some true
 | .non,.int _=>some false
 | .int _,.non=>some false
 | .non,.str _=>some false
 | .str _,.non=>some false
 | .int _,.str _=>some false
 | .str _,.int _=>some false
 | _,_=>none
mutual
noncomputable def dat:D->Option PyData
 | .non=>some .none
 | .bl b=>some (.bool b)
 | .int i=>some (.int i)
 | .str x=>if PyData.strOk x=true then some (.str x) else none
 | .tup l=>match dats l with
  | some ps=>some (.tuple ps)
  | none=>none
 | .ktp l=>match dats l with
  | some ps=>some (.tuple ps)
  | none=>none
 | _=>none
noncomputable def dats:List D->Option (List PyData)
 | []=>some []
 | d :: r=>match dat d with
  | some p=>match dats r with
   | some ps=>some (p :: ps)
   | none=>none
  | none=>none
end
noncomputable def datM (μ:Mu):D->Option PyData
 | .ref p=>match μ p with
  | some (.lst l)=>match dats l with
   | some ps=>some (.list ps)
   | none=>none
  | _=>none
 | d=>dat d
noncomputable def eqR:R3:=λ x y μ Q=>match eqS x y with
 | some c=>Q (.bl c) μ
 | none=>match datM μ x,datM μ y with
  | some p,some q=>(p.depth<=64 /\ q.depth<=64) /\ Q (.bl (PyData.eqv p q)) μ
  | _,_=>False
noncomputable def neR:R3:=λ x y μ Q=>match eqS x y with
 | some c=>Q (.bl (!c)) μ
 | none=>match datM μ x,datM μ y with
  | some p,some q=>(p.depth<=64 /\ q.depth<=64) /\ Q (.bl (!PyData.eqv p q)) μ
  | _,_=>False
theorem eqR_ii (i j:Int) (μ:Mu) (Q:VK3):eqR (.int i) (.int j) μ Q=Q (.bl (decide (i=j))) μ:=rfl
theorem eqR_ss (i j:Str) (μ:Mu) (Q:VK3):eqR (.str i) (.str j) μ Q=Q (.bl (decide (i=j))) μ:=rfl
theorem eqR_bb (i j:Bool) (μ:Mu) (Q:VK3):eqR (.bl i) (.bl j) μ Q=Q (.bl (decide (i=j))) μ:=rfl
theorem eqR_is (i:Int) (j:Str) (μ:Mu) (Q:VK3):eqR (.int i) (.str j) μ Q=Q (.bl false) μ:=rfl
theorem neR_ii (i j:Int) (μ:Mu) (Q:VK3):neR (.int i) (.int j) μ Q=Q (.bl (!decide (i=j))) μ:=rfl
theorem neR_ss (i j:Str) (μ:Mu) (Q:VK3):neR (.str i) (.str j) μ Q=Q (.bl (!decide (i=j))) μ:=rfl
theorem neR_bb (i j:Bool) (μ:Mu) (Q:VK3):neR (.bl i) (.bl j) μ Q=Q (.bl (!decide (i=j))) μ:=rfl
theorem wq2 {x y:D} {μ:Mu} {Q:VK3} {p q:PyData} (e:eqS x y=none) (h1:datM μ x=some p) (h2:datM μ y=some q) (d1:p.depth<=64) (d2:q.depth<=64):eqR x y μ Q=Q (.bl (PyData.eqv p q)) μ:=by
 unfold eqR; rw [e]; simp only [h1,h2,d1,d2,true_and,and_self]
theorem yy0 {x y:D} {μ:Mu} {Q:VK3} {p q:PyData} (e:eqS x y=none) (h1:datM μ x=some p) (h2:datM μ y=some q) (d1:p.depth<=64) (d2:q.depth<=64):neR x y μ Q=Q (.bl (!PyData.eqv p q)) μ:=by
 unfold neR; rw [e]; simp only [h1,h2,d1,d2,true_and,and_self]
noncomputable def strs?:List D->Option (List Str)
 | []=>some []
 | .str x :: r=>match strs? r with
  | some l=>some (x :: l)
  | none=>none
 | _ :: _=>none
noncomputable def inD (neg:Bool):R3:=λ x y μ Q=>match datM μ x,datM μ y with
 | some d,some (.list xs)=>(d.depth<=64 /\ (PyData.list xs).depth<=64) /\ Q (.bl (if neg then !(xs.any λ e=>PyData.eqv e d) else xs.any λ e=>PyData.eqv e d)) μ
 | some d,some (.tuple xs)=>(d.depth<=64 /\ (PyData.tuple xs).depth<=64) /\ Q (.bl (if neg then !(xs.any λ e=>PyData.eqv e d) else xs.any λ e=>PyData.eqv e d)) μ
 | _,_=>False
noncomputable def inR (neg:Bool):R3:=λ x y μ Q=>match x,y with
 | .str z,.tup l=>match strs? l with
  | some zs=>Q (.bl (if neg then !zs.contains z else zs.contains z)) μ
  | none=>inD neg (.str z) (.tup l) μ Q
 | .str z,.ktp l=>match strs? l with
  | some zs=>Q (.bl (if neg then !zs.contains z else zs.contains z)) μ
  | none=>inD neg (.str z) (.ktp l) μ Q
 | .str z,.str y=>Q (.bl (if neg then !(!(Builtin.Str.occurrences y z 0 y.length 1).isEmpty) else !(Builtin.Str.occurrences y z 0 y.length 1).isEmpty)) μ
 | x,y=>inD neg x y μ Q
noncomputable def ixR:R3:=λ x y μ Q=>match x,y with
 | .tup l,.int i=>match atI l i with
  | some d=>Q d μ
  | none=>False
 | .ktp l,.int i=>match atI l i with
  | some d=>Q d μ
  | none=>False
 | .fls l,.int i=>match atI l i with
  | some d=>Q d μ
  | none=>False
 | .ref p,.int i=>match μ p with
  | some (.lst l)=>match atI l i with
   | some d=>Q d μ
   | none=>False
  | _=>False
 | _,_=>False
noncomputable def lenR:C3:=λ ds μ Q=>match ds with
 | [.tup l]=>Q (.int l.length) μ
 | [.fls l]=>Q (.int l.length) μ
 | [.str z]=>z.length<=sizeLine /\ Q (.int z.length) μ
 | [.ref p]=>match μ p with
  | some (.lst l)=>Q (.int l.length) μ
  | _=>False
 | _=>False
noncomputable def absR:C3:=λ ds μ Q=>match ds with
 | [.int i]=>Q (.int (if i < 0 then -i else i)) μ
 | _=>False
noncomputable def intR:C3:=λ ds μ Q=>match ds with
 | [.int i]=>Q (.int i) μ
 | [.bl b]=>Q (.int (if b then 1 else 0)) μ
 | [.str z]=>match PySem.intText? z with
  | some n=>z.length<=640 /\ Q (.int n) μ
  | none=>False
 | _=>False
noncomputable def strR:C3:=λ ds μ Q=>match ds with
 | [.int i]=>i.natAbs.log2 < 1920 /\ Q (.str (toString i)) μ
 | _=>False
noncomputable def smt3 (r:Str->List D->Mu->VK3->Prop) (to:TE3) (t:TA3):TE3:=λ ρ μ Q=>to ρ μ λ x μ1=>match x with
 | .str z=>t ρ μ1 λ ds μ2=>r z ds μ2 Q
 | _=>False
noncomputable def joinR:Str->List D->Mu->VK3->Prop:=λ z ds μ Q=>match ds with
 | [.ref p]=>match μ p with
  | some (.lst l)=>match strs? l with
   | some ys=>(z.length<=16 /\ (ys.map (·.length)).sum + ys.length<=1048576) /\ Q (.str (Str.join z ys)) μ
   | none=>False
  | _=>False
 | _=>False
noncomputable def splitR:Str->List D->Mu->VK3->Prop:=λ z ds μ Q=>match ds with
 | [.str y]=>((y.length == 0)=false /\ z.length<=1000000) /\ ∀ r,μ r=none->Q (.ref r) (updM μ r (.lst ((Txt.split z y).map D.str)))
 | _=>False
noncomputable def startsR:Str->List D->Mu->VK3->Prop:=λ z ds μ Q=>match ds with
 | [.str y]=>Q (.bl (Txt.startswith z y)) μ
 | _=>False
noncomputable def pop3 (to:TE3):TE3:=λ ρ μ Q=>to ρ μ λ x μ1=>match x with
 | .ref p=>match μ1 p with
  | some (.lst l)=>match l.reverse with
   | d :: r=>Q d (updM μ1 p (.lst r.reverse))
   | []=>False
  | _=>False
 | _=>False
noncomputable def lrev3 (to:TE3):TE3:=λ ρ μ Q=>cons3 to nil3 ρ μ λ ds μ1=>match ds with
 | [.ref p]=>match μ1 p with
  | some (.lst l)=>∀ r,μ1 r=none->Q (.ref r) (updM μ1 r (.lst l.reverse))
  | _=>False
 | _=>False
noncomputable def tupR:C3:=λ ds μ Q=>match ds with
 | [.tup l]=>Q (.tup l) μ
 | [.ref p]=>match μ p with
  | some (.lst l)=>Q (.tup l) μ
  | _=>False
 | _=>False
noncomputable def ints?:List D->Option (List Int)
 | []=>some []
 | .int x :: r=>match ints? r with
  | some l=>some (x :: l)
  | none=>none
 | _ :: _=>none
noncomputable def sumR:C3:=λ ds μ Q=>match ds with
 | [.ref p]=>match μ p with
  | some (.lst l)=>match ints? l with
   | some ns=>Q (.int ns.sum) μ
   | none=>False
  | _=>False
 | _=>False
noncomputable def bls?:List D->Option (List Bool)
 | []=>some []
 | .bl x :: r=>match bls? r with
  | some l=>some (x :: l)
  | none=>none
 | _ :: _=>none
noncomputable def allR:C3:=λ ds μ Q=>match ds with
 | [.ref p]=>match μ p with
  | some (.lst l)=>match bls? l with
   | some bs=>Q (.bl (bs.all id)) μ
   | none=>False
  | _=>False
 | _=>False
noncomputable def tyN (μ:Mu):D->Option String
 | .int _=>some "int"
 | .bl _=>some "bool"
 | .str _=>some "str"
 | .tup _=>some "tuple"
 | .non=>some "NoneType"
 | .ref p=>match μ p with
  | some (.lst _)=>some "list"
  | _=>none
 | _=>none
noncomputable def isIn (t T:String):Option Bool :=
 if t=T then some true
 else if t = "bool" /\ T = "int" then some true
 else if (t = "int" \/ t = "str" \/ t = "tuple" \/ t = "bool" \/ t = "NoneType" \/ t = "list") /\ (T = "int" \/ T = "str" \/ T = "tuple" \/ T = "bool" \/ T = "list") then some false
 else none
noncomputable def isiR:C3:=λ ds μ Q=>match ds with
 | [d,.ty T]=>match tyN μ d with
  | some t=>match isIn t T with
   | some b=>Q (.bl b) μ
   | none=>False
  | none=>False
 | _=>False
noncomputable def appR:D->List D->Mu->VK3->Prop:=λ x ds μ Q=>match x,ds with
 | .ref p,[d]=>match μ p with
  | some (.lst l)=>l.length < sizeLine /\ Q .non (updM μ p (.lst (l ++ [d])))
  | _=>False
 | _,_=>False
noncomputable def extR:D->List D->Mu->VK3->Prop:=λ x ds μ Q=>match x,ds with
 | .ref p,[.ref q]=>match μ p,μ q with
  | some (.lst l),some (.lst m)=>l.length + m.length<=sizeLine /\ Q .non (updM μ p (.lst (l ++ m)))
  | _,_=>False
 | _,_=>False
theorem atI0 {α:Type} {a:α} {r:List α}:atI (a :: r) 0=some a:=by
 unfold atI ixN; rw [if_pos (by decide),if_pos (by simp only [List.length_cons]; omega)]; rfl
theorem atI1 {α:Type} {a b:α} {r:List α}:atI (a :: b :: r) 1=some b:=by
 unfold atI ixN; rw [if_pos (by decide),if_pos (by simp only [List.length_cons]; omega)]; rfl
theorem atI2 {α:Type} {a b c:α} {r:List α}:atI (a :: b :: c :: r) 2=some c:=by
 unfold atI ixN; rw [if_pos (by decide),if_pos (by simp only [List.length_cons]; omega)]; rfl
theorem ixN0 {n:Nat}:ixN (n + 1) 0=some 0:=by
 unfold ixN; rw [if_pos (by decide),if_pos (by omega)]; rfl
theorem ixN1 {n:Nat}:ixN (n + 1 + 1) 1=some 1:=by
 unfold ixN; rw [if_pos (by decide),if_pos (by omega)]; rfl
theorem ixN2 {n:Nat}:ixN (n + 1 + 1 + 1) 2=some 2:=by
 unfold ixN; rw [if_pos (by decide),if_pos (by omega)]; rfl
theorem xi2 {α:Type} {l:List α} {i:Int} (h0:0<=i) (h1:i < l.length):∃ d,d ∈ l /\ atI l i=some d:=by
 have hn:i.toNat < l.length:=by omega
 refine ⟨l[i.toNat],List.getElem_mem hn,?_⟩
 unfold atI ixN
 rw [if_pos h0,if_pos h1]
 exact List.getElem?_eq_getElem hn
noncomputable def start3 (N:List Str) (ds:List D):St3:=ds.map some ++ List.replicate (N.length - ds.length) none
noncomputable def sd2 (c:TT3) (tb:TS3):TS3:=λ D ρ μ=>∃ W:Nat->St3->Mu->Prop,(∃ m,W m ρ μ) /\ ∀ m ρ μ,W m ρ μ ->
 c ρ μ λ b μ1=>if b=true then ∃ N:St3->Mu->Prop,(∀ ρ' μ',N ρ' μ'->∃ m',m' < m /\ W m' ρ' μ') /\ tb { D with nx:=N,ct:=N,bk:=D.nx } ρ μ1 else D.nx ρ μ1
end Pv
namespace Pv
open PySem L2
noncomputable abbrev Fg:=PySem.W.Frag
structure Kp (H H':Hp):Prop where
 tup:∀ b xs,H b=some (.tup xs)->H' b=some (.tup xs)
 frz:∀ b o u,H b=some (.frz o u)->H' b=some (.frz o u)
theorem Kp.refl (H:Hp):Kp H H:=⟨λ _ _ h=>h,λ _ _ _ h=>h⟩
theorem Kp.trans {a b c:Hp} (h:Kp a b) (k:Kp b c):Kp a c:=⟨λ x xs q=>k.tup x xs (h.tup x xs q),λ x o u q=>k.frz x o u (h.frz x o u q)⟩
theorem Kp.new {H:Hp} {p:Addr} {o:HO} (h:H p=none):Kp H (upd H p o) :=
 ⟨λ b xs q=>by rw [wb0 (ue0 q h)]; exact q,λ b o u q=>by rw [wb0 (ue0 q h)]; exact q⟩
theorem Kp.wr {H:Hp} {p:Addr} {o:HO} {xs:List V} (h:H p=some (.lst xs)):Kp H (upd H p o) :=
 ⟨λ b ys q=>by rw [wb0 (wh1 q h (by intro z; cases z))]; exact q,λ b o u q=>by rw [wb0 (wh1 q h (by intro z; cases z))]; exact q⟩
noncomputable def SqF (K:Fg) (H:Hp) (a:Addr) (xs:List V):Prop :=
 (∃ o,H a=some (.frz o (.lst xs))) \/ ∃ (o:Obj) (its:Array Value) (n:Nat),K.lookup a=some o /\ o.cls=.type "list" /\ o.dict=none /\ o.data=.seq its n /\ its.size<=sizeLine /\ Vals xs its.toList
theorem SqF.l {K:Fg} {H:Hp} {a:Addr} {xs:List V} (h:SqF K H a xs):SqL K H a xs:=by
 rcases h with ⟨o,h⟩ | h
 ·exact .inl (.inr ⟨o,h⟩)
 ·exact .inr h
theorem SqF.mono {K:Fg} {H H':Hp} {a:Addr} {xs:List V} (k:Kp H H') (h:SqF K H a xs):SqF K H' a xs:=by
 rcases h with ⟨o,h⟩ | h
 ·exact .inl ⟨o,k.frz _ _ _ h⟩
 ·exact .inr h
theorem SqT.mono {K:Fg} {H H':Hp} {a:Addr} {xs:List V} (k:Kp H H') (h:SqT K H a xs):SqT K H' a xs:=by
 rcases h with h | h
 ·rcases h with h | ⟨o,h⟩
  ·exact .inl (.inl (k.tup _ _ h))
  ·exact .inl (.inr ⟨o,k.frz _ _ _ h⟩)
 ·exact .inr h
mutual
inductive RelD (K:Fg) (H:Hp):D->V->Prop where
 | non:RelD K H .non .non
 | bl (b:Bool):RelD K H (.bl b) (.bl b)
 | int (i:Int):RelD K H (.int i) (.int i)
 | str (x:Str):RelD K H (.str x) (.str x)
 | ref (a:Addr):RelD K H (.ref a) (.ref a)
 | ty (n:String):RelD K H (.ty n) (.ty n)
 | tup {a:Addr} {l:List D} {vs:List V}:H a=some (.tup vs)->RelDs K H l vs->RelD K H (.tup l) (.ref a)
 | ktp {a:Addr} {l:List D} {vs:List V}:SqT K H a vs->RelDs K H l vs->RelD K H (.ktp l) (.ref a)
 | fls {a:Addr} {l:List D} {vs:List V}:SqF K H a vs->RelDs K H l vs->RelD K H (.fls l) (.ref a)
 | exc {a C:Addr} {c:Str} {ob:Obj} {u:HO}:H a=some (.frz ob u)->ob.cls=.ref C->PySem.W.nsIn K mainGlobals c=some (some (.ref C))->RelD K H (.exc c) (.ref a)
inductive RelDs (K:Fg) (H:Hp):List D->List V->Prop where
 | nil:RelDs K H [] []
 | cons {d:D} {v:V} {l:List D} {vs:List V}:RelD K H d v->RelDs K H l vs->RelDs K H (d :: l) (v :: vs)
end
mutual
theorem RelD.mono {K:Fg} {H H':Hp} (k:Kp H H'):∀ {d:D} {v:V},RelD K H d v->RelD K H' d v
 | _,_,.non=>.non
 | _,_,.bl b=>.bl b
 | _,_,.int b=>.int b
 | _,_,.str b=>.str b
 | _,_,.ref b=>.ref b
 | _,_,.ty b=>.ty b
 | _,_,.tup h r=>.tup (k.tup _ _ h) (RelDs.mono k r)
 | _,_,.ktp h r=>.ktp (SqT.mono k h) (RelDs.mono k r)
 | _,_,.fls h r=>.fls (SqF.mono k h) (RelDs.mono k r)
 | _,_,.exc h r1 r2=>.exc (k.frz _ _ _ h) r1 r2
theorem RelDs.mono {K:Fg} {H H':Hp} (k:Kp H H'):∀ {d:List D} {v:List V},RelDs K H d v->RelDs K H' d v
 | _,_,.nil=>.nil
 | _,_,.cons h r=>.cons (RelD.mono k h) (RelDs.mono k r)
end
theorem RelDs.length {K:Fg} {H:Hp}:∀ {l:List D} {vs:List V},RelDs K H l vs->l.length=vs.length
 | _,_,.nil=>rfl
 | _,_,.cons _ r=>congrArg (· + 1) r.length
theorem RelDs.get {K:Fg} {H:Hp}:∀ {l:List D} {vs:List V} {i:Nat} {d:D},RelDs K H l vs->l[i]?=some d->∃ v,vs[i]?=some v /\ RelD K H d v
 | _,_,_,_,.nil,e=>by simp at e
 | _,_,0,_,.cons h _,e=>by simp at e; subst e; exact ⟨_,rfl,h⟩
 | _,_,i + 1,d,.cons _ r,e=>by
  obtain ⟨v,h1,h2⟩:=RelDs.get (i:=i) (d:=d) r (by simpa using e)
  exact ⟨v,by simpa using h1,h2⟩
theorem RelDs.append {K:Fg} {H:Hp}:∀ {l m:List D} {vs us:List V},RelDs K H l vs->RelDs K H m us->RelDs K H (l ++ m) (vs ++ us)
 | _,_,_,_,.nil,q=>q
 | _,_,_,_,.cons h r,q=>.cons h (RelDs.append r q)
theorem RelDs.set {K:Fg} {H:Hp} {d:D} {v:V} (hd:RelD K H d v):∀ {l:List D} {vs:List V} (i:Nat),RelDs K H l vs->RelDs K H (l.set i d) (vs.set i v)
 | _,_,_,.nil=>.nil
 | _,_,0,.cons _ r=>.cons hd r
 | _,_,i + 1,.cons h r=>.cons h (RelDs.set hd i r)
theorem RelDs.take {K:Fg} {H:Hp}:∀ {l:List D} {vs:List V} (n:Nat),RelDs K H l vs->RelDs K H (l.take n) (vs.take n)
 | _,_,0,r=>by simp only [List.take_zero]; exact .nil
 | _,_,n + 1,.nil=>by simp only [List.take_nil]; exact .nil
 | _,_,n + 1,.cons h r=>by simp only [List.take_succ_cons]; exact .cons h (RelDs.take n r)
theorem RelDs.drop {K:Fg} {H:Hp}:∀ {l:List D} {vs:List V} (n:Nat),RelDs K H l vs->RelDs K H (l.drop n) (vs.drop n)
 | _,_,0,r=>by simp only [List.drop_zero]; exact r
 | _,_,n + 1,.nil=>by simp only [List.drop_nil]; exact .nil
 | _,_,n + 1,.cons h r=>by simp only [List.drop_succ_cons]; exact RelDs.drop n r
theorem RelDs.rep {K:Fg} {H:Hp} {l:List D} {vs:List V} (r:RelDs K H l vs):∀ k:Nat,RelDs K H (List.replicate k l).flatten (List.replicate k vs).flatten
 | 0=>.nil
 | k + 1=>by rw [List.replicate_succ,List.replicate_succ,List.flatten_cons,List.flatten_cons]; exact r.append (RelDs.rep r k)
inductive RelFs (K:Fg) (H:Hp):List (Str × D)->List (Str × V)->Prop where
 | nil:RelFs K H [] []
 | cons {f:Str} {d:D} {v:V} {l:List (Str × D)} {vs:List (Str × V)}:RelD K H d v->RelFs K H l vs->RelFs K H ((f,d) :: l) ((f,v) :: vs)
theorem RelFs.mono {K:Fg} {H H':Hp} (k:Kp H H') {l:List (Str × D)} {vs:List (Str × V)} (r:RelFs K H l vs):RelFs K H' l vs:=by
 induction r with
 | nil=>exact .nil
 | cons h _ ih=>exact .cons (h.mono k) ih
noncomputable def kT (t:Int × Int × Int):List Key:=[.inl t.1,.inl t.2.1,.inl t.2.2]
inductive RelKs (K:Fg) (H:Hp):List ((Int × Int × Int) × D)->List (List Key × V)->Prop where
 | nil:RelKs K H [] []
 | cons {t:Int × Int × Int} {d:D} {v:V} {l:List ((Int × Int × Int) × D)} {vs:List (List Key × V)}:RelD K H d v->RelKs K H l vs->RelKs K H ((t,d) :: l) ((kT t,v) :: vs)
theorem RelKs.mono {K:Fg} {H H':Hp} (k:Kp H H') {l:List ((Int × Int × Int) × D)} {vs:List (List Key × V)} (r:RelKs K H l vs):RelKs K H' l vs:=by
 induction r with
 | nil=>exact .nil
 | cons h _ ih=>exact .cons (h.mono k) ih
noncomputable def kL (k:List Int):List Key:=k.map Sum.inl
inductive RelKl (K:Fg) (H:Hp):List (List Int × D)->List (List Key × V)->Prop where
 | nil:RelKl K H [] []
 | cons {t:List Int} {d:D} {v:V} {l:List (List Int × D)} {vs:List (List Key × V)}:RelD K H d v->RelKl K H l vs->RelKl K H ((t,d) :: l) ((kL t,v) :: vs)
theorem RelKl.mono {K:Fg} {H H':Hp} (k:Kp H H') {l:List (List Int × D)} {vs:List (List Key × V)} (r:RelKl K H l vs):RelKl K H' l vs:=by
 induction r with
 | nil=>exact .nil
 | cons h _ ih=>exact .cons (h.mono k) ih
inductive RelKk (K:Fg) (H:Hp):List (Key × D)->List (Key × V)->Prop where
 | nil:RelKk K H [] []
 | cons {t:Key} {d:D} {v:V} {l:List (Key × D)} {vs:List (Key × V)}:RelD K H d v->RelKk K H l vs->RelKk K H ((t,d) :: l) ((t,v) :: vs)
theorem RelKk.mono {K:Fg} {H H':Hp} (k:Kp H H') {l:List (Key × D)} {vs:List (Key × V)} (r:RelKk K H l vs):RelKk K H' l vs:=by
 induction r with
 | nil=>exact .nil
 | cons h _ ih=>exact .cons (h.mono k) ih
structure RelM (K:Fg) (μ:Mu) (H:Hp):Prop where
 lst:∀ p xs,μ p=some (.lst xs)->∃ vs,H p=some (.lst vs) /\ RelDs K H xs vs
 ins:∀ p c fs,μ p=some (.ins c fs)->∃ C dx vs,PySem.W.nsIn K mainGlobals c=some (some (.ref C)) /\ H p=some (.ins C dx vs) /\ H dx=some (.own p) /\ RelFs K H fs vs
 dct:∀ p kvs,μ p=some (.dct kvs)->∃ vs,H p=some (.dT vs) /\ RelKs K H kvs vs
 dcl:∀ p kvs,μ p=some (.dcl kvs)->∃ vs,H p=some (.dT vs) /\ RelKl K H kvs vs
 dck:∀ p kvs,μ p=some (.dck kvs)->∃ vs,H p=some (.dK vs) /\ RelKk K H kvs vs
instance {K:Fg} {μ:Mu} {H:Hp}:CoeFun (RelM K μ H) (λ _=>∀ p xs,μ p=some (.lst xs)->∃ vs,H p=some (.lst vs) /\ RelDs K H xs vs):=⟨RelM.lst⟩
theorem RelM.free {K:Fg} {μ:Mu} {H:Hp} (m:RelM K μ H) {p:Addr} (h:H p=none):μ p=none:=by
 cases e:μ p with
 | none=>rfl
 | some o =>
  cases o with
  | lst xs =>
   obtain ⟨vs,q,_⟩:=m.lst p xs e
   rw [h] at q; cases q
  | ins c fs =>
   obtain ⟨C,dx,vs,_,q,_⟩:=m.ins p c fs e
   rw [h] at q; cases q
  | dct kvs =>
   obtain ⟨vs,q,_⟩:=m.dct p kvs e
   rw [h] at q; cases q
  | dcl kvs =>
   obtain ⟨vs,q,_⟩:=m.dcl p kvs e
   rw [h] at q; cases q
  | dck kvs =>
   obtain ⟨vs,q,_⟩:=m.dck p kvs e
   rw [h] at q; cases q
theorem RelM.newT {K:Fg} {μ:Mu} {H:Hp} {p:Addr} {o:HO} (h:H p=none) (m:RelM K μ H):RelM K μ (upd H p o):=by
 have ne:∀ {q:Addr} {u:HO},H q=some u->q ≠ p:=λ {q u} e z=>by subst z; rw [h] at e; cases e
 refine ⟨λ q xs e=>?_,λ q c fs e=>?_,λ q kvs e=>?_,λ q kvs e=>?_,λ q kvs e=>?_⟩
 ·obtain ⟨vs,q1,r⟩:=m.lst q xs e
  exact ⟨vs,by rw [wb0 (ne q1)]; exact q1,r.mono (Kp.new h)⟩
 ·obtain ⟨C,dx,vs,n,q1,q2,r⟩:=m.ins q c fs e
  exact ⟨C,dx,vs,n,by rw [wb0 (ne q1)]; exact q1,by rw [wb0 (ne q2)]; exact q2,r.mono (Kp.new h)⟩
 ·obtain ⟨vs,q1,r⟩:=m.dct q kvs e
  exact ⟨vs,by rw [wb0 (ne q1)]; exact q1,r.mono (Kp.new h)⟩
 ·obtain ⟨vs,q1,r⟩:=m.dcl q kvs e
  exact ⟨vs,by rw [wb0 (ne q1)]; exact q1,r.mono (Kp.new h)⟩
 ·obtain ⟨vs,q1,r⟩:=m.dck q kvs e
  exact ⟨vs,by rw [wb0 (ne q1)]; exact q1,r.mono (Kp.new h)⟩
theorem RelM.newL {K:Fg} {μ:Mu} {H:Hp} {p:Addr} {xs:List D} {vs:List V} (h:H p=none) (r:RelDs K H xs vs) (m:RelM K μ H):RelM K (updM μ p (.lst xs)) (upd H p (.lst vs)):=by
 have m':=m.newT (o:=.lst vs) h
 refine ⟨λ q ys e=>?_,λ q c fs e=>?_,λ q kvs e=>?_,λ q kvs e=>?_,λ q kvs e=>?_⟩
 ·by_cases z:q=p
  ·subst z
   rw [za0] at e; cases e
   exact ⟨vs,zd0,r.mono (Kp.new h)⟩
  ·rw [ua0 z] at e
   exact m'.lst q ys e
 ·by_cases z:q=p
  ·subst z
   rw [za0] at e; cases e
  ·rw [ua0 z] at e
   exact m'.ins q c fs e
 ·by_cases z:q=p
  ·subst z
   rw [za0] at e; cases e
  ·rw [ua0 z] at e
   exact m'.dct q kvs e
 ·by_cases z:q=p
  ·subst z
   rw [za0] at e; cases e
  ·rw [ua0 z] at e
   exact m'.dcl q kvs e
 ·by_cases z:q=p
  ·subst z
   rw [za0] at e; cases e
  ·rw [ua0 z] at e
   exact m'.dck q kvs e
theorem RelM.wr {K:Fg} {μ:Mu} {H:Hp} {p:Addr} {xs:List D} {vs ws:List V} (h:H p=some (.lst ws)) (r:RelDs K H xs vs) (m:RelM K μ H):RelM K (updM μ p (.lst xs)) (upd H p (.lst vs)):=by
 refine ⟨λ q ys e=>?_,λ q c fs e=>?_,λ q kvs e=>?_,λ q kvs e=>?_,λ q kvs e=>?_⟩
 ·by_cases z:q=p
  ·subst z
   rw [za0] at e; cases e
   exact ⟨vs,zd0,r.mono (Kp.wr h)⟩
  ·rw [ua0 z] at e
   rw [wb0 z]
   obtain ⟨us,q1,r1⟩:=m.lst q ys e
   exact ⟨us,q1,r1.mono (Kp.wr h)⟩
 ·by_cases z:q=p
  ·subst z
   rw [za0] at e; cases e
  ·rw [ua0 z] at e
   obtain ⟨C,dx,us,n,q1,q2,r1⟩:=m.ins q c fs e
   refine ⟨C,dx,us,n,by rw [wb0 z]; exact q1,?_,r1.mono (Kp.wr h)⟩
   rw [wb0]
   ·exact q2
   ·intro y; subst y; rw [h] at q2; cases q2
 ·by_cases z:q=p
  ·subst z
   rw [za0] at e; cases e
  ·rw [ua0 z] at e
   rw [wb0 z]
   obtain ⟨us,q1,r1⟩:=m.dct q kvs e
   exact ⟨us,q1,r1.mono (Kp.wr h)⟩
 ·by_cases z:q=p
  ·subst z
   rw [za0] at e; cases e
  ·rw [ua0 z] at e
   rw [wb0 z]
   obtain ⟨us,q1,r1⟩:=m.dcl q kvs e
   exact ⟨us,q1,r1.mono (Kp.wr h)⟩
 ·by_cases z:q=p
  ·subst z
   rw [za0] at e; cases e
  ·rw [ua0 z] at e
   rw [wb0 z]
   obtain ⟨us,q1,r1⟩:=m.dck q kvs e
   exact ⟨us,q1,r1.mono (Kp.wr h)⟩
structure RSt (K:Fg) (H:Hp) (ρ:St3) (σ:St):Prop where
 len:ρ.length=σ.length
 at':∀ i d,getI ρ i=some d->∃ v,σ[i]?=some (some v) /\ RelD K H d v
theorem RSt.mono {K:Fg} {H H':Hp} {ρ:St3} {σ:St} (k:Kp H H') (s:RSt K H ρ σ):RSt K H' ρ σ:=⟨s.len,λ i d e=>let ⟨v,h,r⟩:=s.at' i d e; ⟨v,h,r.mono k⟩⟩
theorem td1:∀ (ρ:St3) (i j:Nat) (d:Option D),getI (ρ.set i d) j=if i=j /\ i < ρ.length then d else getI ρ j
 | [],i,j,d=>by simp [getI]
 | o :: r,0,0,d=>by simp [getI]
 | o :: r,0,j + 1,d=>by simp [getI]
 | o :: r,i + 1,0,d=>by simp [getI]
 | o :: r,i + 1,j + 1,d=>by simp only [List.set_cons_succ,getI,td1 r i j d,List.length_cons]; simp
theorem RSt.set {K:Fg} {H:Hp} {ρ:St3} {σ:St} {d:D} {v:V} (i:Nat) (r:RelD K H d v) (s:RSt K H ρ σ):RSt K H (ρ.set i (some d)) (σ.set i (some v)):=by
 refine ⟨by simp [s.len],λ j e h=>?_⟩
 rw [td1] at h
 split at h
 ·next c =>
  obtain ⟨rfl,c2⟩:=c
  cases h
  exact ⟨v,by rw [List.getElem?_set_self (by rw [<- s.len]; exact c2)],r⟩
 ·next c =>
  obtain ⟨u,q,r'⟩:=s.at' j e h
  have hj:j < σ.length:=(List.getElem?_eq_some_iff.mp q).1
  by_cases z:i=j
  ·subst z; exact absurd ⟨rfl,by rw [s.len]; exact hj⟩ c
  ·exact ⟨u,by rw [List.getElem?_set_ne z]; exact q,r'⟩
theorem RSt.start {K:Fg} {H:Hp} {ds:List D} {vs:List V} (N:List Str) (r:RelDs K H ds vs):RSt K H (start3 N ds) (L2.start N vs):=by
 have hl:=r.length
 refine ⟨by simp [start3,L2.start,hl],λ i d e=>?_⟩
 rw [uy0] at e
 unfold start3 at e
 unfold L2.start
 by_cases c:i < ds.length
 ·rw [List.getElem?_append_left (by simpa using c),List.getElem?_map] at e
  cases q:ds[i]? with
  | none=>rw [q] at e; cases e
  | some d' =>
   rw [q] at e
   have e':d'=d:=by simpa using e
   subst e'
   obtain ⟨v,h1,h2⟩:=r.get q
   exact ⟨v,by rw [List.getElem?_append_left (by rw [List.length_map]; omega),List.getElem?_map,h1]; rfl,h2⟩
 ·rw [List.getElem?_append_right (by simpa using c),List.getElem?_replicate] at e
  split at e <;> simp at e
noncomputable abbrev Ks (K:Fg) (H:Hp) (Q3:VK3) (Q:VK):Prop:=∀ d μ' v H',Q3 d μ'->Kp H H'->RelD K H' d v->RelM K μ' H'->Q v H'
theorem Ks.after {K:Fg} {H H1:Hp} {Q3:VK3} {Q:VK} (k:Ks K H Q3 Q) (e:Kp H H1):Ks K H1 Q3 Q:=λ d μ v H' q e'=>k d μ v H' q (e.trans e')
noncomputable def RdE (K:Fg) (tv:TE) (t:TE3):Prop:=∀ σ H Q ρ μ Q3,RSt K H ρ σ->RelM K μ H->t ρ μ Q3->Ks K H Q3 Q->tv σ H Q
noncomputable def RE (X:Cx) (e:Expr) (t:TE3):Prop:=∃ tv,PE X e tv /\ RdE X.K tv t
noncomputable def RdT (K:Fg) (tv:TT) (t:TT3):Prop:=∀ σ H Q ρ μ Q3,RSt K H ρ σ->RelM K μ H->t ρ μ Q3->(∀ b μ' H',Q3 b μ'->Kp H H'->RelM K μ' H'->Q b H')->tv σ H Q
noncomputable def RT (X:Cx) (e:Expr) (t:TT3):Prop:=∃ tv,PT X e tv /\ RdT X.K tv t
noncomputable def RW (X:Cx) (e:Expr) (t:TT3):Prop:=∃ tv,PW X e tv /\ RdT X.K tv t
noncomputable def RdA (K:Fg) (tv:TA) (t:TA3):Prop:=∀ σ H Q ρ μ Q3,RSt K H ρ σ->RelM K μ H->t ρ μ Q3->(∀ ds μ' vs H',Q3 ds μ'->Kp H H'->RelDs K H' ds vs->RelM K μ' H'->Q vs H')->tv σ H Q
noncomputable def RA (X:Cx) (es:List Expr) (t:TA3):Prop:=∃ tv,PA X es tv /\ RdA X.K tv t
structure KsD (K:Fg) (H:Hp) (D3:Ends3) (D:Ends):Prop where
 nx:∀ ρ μ σ H',D3.nx ρ μ->Kp H H'->RSt K H' ρ σ->RelM K μ H'->D.nx σ H'
 bk:∀ ρ μ σ H',D3.bk ρ μ->Kp H H'->RSt K H' ρ σ->RelM K μ H'->D.bk σ H'
 ct:∀ ρ μ σ H',D3.ct ρ μ->Kp H H'->RSt K H' ρ σ->RelM K μ H'->D.ct σ H'
 rt:Ks K H D3.rt D.rt
theorem KsD.after {K:Fg} {H H1:Hp} {D3:Ends3} {D:Ends} (k:KsD K H D3 D) (e:Kp H H1):KsD K H1 D3 D :=
 ⟨λ ρ μ σ H' q e'=>k.nx ρ μ σ H' q (e.trans e'),λ ρ μ σ H' q e'=>k.bk ρ μ σ H' q (e.trans e'),λ ρ μ σ H' q e'=>k.ct ρ μ σ H' q (e.trans e'),k.rt.after e⟩
noncomputable def RdS (K:Fg) (tv:TS) (t:TS3):Prop:=∀ σ H D ρ μ D3,RSt K H ρ σ->RelM K μ H->t D3 ρ μ->KsD K H D3 D->tv D σ H
noncomputable def RS (X:Cx) (st:Stmt) (t:TS3):Prop:=∃ tv,PS X st tv /\ RdS X.K tv t
noncomputable def RSs (X:Cx) (st:List Stmt) (t:TS3):Prop:=∃ tv,PSs X st tv /\ RdS X.K tv t
noncomputable def RdG (K:Fg) (tv:TG) (t:TG3):Prop:=∀ v d σ H Q ρ μ Q3,RSt K H ρ σ->RelM K μ H->RelD K H d v->t d ρ μ Q3->(∀ ρ' μ' σ' H',Q3 ρ' μ'->Kp H H'->RSt K H' ρ' σ'->RelM K μ' H'->Q σ' H')->tv v σ H Q
noncomputable def RG (X:Cx) (e:Expr) (t:TG3):Prop:=∃ tv,PG X e tv /\ RdG X.K tv t
noncomputable def RdGs (K:Fg) (tv:TGs) (t:TGs3):Prop:=∀ vs ds σ H Q ρ μ Q3,RSt K H ρ σ->RelM K μ H->RelDs K H ds vs->t ds ρ μ Q3->(∀ ρ' μ' σ' H',Q3 ρ' μ'->Kp H H'->RSt K H' ρ' σ'->RelM K μ' H'->Q σ' H')->tv vs σ H Q
noncomputable def RGs (X:Cx) (es:List Expr) (t:TGs3):Prop:=∃ tv,PGs X es tv /\ RdGs X.K tv t
noncomputable def RdO (K:Fg) (r:R2) (r3:R3):Prop:=∀ x y v u H Q μ Q3,RelM K μ H->RelD K H x v->RelD K H y u->r3 x y μ Q3->Ks K H Q3 Q->r v u H Q
noncomputable def RO (X:Cx) (f:Value->Value->Sem Value) (r3:R3):Prop:=∃ r,OpR X f r /\ RdO X.K r r3
noncomputable def RdU (K:Fg) (r:V->Hp->VK->Prop) (r3:D->Mu->VK3->Prop):Prop:=∀ x v H Q μ Q3,RelM K μ H->RelD K H x v->r3 x μ Q3->Ks K H Q3 Q->r v H Q
noncomputable def RU (X:Cx) (f:Value->Sem Value) (r3:D->Mu->VK3->Prop):Prop:=∃ r,UnR X f r /\ RdU X.K r r3
noncomputable def RdC (K:Fg) (r:List V->Hp->VK->Prop) (r3:C3):Prop:=∀ xs vs H Q μ Q3,RelM K μ H->RelDs K H xs vs->r3 xs μ Q3->Ks K H Q3 Q->r vs H Q
noncomputable def RC (X:Cx) (f:Value) (r3:C3):Prop:=∃ r,CallR X f r /\ RdC X.K r r3
noncomputable def RX (X:Cx) (r3:R3):Prop:=∃ r,IxR X r /\ RdO X.K r r3
end Pv
namespace Pv
open PySem L2
section
variable {X:Cx} {a b c e:Expr} {ta tb tc te:TE3} {pos:Pos}
theorem ya0 (i:Nat) {x:Str} (hN:X.N[i]?=some x:=by rfl) (hv:Vis X.env.scope x:=by first | exact Or.inl rfl | exact Or.inr (Or.inl rfl) | exact Or.inr (Or.inr rfl)) (hd:(x == ("__debug__" : Str))=false:=by decide)
    (hcd:(x == ("__classdict__" : Str))=false:=by decide):RE X (.Name x pos) (v3 i):=by
 refine ⟨_,uf2 hN hv hd hcd,λ σ H Q ρ μ Q3 s m h k=>?_⟩
 unfold v3 at h
 cases q:getI ρ i with
 | none=>rw [q] at h; exact h.elim
 | some d =>
  rw [q] at h
  obtain ⟨v,e,r⟩:=s.at' i d q
  exact ⟨v,e,k d μ v H h (Kp.refl H) r m⟩
theorem RdE.cst {K:Fg} {d:D} {v:V} (r:∀ H,RelD K H d v):RdE K (tC v) (c3 d):=λ σ H Q ρ μ Q3 s m h k=>k d μ v H h (Kp.refl H) (r H) m
theorem sa0 {i:Int} {j}:RE X (.Constant (.int i) j pos) (c3 (.int i)):=⟨_,ug3,RdE.cst λ _=>.int i⟩
theorem yi0 {i:Bool} {j}:RE X (.Constant (.bool i) j pos) (c3 (.bl i)):=⟨_,xu3,RdE.cst λ _=>.bl i⟩
noncomputable def Gd (K:Fg) (mg:Str->Option Value) (x:Str) (d:D):Prop:=∃ u v,mg x=some u /\ RelV v u /\ ∀ H,RelD K H d v
theorem re_g {x:Str} {d:D} (g:Gd X.K X.mg x d) (hg:Gl X x:=by rfl) (hd:(x == ("__debug__" : Str))=false:=by decide):RE X (.Name x pos) (c3 d):=by
 obtain ⟨u,v,hm,r,rd⟩:=g
 exact ⟨_,zn2 hg hm r hd,RdE.cst rd⟩
theorem vx0 {x:Str} {T:String} (hm:X.mg x=none) (hv:bootBuiltins x=some (.type T)) (hg:Gl X x:=by rfl) (hn:x ≠ "__name__" := by decide) (hd:(x == ("__debug__" : Str))=false:=by decide):RE X (.Name x pos) (c3 (.ty T)) :=
 ⟨_,xo2 hg hm hv (show RelV (.ty T) (.type T) from rfl) hn hd,RdE.cst λ _=>.ty T⟩
theorem vc0 {op:Operator} {r3:R3} (ho:RO X (binaryOp op) r3) (ha:RE X a ta) (hb:RE X b tb):RE X (.BinOp a op b pos) (o3 r3 ta tb):=by
 obtain ⟨r,po,ro⟩:=ho
 obtain ⟨va,pa,ra⟩:=ha
 obtain ⟨vb,pb,rb⟩:=hb
 exact ⟨_,vt3 po pa pb,λ σ H Q ρ μ Q3 s m h k=>ra σ H _ ρ μ _ s m h λ x μ1 v H1 h1 k1 r1 m1=>rb σ H1 _ ρ μ1 _ (s.mono k1) m1 h1 λ y μ2 u H2 h2 k2 r2 m2 =>
  ro x y v u H2 Q μ2 Q3 m2 (r1.mono k2) r2 h2 (k.after (k1.trans k2))⟩
theorem za3 {op:UnaryOp} {r3:D->Mu->VK3->Prop} (ho:RU X (unaryOp op) r3) (ha:RE X a ta):RE X (.UnaryOp op a pos) (un3 r3 ta):=by
 obtain ⟨r,po,ro⟩:=ho
 obtain ⟨va,pa,ra⟩:=ha
 exact ⟨_,wt3 po pa,λ σ H Q ρ μ Q3 s m h k=>ra σ H _ ρ μ _ s m h λ x μ1 v H1 h1 k1 r1 m1=>ro x v H1 Q μ1 Q3 m1 r1 h1 (k.after k1)⟩
theorem RdE.op {K:Fg} {r:R2} {r3:R3} {va vb:TE} (ra:RdE K va ta) (rb:RdE K vb tb) (ro:RdO K r r3):RdE K (tOp r va vb) (o3 r3 ta tb):=λ σ H Q ρ μ Q3 s m h k =>
 ra σ H _ ρ μ _ s m h λ x μ1 v H1 h1 k1 r1 m1=>rb σ H1 _ ρ μ1 _ (s.mono k1) m1 h1 λ y μ2 u H2 h2 k2 r2 m2=>ro x y v u H2 Q μ2 Q3 m2 (r1.mono k2) r2 h2 (k.after (k1.trans k2))
theorem RdT.test {K:Fg} {va:TE} (ra:RdE K va ta):RdT K (wv2 va) (b3 ta):=λ σ H Q ρ μ Q3 s m h k=>by
 refine ra σ H _ ρ μ _ s m h λ d μ1 v H1 h1 k1 r1 m1=>?_
 cases r1 with
 | bl c=>exact ⟨c,rfl,k c μ1 H1 h1 k1 m1⟩
 | _=>exact False.elim h1
theorem ua3 {op:CmpOp} {r3:R3} (ho:RO X (compareOp op) r3) (ha:RE X a ta) (hb:RE X b tb) (hm:behindInMarks op b=false:=by first | exact sf2 _ | with_unfolding_all rfl):RE X (.Compare a [op] [b] pos) (o3 r3 ta tb):=by
 obtain ⟨r,po,ro⟩:=ho
 obtain ⟨va,pa,ra⟩:=ha
 obtain ⟨vb,pb,rb⟩:=hb
 exact ⟨_,un2 po pa pb hm,ra.op rb ro⟩
theorem uc0 {op:CmpOp} {r3:R3} (ho:RO X (compareOp op) r3) (ha:RE X a ta) (hb:RE X b tb) (hm:behindInMarks op b=false:=by first | exact sf2 _ | with_unfolding_all rfl):RT X (.Compare a [op] [b] pos) (b3 (o3 r3 ta tb)):=by
 obtain ⟨r,po,ro⟩:=ho
 obtain ⟨va,pa,ra⟩:=ha
 obtain ⟨vb,pb,rb⟩:=hb
 exact ⟨_,vl2 po pa pb hm,RdT.test (ra.op rb ro)⟩
theorem tk0 (ha:RE X a ta) (he:∀ whole,isTrue a X.env whole=(do let v <- whole; standAt a.pos; holding [v] (truthy v)):=by intro _; rfl):RT X a (b3 ta):=by
 obtain ⟨va,pa,ra⟩:=ha
 exact ⟨_,ve3 pa he,RdT.test ra⟩
variable {tA tB':TT3} {rest:List Expr}
theorem RW.pt (h:RW X a tA):RT X a tA:=let ⟨t,p,r⟩:=h; ⟨t,p.pt,r⟩
theorem tt0 (h:RW X a tA):RT X a tA:=h.pt
theorem tj2 (h:RT X a tA):RW X (.BoolOp .And [a] pos) tA:=let ⟨t,p,r⟩:=h; ⟨t,yl2 p,r⟩
theorem wm0 (h:RT X a tA):RW X (.BoolOp .Or [a] pos) tA:=let ⟨t,p,r⟩:=h; ⟨t,sd3 p,r⟩
theorem sx2 (ha:RT X a tA) (hb:RW X (.BoolOp .And (b :: rest) pos) tB'):RW X (.BoolOp .And (a :: b :: rest) pos) (and3 tA tB'):=by
 obtain ⟨va,pa,ra⟩:=ha
 obtain ⟨vb,pb,rb⟩:=hb
 refine ⟨_,xe3 pa pb,λ σ H Q ρ μ Q3 s m h k=>ra σ H _ ρ μ _ s m h λ c μ1 H1 h1 k1 m1=>?_⟩
 cases c with
 | true=>exact rb σ H1 Q ρ μ1 Q3 (s.mono k1) m1 h1 λ b μ' H' q e=>k b μ' H' q (k1.trans e)
 | false=>exact k _ _ _ h1 k1 m1
theorem wr0 (ha:RT X a tA) (hb:RW X (.BoolOp .Or (b :: rest) pos) tB'):RW X (.BoolOp .Or (a :: b :: rest) pos) (or3 tA tB'):=by
 obtain ⟨va,pa,ra⟩:=ha
 obtain ⟨vb,pb,rb⟩:=hb
 refine ⟨_,xt3 pa pb,λ σ H Q ρ μ Q3 s m h k=>ra σ H _ ρ μ _ s m h λ c μ1 H1 h1 k1 m1=>?_⟩
 cases c with
 | true=>exact k _ _ _ h1 k1 m1
 | false=>exact rb σ H1 Q ρ μ1 Q3 (s.mono k1) m1 h1 λ b μ' H' q e=>k b μ' H' q (k1.trans e)
theorem um0 (ha:RT X a tA):RT X (.UnaryOp .Not a pos) (not3 tA):=by
 obtain ⟨va,pa,ra⟩:=ha
 exact ⟨_,ue3 pa,λ σ H Q ρ μ Q3 s m h k=>ra σ H _ ρ μ _ s m h λ c μ1 H1 h1 k1 m1=>k _ _ _ h1 k1 m1⟩
theorem yf2 {op} (h:RE X a ta):RE X (.BoolOp op [a] pos) ta:=let ⟨t,p,r⟩:=h; ⟨t,zg3 p,r⟩
theorem zf2 (ha:RE X a ta) (hb:RE X (.BoolOp .And (b :: rest) pos) tb):RE X (.BoolOp .And (a :: b :: rest) pos) (andV3 ta tb):=by
 obtain ⟨va,pa,ra⟩:=ha
 obtain ⟨vb,pb,rb⟩:=hb
 refine ⟨_,tg3 pa pb,λ σ H Q ρ μ Q3 s m h k=>ra σ H _ ρ μ _ s m h λ d μ1 v H1 h1 k1 r1 m1=>?_⟩
 cases r1 with
 | bl c =>
  refine ⟨c,rfl,?_⟩
  cases c with
  | true=>exact rb σ H1 Q ρ μ1 Q3 (s.mono k1) m1 h1 (k.after k1)
  | false=>exact k _ _ _ _ h1 k1 (.bl _) m1
 | _=>exact False.elim h1
theorem wa3 (ha:RE X a ta):RE X (.UnaryOp .Not a pos) (notV3 ta):=by
 obtain ⟨va,pa,ra⟩:=ha
 refine ⟨_,wg3 pa,λ σ H Q ρ μ Q3 s m h k=>ra σ H _ ρ μ _ s m h λ d μ1 v H1 h1 k1 r1 m1=>?_⟩
 cases r1 with
 | bl c=>exact ⟨c,rfl,k _ _ _ _ h1 k1 (.bl _) m1⟩
 | _=>exact False.elim h1
variable {es:List Expr} {t:TA3}
theorem va0:RA X [] nil3:=⟨_,sg3,λ σ H Q ρ μ Q3 s m h k=>k [] μ [] H h (Kp.refl H) .nil m⟩
theorem xa0 (ha:RE X e te) (hr:RA X es t) (hs:starEach (e :: es) X.env=(false,eval e X.env) :: starEach es X.env:=by rfl):RA X (e :: es) (cons3 te t):=by
 obtain ⟨va,pa,ra⟩:=ha
 obtain ⟨vb,pb,rb⟩:=hr
 exact ⟨_,zo2 pa pb hs,λ σ H Q ρ μ Q3 s m h k=>ra σ H _ ρ μ _ s m h λ d μ1 v H1 h1 k1 r1 m1=>rb σ H1 _ ρ μ1 _ (s.mono k1) m1 h1 λ ds μ2 vs H2 h2 k2 r2 m2 =>
  k _ _ _ _ h2 (k1.trans k2) (.cons (r1.mono k2) r2) m2⟩
theorem td0 {x1} (h:RA X es t):RE X (.Tuple es x1 pos) (tup3 t):=by
 obtain ⟨va,pa,ra⟩:=h
 refine ⟨_,tf2 pa,λ σ H Q ρ μ Q3 s m h k=>ra σ H _ ρ μ _ s m h λ ds μ1 vs H1 h1 k1 r1 m1=>⟨by rw [<- r1.length]; exact h1.1,λ p hp=>?_⟩⟩
 exact k _ _ _ _ h1.2 (k1.trans (Kp.new hp)) (.tup zd0 (r1.mono (Kp.new hp))) (m1.newT hp)
theorem zh0 (h:RA X es t):RE X (.List es pos) (lst3 t):=by
 obtain ⟨va,pa,ra⟩:=h
 refine ⟨_,vg3 pa,λ σ H Q ρ μ Q3 s m h k=>ra σ H _ ρ μ _ s m h λ ds μ1 vs H1 h1 k1 r1 m1=>⟨by rw [<- r1.length]; exact h1.1,λ p hp=>?_⟩⟩
 exact k _ _ _ _ (h1.2 p (m1.free hp)) (k1.trans (Kp.new hp)) (.ref p) (m1.newL hp r1)
variable {st:Stmt} {sts:List Stmt} {t3 u3:TS3}
theorem xd0:RSs X [] next3:=⟨_,tl2,λ σ H D ρ μ D3 s m h k=>k.nx ρ μ σ H h (Kp.refl H) s m⟩
theorem xb0 (h:RS X st t3):RSs X [st] t3:=let ⟨t,p,r⟩:=h; ⟨t,ul2 p,r⟩
theorem ta0 (h1:RS X st t3) (h2:RSs X sts u3):RSs X (st :: sts) (seq3 t3 u3):=by
 obtain ⟨va,pa,ra⟩:=h1
 obtain ⟨vb,pb,rb⟩:=h2
 refine ⟨_,uy1 pa pb,λ σ H D ρ μ D3 s m h k=>ra σ H _ ρ μ _ s m h ⟨λ ρ1 μ1 σ1 H1 h1 k1 s1 m1=>rb σ1 H1 D ρ1 μ1 D3 s1 m1 h1 (k.after k1),k.bk,k.ct,k.rt⟩⟩
theorem wb1:RS X st never3:=⟨_,sy1,λ σ H D ρ μ D3 s m h k=>h⟩
theorem tg0 (he:RE X e te) (hs:swapsWith e none pos.line X.env=pure false:=by rfl):RS X (.Expr e pos) (drop3 te):=by
 obtain ⟨va,pa,ra⟩:=he
 exact ⟨_,ym2 pa hs,λ σ H D ρ μ D3 s m h k=>ra σ H _ ρ μ _ s m h λ d μ1 v H1 h1 k1 r1 m1=>k.nx ρ μ1 σ H1 h1 k1 (s.mono k1) m1⟩
theorem yc0 (he:RE X e te):RS X (.Return (some e) pos) (ret3 te):=by
 obtain ⟨va,pa,ra⟩:=he
 exact ⟨_,xf3 pa,λ σ H D ρ μ D3 s m h k=>ra σ H _ ρ μ _ s m h k.rt⟩
theorem zg0 {as bs:List Stmt} (hc:RT X c tA) (ha:RSs X as t3) (hb:RSs X bs u3):RS X (.If c as bs pos) (ifs3 tA t3 u3):=by
 obtain ⟨vc,pc,rc⟩:=hc
 obtain ⟨va,pa,ra⟩:=ha
 obtain ⟨vb,pb,rb⟩:=hb
 refine ⟨_,yt3 pc pa pb,λ σ H D ρ μ D3 s m h k=>rc σ H _ ρ μ _ s m h λ c μ1 H1 h1 k1 m1=>?_⟩
 cases c with
 | true=>exact ra σ H1 D ρ μ1 D3 (s.mono k1) m1 h1 (k.after k1)
 | false=>exact rb σ H1 D ρ μ1 D3 (s.mono k1) m1 h1 (k.after k1)
theorem vb0 {i:Nat} {x:Str} (hN:X.N.Nodup) (hi:X.N[i]?=some x:=by rfl) (hx:Loc X.env.scope x:=by first | exact Or.inl rfl | exact Or.inr rfl) (hf:X.fn x=true \/ X.env.scope.names.lookup x=some .local:=by first | exact .inl rfl | exact .inr rfl) :
    RG X (.Name x pos) (gn3 i):=⟨_,yn2 hN hi hx hf,λ v d σ H Q ρ μ Q3 s m r h k=>k _ _ _ _ h (Kp.refl H) (s.set i r) m⟩
theorem ur0:RGs X [] gnil3:=⟨_,xn2,λ vs ds σ H Q ρ μ Q3 s m r h k=>by
 cases r with
 | nil=>exact ⟨rfl,k _ _ _ _ h (Kp.refl H) s m⟩
 | cons _ _=>exact False.elim h⟩
theorem yf0 {g:TG3} {gs:TGs3} (h1:RG X e g) (h2:RGs X es gs) (hs:(assignEach (e :: es) X.env).map (·.2)=assign e X.env :: (assignEach es X.env).map (·.2):=by rfl):RGs X (e :: es) (gcons3 g gs):=by
 obtain ⟨va,pa,ra⟩:=h1
 obtain ⟨vb,pb,rb⟩:=h2
 refine ⟨_,yz1 pa pb hs,λ vs ds σ H Q ρ μ Q3 s m r h k=>?_⟩
 cases r with
 | nil=>exact False.elim h
 | cons r1 r2=>exact ⟨_,_,rfl,ra _ _ σ H _ ρ μ _ s m r1 h λ ρ1 μ1 σ1 H1 h1 k1 s1 m1=>rb _ _ σ1 H1 Q ρ1 μ1 Q3 s1 m1 (r2.mono k1) h1 λ ρ' μ' σ' H' q e=>k ρ' μ' σ' H' q (k1.trans e)⟩
theorem vb1 {kk:Nat} {gs:TGs3} {n:Nat} (hc:X.calm=true) (h:RGs X es gs) (hn:(assignEach es X.env).length=n:=by rfl) (hst:(assignEach es X.env).findIdx? (·.1)=none:=by rfl):RG X (.Tuple es kk pos) (gtup3 n gs):=by
 obtain ⟨va,pa,ra⟩:=h
 refine ⟨_,xg3 hc pa hn hst,λ v d σ H Q ρ μ Q3 s m r h k=>?_⟩
 cases r with
 | tup hq rs =>
  obtain ⟨hl,h⟩:=h
  exact ⟨_,_,rfl,(SqT.of hq),by rw [<- rs.length]; exact hl,ra _ _ σ H Q ρ μ Q3 s m rs h k⟩
 | _=>exact False.elim h
theorem sb0 {i:Nat} {x:Str} {pos':Pos} (hN:X.N.Nodup) (he:RE X e te) (hi:X.N[i]?=some x:=by rfl) (hx:Loc X.env.scope x:=by first | exact Or.inl rfl | exact Or.inr rfl) (hs:swapsWith e (some (.Name x pos')) pos.line X.env=pure false:=by rfl)
    (hf:X.fn x=true \/ X.env.scope.names.lookup x=some .local:=by first | exact .inl rfl | exact .inr rfl):RS X (.Assign [.Name x pos'] e pos) (set3 i te):=by
 obtain ⟨va,pa,ra⟩:=he
 exact ⟨_,se3 hN hi hx pa hs hf,λ σ H D ρ μ D3 s m h k=>ra σ H _ ρ μ _ s m h λ d μ1 v H1 h1 k1 r1 m1=>k.nx _ _ _ _ h1 k1 ((s.mono k1).set i r1) m1⟩
theorem xu0 {tg:Expr} {g:TG3} (he:RE X e te) (hg:RG X tg g) (hs:swapsWithSole [tg] e pos.line X.env=pure false:=by rfl) (hw:swappedStores [tg] e X.env=pure none:=by rfl)
    (h1:(assignEach [tg] X.env).map (·.2)=[assign tg X.env]:=by rfl):RS X (.Assign [tg] e pos) (asg3 te g):=by
 obtain ⟨va,pa,ra⟩:=he
 obtain ⟨vg,pg,rg⟩:=hg
 exact ⟨_,zf3 pa pg hs hw h1,λ σ H D ρ μ D3 s m h k=>ra σ H _ ρ μ _ s m h λ d μ1 v H1 h1 k1 r1 m1=>rg v d σ H1 _ ρ μ1 _ (s.mono k1) m1 r1 h1 λ ρ' μ' σ' H' q e=>k.nx ρ' μ' σ' H' q (k1.trans e)⟩
theorem zk3 (n:Nat) (i:Int):L2.ixN n i=ixN n i:=rfl
theorem xf2 {o i:Expr} {to ti:TE3} (ho:RE X o to) (hi:RE X i ti)
    (ha:∀ v,assign (.Subscript o i pos) X.env v=(do
     let ov <- holding [v] (eval o X.env)
     let iv <- holding [v,ov] (eval i X.env)
     standAt pos
     holding [v,ov,iv] (setItem ov iv v)
     release [v,ov,iv] []):=by intro _; rfl):RG X (.Subscript o i pos) (sub3 to ti):=by
 obtain ⟨va,pa,ra⟩:=ho
 obtain ⟨vb,pb,rb⟩:=hi
 refine ⟨_,yg3 pa pb sx1 ha,λ v d σ H Q ρ μ Q3 s m r h k=>ra σ H _ ρ μ _ s m h λ o' μ1 ov H1 h1 k1 r1 m1=>rb σ H1 _ ρ μ1 _ (s.mono k1) m1 h1 λ i' μ2 iv H2 h2 k2 r2 m2=>?_⟩
 cases r1 with
 | ref p =>
  cases r2 with
  | int kk =>
   dsimp only at h2
   cases e:μ2 p with
   | none=>rw [e] at h2; exact h2.elim
   | some oo =>
    cases oo with
    | ins _ _=>rw [e] at h2; exact h2.elim
    | dct _=>rw [e] at h2; exact h2.elim
    | dcl _=>rw [e] at h2; exact h2.elim
    | dck _=>rw [e] at h2; exact h2.elim
    | lst xs =>
     rw [e] at h2
     dsimp only at h2
     cases e2:ixN xs.length kk with
     | none=>rw [e2] at h2; exact h2.elim
     | some j =>
      rw [e2] at h2
      obtain ⟨vs,hv,rv⟩:=m2 p xs e
      have kk':=k1.trans k2
      refine ⟨p,vs,kk,j,rfl,rfl,hv,by rw [<- rv.length]; exact e2,k _ _ _ _ h2 (kk'.trans (Kp.wr hv)) (s.mono (kk'.trans (Kp.wr hv))) (m2.wr hv (rv.set (r.mono kk') j))⟩
  | _=>exact False.elim h2
 | _=>cases r2 <;> exact False.elim h2
end
end Pv
namespace Pv
open PySem PySem.Spec PyProof.Rows L2
noncomputable def ItOk (K:Fg) (J:It) (l:List D) (S:Mu->Prop) (H0:Hp):Prop:=∀ i H μ,Kp H0 H->RelM K μ H->S μ ->
 (∀ d,l[i]?=some d->J.go i H /\ ∀ x H2,J.yld i H x H2->Kp H H2 /\ RelM K μ H2 /\ RelD K H2 d x) /\ (l.length<=i->J.stop i H)
noncomputable def RdI (K:Fg) (wi:TI) (ti:TI3):Prop:=∀ σ H R ρ μ R3,RSt K H ρ σ->RelM K μ H->ti ρ μ R3->(∀ l S μ' J H',R3 l S μ'->Kp H H'->RelM K μ' H'->ItOk K J l S H'->R J H')->wi σ H R
noncomputable def RI (X:Cx) (tg iter:Expr) (ti:TI3):Prop:=∃ wi,PI X tg iter wi /\ RdI X.K wi ti
section
variable {X:Cx} {tg iter a b c e:Expr} {ta tb te:TE3} {pos:Pos}
noncomputable def Its (z:Str):It:=⟨λ i _=>i < z.cps.size,λ i H x H'=>H'=H /\ ∃ c,z.cps[i]?=some c /\ x=.str ⟨#[c]⟩,λ i _=>z.cps.size<=i⟩
theorem sz0 {P:Program} {w:World} {K:Fg} {tg:Expr} (T:String) (x:Str) (t:Tok) (it:Addr)
    (hT:["enumerate", "zip", "dict_itemiterator", "dict_reverseitemiterator", "odict_iterator", "itertools.zip_longest", "itertools.pairwise"].contains T=false)
    (W:∀ A:Around,A.handled=none->Walks P w A it [it] [it] x.cps.size (SignAt x) (λ i h=>h.IsStrIter it T x t i))
    (sf:∀ (A:Around) (i:Nat) (s:Shared) (Q:Value->Shared->Prop) (E:Value->Shared->Prop),s.heap.IsStrIter it T x t i->Q (.ref it) s->wpAny (model P w) A (pyIter (.ref it)) Q E s) :
    Turn P w K tg (Its x) [it] it (λ i h=>h.IsStrIter it T x t i /\ i<=x.cps.size) where
 mem:=by simp
 obj:=λ i h st b hb=>by
  have e:b=it:=by simpa using hb
  subst e
  obtain ⟨⟨o,e,c,d⟩,_⟩:=st
  exact ⟨o,e,λ v z=>by rw [d] at z; cases z⟩
 keep:=λ i h h' st k=>by
  obtain ⟨⟨o,e,c,d⟩,l⟩:=st
  exact ⟨⟨o,k it (by simp) o e,c,d⟩,l⟩
 item:=by
  intro X hP hw hK hc i pins s σ H E I hf st hg
  subst hP hw hK
  obtain ⟨f0,f1,f2,f3,f4,f5⟩:=hf it (by simp)
  refine (W X.A (I.ok.hd hc)).item i s _ E hg st.1 λ v h' tk hP hst' hk=>?_
  obtain ⟨c,u,ec,rfl⟩:=hP
  have I1:Inv X pins σ H { s with heap:=h',toks:=tk }:=I.turned (t':=tk) (λ b o hb e=>hk b o (by simpa using hb) e) f0 f1 f3 f4 f5
  obtain ⟨o,e,c1,d⟩:=id hst'
  exact ⟨_,rfl,tr1 (s:={ s with heap:=h',toks:=tk }) e c1 d hT ⟨.str ⟨#[c]⟩,H,I1,⟨u,rfl⟩,⟨rfl,c,ec,rfl⟩,⟨hst',hg⟩,λ b hb=>(hf b hb).1⟩⟩
 done:=by
  intro X hP hw hK hc i pins s σ H E I hf st hg
  subst hP hw hK
  have hg':x.cps.size<=i:=hg
  obtain ⟨f0,f1,f2,f3,f4,f5⟩:=hf it (by simp)
  have e1:i=x.cps.size:=Nat.le_antisymm st.2 hg'
  subst e1
  exact (W X.A (I.ok.hd hc)).done s _ E st.1 λ h' tk hk=>⟨rfl,I.turned (t':=tk) (λ b o hb e=>hk b o (by simpa using hb) e) f0 f1 f3 f4 f5⟩
 self:=λ A i s Q E st h=>sf A i s Q E st.1 h
noncomputable def iSeq (K:Fg) (tl:TE):TI:=λ σ H R=>tl σ H λ x H1=>(∃ z,x=.str z /\ R (Its z) H1) \/ ∃ a,x=.ref a /\ (((∃ xs,SqL K H1 a xs) /\ R (Itl K a) H1) \/ ((∃ xs,SqT K H1 a xs) /\ R (Itt K a) H1))
theorem sf3 {l:Expr} {tl:TE} (hl:PE X l tl):PI X tg l (iSeq X.K tl):=by
 intro pins s σ H R I h
 refine thn (hl pins s σ H _ I h) λ v s1 ⟨x,H1,I1,r1,q1⟩=>?_
 have fp:∀ b ∈ [s1.heap.objs.size],FpOk X pins H1 b:=λ b hb=>by
  have e:b=s1.heap.objs.size:=by simpa using hb
  subst e
  exact I1.fpOk (Nat.le_refl _) (I1.hok.fresh (Nat.le_refl _))
 rcases q1 with ⟨z,e,q⟩ | ⟨a,e,q⟩
 ·subst e
  obtain ⟨t,rfl⟩:=r1
  cases ha:z.cps.all (· < 128)
  ·refine wpAny_pyIter_wide ha ?_
   exact ⟨s1.heap.objs.size,[s1.heap.objs.size],_,_,H1,rfl,I1.kept (t':=s1.toks) λ b o e=>Heap.get?_push_of_some _ e,sz0 "str_iterator" z t _ (by decide) (λ A hA=>Walks.strWide hA _ z t) (λ _ _ _ _ _ st h=>wpAny_pyIter_striter_wide st h),⟨⟨_,Heap.get?_push_size _ rfl,rfl,rfl⟩,Nat.zero_le _⟩,fp,q⟩
  ·refine wpAny_pyIter_ascii ha ?_
   exact ⟨s1.heap.objs.size,[s1.heap.objs.size],_,_,H1,rfl,I1.kept (t':=s1.toks) λ b o e=>Heap.get?_push_of_some _ e,sz0 "str_ascii_iterator" z t _ (by decide) (λ A hA=>Walks.strAscii hA _ z t) (λ _ _ _ _ _ st h=>wpAny_pyIter_striter_ascii st h),⟨⟨_,Heap.get?_push_size _ rfl,rfl,rfl⟩,Nat.zero_le _⟩,fp,q⟩
 subst e
 cases r1
 rcases q with ⟨⟨xs,hq⟩,q⟩ | ⟨⟨xs,hq⟩,q⟩
 ·obtain ⟨its,rv,p,hz⟩:=I1.list hq
  refine wpAny_pyIter_list p.isList ?_
  exact ⟨s1.heap.objs.size,[s1.heap.objs.size],_,_,H1,rfl,I1.kept (t':=s1.toks) λ b o e=>Heap.get?_push_of_some _ e,vj1 a _,⟨_,Heap.get?_push_size _ rfl,rfl,rfl⟩,fp,q⟩
 ·obtain ⟨its,rv,p,hz⟩:=I1.tuple hq
  refine wpAny_pyIter_tuple (show s1.heap.IsTuple a its.toArray from p) ?_
  exact ⟨s1.heap.objs.size,[s1.heap.objs.size],_,_,H1,rfl,I1.kept (t':=s1.toks) λ b o e=>Heap.get?_push_of_some _ e,se1 a _,⟨_,Heap.get?_push_size _ rfl,rfl,rfl⟩,fp,q⟩
theorem xb2 {K:Fg} {H0:Hp} {a:Addr} {l:List D} {vs:List V} (h:SqT K H0 a vs) (r:RelDs K H0 l vs):ItOk K (Itt K a) l (λ _=>True) H0:=λ i H μ k m _=>by
 refine ⟨λ d e=>?_,λ hl=>⟨vs,SqT.mono k h,by rw [<- r.length]; exact hl⟩⟩
 obtain ⟨v,e1,r1⟩:=r.get e
 refine ⟨⟨vs,v,SqT.mono k h,e1⟩,λ x H2 y=>?_⟩
 obtain ⟨rfl,y⟩:=y
 have e2:=y vs (SqT.mono k h)
 rw [e1] at e2; cases e2
 exact ⟨Kp.refl _,m,r1.mono k⟩
theorem wb2 {K:Fg} {H0:Hp} {a:Addr} {l:List D} {vs:List V} (h:SqF K H0 a vs) (r:RelDs K H0 l vs):ItOk K (Itl K a) l (λ _=>True) H0:=λ i H μ k m _=>by
 refine ⟨λ d e=>?_,λ hl=>⟨vs,(SqF.mono k h).l,by rw [<- r.length]; exact hl⟩⟩
 obtain ⟨v,e1,r1⟩:=r.get e
 refine ⟨⟨vs,v,(SqF.mono k h).l,e1⟩,λ x H2 y=>?_⟩
 obtain ⟨rfl,y⟩:=y
 have e2:=y vs (SqF.mono k h).l
 rw [e1] at e2; cases e2
 exact ⟨Kp.refl _,m,r1.mono k⟩
theorem zb2 {K:Fg} {H0:Hp} {a:Addr} {l:List D}:ItOk K (Itl K a) l (λ μ=>μ a=some (.lst l)) H0:=λ i H μ k m s=>by
 obtain ⟨vs,h,r⟩:=m a l s
 refine ⟨λ d e=>?_,λ hl=>⟨vs,SqL.of h,by rw [<- r.length]; exact hl⟩⟩
 obtain ⟨v,e1,r1⟩:=r.get e
 refine ⟨⟨vs,v,SqL.of h,e1⟩,λ x H2 y=>?_⟩
 obtain ⟨rfl,y⟩:=y
 have e2:=y vs (SqL.of h)
 rw [e1] at e2; cases e2
 exact ⟨Kp.refl _,m,r1⟩
theorem yb2 {K:Fg} {H0:Hp} (z:Str):ItOk K (Its z) (z.cps.toList.map λ c=>D.str ⟨#[c]⟩) (λ _=>True) H0:=λ i H μ k m _=>by
 refine ⟨λ d e=>?_,λ hl=>by show z.cps.size<=i; simpa using hl⟩
 rw [List.getElem?_map,Array.getElem?_toList] at e
 cases ec:z.cps[i]? with
 | none=>rw [ec] at e; cases e
 | some c =>
  rw [ec] at e
  cases e
  refine ⟨?_,λ x H2 y=>?_⟩
  ·show i < z.cps.size
   rcases Nat.lt_or_ge i z.cps.size with h | h
   ·exact h
   ·rw [Array.getElem?_eq_none h] at ec; cases ec
  ·obtain ⟨rfl,c',ec',rfl⟩:=y
   rw [ec] at ec'; cases ec'
   exact ⟨Kp.refl _,m,.str _⟩
theorem we0 (ha:RE X a ta):RI X tg a (is3 ta):=by
 obtain ⟨va,pa,ra⟩:=ha
 refine ⟨_,sf3 pa,λ σ H R ρ μ R3 s m h k=>ra σ H _ ρ μ _ s m h λ d μ1 v H1 h1 k1 r1 m1=>?_⟩
 cases r1 with
 | str z=>exact .inl ⟨z,rfl,k _ _ _ _ _ h1 k1 m1 (yb2 z)⟩
 | tup hq rs=>exact .inr ⟨_,rfl,.inr ⟨⟨_,(SqT.of hq)⟩,k _ _ _ _ _ h1 k1 m1 (xb2 (SqT.of hq) rs)⟩⟩
 | fls hq rs=>exact .inr ⟨_,rfl,.inl ⟨⟨_,hq.l⟩,k _ _ _ _ _ h1 k1 m1 (wb2 hq rs)⟩⟩
 | ref p =>
  dsimp only at h1
  cases e:μ1 p with
  | none=>rw [e] at h1; exact h1.elim
  | some oo =>
   cases oo with
   | ins _ _=>rw [e] at h1; exact h1.elim
   | dct _=>rw [e] at h1; exact h1.elim
   | dcl _=>rw [e] at h1; exact h1.elim
   | dck _=>rw [e] at h1; exact h1.elim
   | lst xs =>
    rw [e] at h1
    obtain ⟨vs,hv,rv⟩:=m1 p xs e
    exact .inr ⟨_,rfl,.inl ⟨⟨_,SqL.of hv⟩,k _ _ _ _ _ h1 k1 m1 zb2⟩⟩
 | _=>exact False.elim h1
theorem wy1 (lo:Int) (n i:Nat):(rngD lo n)[i]?=if i < n then some (.int (lo + i)) else none:=by
 unfold rngD
 rw [List.getElem?_map]
 by_cases h:i < n
 ·rw [List.getElem?_range h,if_pos h]; rfl
 ·rw [List.getElem?_eq_none (by simpa using h),if_neg h]; rfl
theorem zy1 (lo:Int) (n:Nat):(rngD lo n).length=n:=by simp [rngD]
theorem yd1 {K:Fg} {H0:Hp} (lo:Int) (n:Nat):ItOk K (Itr lo n) (rngD lo n) (λ _=>True) H0:=λ i H μ k m _=>by
 refine ⟨λ d e=>?_,λ hl=>by rw [zy1] at hl; exact hl⟩
 rw [wy1] at e
 split at e
 ·next h =>
  cases e
  refine ⟨h,λ x H2 y=>?_⟩
  obtain ⟨rfl,rfl⟩:=y
  exact ⟨Kp.refl _,m,.int _⟩
 ·cases e
theorem ti0 {p:Pos} (hm:X.mg "range" = none) (ha:RE X a ta) (hg:Gl X "range" := by rfl) (hs:starEach [a] X.env=[(false,eval a X.env)]:=by rfl):RI X tg (.Call (.Name "range" p) [a] [] pos) (ir3 (cons3 ta nil3)):=by
 obtain ⟨va,pa,ra⟩:=xa0 ha va0 hs
 refine ⟨_,wo1 hg hm pa hs,λ σ H R ρ μ R3 s m h k=>ra σ H _ ρ μ _ s m h λ ds μ1 vs H1 h1 k1 r1 m1=>?_⟩
 cases r1 with
 | nil=>exact False.elim h1
 | cons r1 r2 =>
  cases r2 with
  | cons _ _=>cases r1 <;> exact False.elim h1
  | nil =>
   cases r1 with
   | int j=>exact ⟨j,rfl,h1.1.1,h1.1.2,k _ _ _ _ _ h1.2 k1 m1 (yd1 _ _)⟩
   | _=>exact False.elim h1
theorem um1 {p:Pos} (hm:X.mg "range" = none) (ha:RE X a ta) (hb:RE X b tb) (hg:Gl X "range" := by rfl) (hs:starEach [a,b] X.env=[(false,eval a X.env),(false,eval b X.env)]:=by rfl) (hs2:starEach [b] X.env=[(false,eval b X.env)]:=by rfl) :
    RI X tg (.Call (.Name "range" p) [a,b] [] pos) (ir23 (cons3 ta (cons3 tb nil3))):=by
 obtain ⟨va,pa,ra⟩:=xa0 ha (xa0 hb va0 hs2) (by rw [hs,hs2])
 refine ⟨_,zo1 hg hm pa hs hs2,λ σ H R ρ μ R3 s m h k=>ra σ H _ ρ μ _ s m h λ ds μ1 vs H1 h1 k1 r1 m1=>?_⟩
 split at h1
 ·next i j =>
  cases r1 with
  | cons r1 r2 =>
   cases r2 with
   | cons r2 r3 =>
    cases r3
    cases r1
    cases r2
    exact ⟨i,j,rfl,h1.1,k _ _ _ _ _ h1.2 k1 m1 (yd1 _ _)⟩
 ·exact h1.elim
theorem se0 {body:List Stmt} {ti:TI3} {g:TG3} {tb:TS3} (hp:PassesOwn (model X.prog X.w) X.A X.env X.xe) (hc:X.calm=true) (hi:RI X tg iter ti) (hg:RG X tg g) (hb:RSs X body tb)
    (hs:∀ x,foldedSetIterable iter X.env x=pure x:=by intro _; rfl):RS X (.For tg iter body [] pos) (for3 ti g tb):=by
 obtain ⟨wi,pi,ri⟩:=hi
 obtain ⟨vg,pg,rg⟩:=hg
 obtain ⟨vb,pb,rb⟩:=hb
 refine ⟨_,yf3 hp hc pi pg pb hs,λ σ H D ρ μ D3 s m h k=>ri σ H _ ρ μ _ s m h λ l S μ1 J H1 h1 k1 m1 ok=>?_⟩
 refine ⟨λ i n σ2 H2=>n=l.length - i /\ i<=l.length /\ ∃ ρ2 μ2,RSt X.K H2 ρ2 σ2 /\ RelM X.K μ2 H2 /\ Kp H1 H2 /\ xs1 S g tb D3 (l.drop i) ρ2 μ2,⟨l.length,rfl,Nat.zero_le _,ρ,μ1,s.mono k1,m1,Kp.refl _,h1⟩,?_⟩
 rintro i n σ2 H2 ⟨rfl,hi,ρ2,μ2,s2,m2,k2,h2⟩
 by_cases hlt:i < l.length
 ·rw [List.drop_eq_getElem_cons hlt] at h2
  obtain ⟨hS,N,hN,h2⟩:=h2
  obtain ⟨ok1,_⟩:=ok i H2 μ2 k2 m2 hS
  obtain ⟨go,yl⟩:=ok1 l[i] (List.getElem?_eq_getElem hlt)
  refine .inr ⟨go,λ σ3 H3=>∃ ρ3 μ3,N ρ3 μ3 /\ RSt X.K H3 ρ3 σ3 /\ RelM X.K μ3 H3 /\ Kp H1 H3,λ σ3 H3 ⟨ρ3,μ3,hn,s3,m3,k3⟩=>⟨l.length - (i + 1),by omega,rfl,hlt,ρ3,μ3,s3,m3,k3,hN _ _ hn⟩,λ x H3 y=>?_⟩
  obtain ⟨k3,m3,r3⟩:=yl x H3 y
  refine rg x l[i] σ2 H3 _ ρ2 μ2 _ (s2.mono k3) m3 r3 h2 λ ρ4 μ4 σ4 H4 h4 k4 s4 m4=>?_
  have k14:Kp H1 H4:=k2.trans (k3.trans k4)
  exact rb σ4 H4 _ ρ4 μ4 _ s4 m4 h4 ⟨λ ρ5 μ5 σ5 H5 h5 k5 s5 m5=>⟨ρ5,μ5,h5,s5,m5,k14.trans k5⟩,λ ρ5 μ5 σ5 H5 h5 k5 s5 m5=>k.nx _ _ _ _ h5 (k1.trans (k14.trans k5)) s5 m5,
   λ ρ5 μ5 σ5 H5 h5 k5 s5 m5=>⟨ρ5,μ5,h5,s5,m5,k14.trans k5⟩,λ d μ5 v H5 h5 k5 r5 m5=>k.rt _ _ _ _ h5 (k1.trans (k14.trans k5)) r5 m5⟩
 ·have e:i=l.length:=by omega
  subst e
  rw [List.drop_length] at h2
  obtain ⟨hS,h2⟩:=h2
  exact .inl ⟨(ok _ H2 μ2 k2 m2 hS).2 (Nat.le_refl _),k.nx _ _ _ _ h2 (k1.trans k2) s2 m2⟩
theorem xy1 {body:List Stmt} {tc:TT3} {tb:TS3} (hp:PassesOwn (model X.prog X.w) X.A X.env X.xe) (hc:RT X c tc) (hb:RSs X body tb):RS X (.While c body [] pos) (sd2 tc tb):=by
 obtain ⟨vc,pc,rc⟩:=hc
 obtain ⟨vb,pb,rb⟩:=hb
 refine ⟨_,ty1 hp pc pb,λ σ H D ρ μ D3 s m h k=>?_⟩
 obtain ⟨W,⟨n0,w0⟩,turn⟩:=h
 refine ⟨λ n σ2 H2=>∃ ρ2 μ2,W n ρ2 μ2 /\ RSt X.K H2 ρ2 σ2 /\ RelM X.K μ2 H2 /\ Kp H H2,⟨n0,ρ,μ,w0,s,m,Kp.refl _⟩,?_⟩
 rintro n σ2 H2 ⟨ρ2,μ2,w2,s2,m2,k2⟩
 refine rc σ2 H2 _ ρ2 μ2 _ s2 m2 (turn n ρ2 μ2 w2) λ b μ3 H3 h3 k3 m3=>?_
 cases b with
 | true =>
  obtain ⟨N,hN,h3⟩:=h3
  have k23:=k2.trans k3
  refine ⟨λ σ4 H4=>∃ ρ4 μ4,N ρ4 μ4 /\ RSt X.K H4 ρ4 σ4 /\ RelM X.K μ4 H4 /\ Kp H H4,λ σ4 H4 ⟨ρ4,μ4,hn,s4,m4,k4⟩=>?_,?_⟩
  ·obtain ⟨n',hl,w4⟩:=hN _ _ hn
   exact ⟨n',hl,ρ4,μ4,w4,s4,m4,k4⟩
  ·exact rb σ2 H3 _ ρ2 μ3 _ (s2.mono k3) m3 h3 ⟨λ ρ5 μ5 σ5 H5 h5 k5 s5 m5=>⟨ρ5,μ5,h5,s5,m5,k23.trans k5⟩,λ ρ5 μ5 σ5 H5 h5 k5 s5 m5=>k.nx _ _ _ _ h5 (k23.trans k5) s5 m5,
     λ ρ5 μ5 σ5 H5 h5 k5 s5 m5=>⟨ρ5,μ5,h5,s5,m5,k23.trans k5⟩,λ d μ5 v H5 h5 k5 r5 m5=>k.rt _ _ _ _ h5 (k23.trans k5) r5 m5⟩
 | false=>exact k.nx _ _ _ _ h3 (k2.trans k3) (s2.mono k3) m3
noncomputable def lift (K:Fg) (sp:Sp3):Sp:=λ vs H Q _=>∃ ds μ Q3,RelDs K H ds vs /\ RelM K μ H /\ sp ds μ Q3 /\ Ks K H Q3 Q
noncomputable def Cal (P:Program) (w:World) (K:Fg) (mg:Str->Option Value) (base:Heap) (k:Nat) (x:Str) (ps:List Str) (sp:Sp3):Prop :=
 ∃ f fd,FnOk P w K mg base CX0 k f fd ps (lift K sp) /\ mg x=some (.ref f) /\ PySem.W.keepIn K (.ref f)=true /\ Binds K fd ps []
theorem Cal.mono {P:Program} {w:World} {K:Fg} {mg:Str->Option Value} {base:Heap} {j k:Nat} {x:Str} {ps:List Str} {sp:Sp3} (c:Cal P w K mg base j x ps sp) (h:j<=k):Cal P w K mg base k x ps sp:=by
 obtain ⟨f,fd,F,r⟩:=c
 exact ⟨f,fd,F.mono h,r⟩
variable {es:List Expr} {t:TA3} {x:Str} {p:Pos}
theorem yb0 {k:Nat} {ps:List Str} {sp:Sp3} (c:Cal X.prog X.w X.K X.mg X.base k x ps sp) (hr:Room k X.A) (ha:RA X (e :: es) t) (hg:Gl X x:=by rfl) (hdb:(x == ("__debug__" : Str))=false:=by decide)
    (he:starEach (e :: es) X.env=(false,eval e X.env) :: starEach es X.env:=by rfl) (hpl:(backTo pos (starEach es X.env)).any (·.1)=false:=by rfl):RE X (.Call (.Name x p) (e :: es) [] pos) (call3 sp t):=by
 obtain ⟨f,fd,F,hm,hk,hb⟩:=c
 obtain ⟨va,pa,ra⟩:=ha
 refine ⟨_,tn2 F hr hg hm hk hb .nil zu3 pa hdb he hpl,λ σ H Q ρ μ Q3 s m h k=>ra σ H _ ρ μ _ s m h λ ds μ1 vs H1 h1 k1 r1 m1=>?_⟩
 rw [List.append_nil]
 exact ⟨ds,μ1,Q3,r1,m1,h1,k.after k1⟩
theorem zb0 {r:C3} {id:String} (hc:RC X (.builtin id) r) (hm:X.mg x=none) (hv:bootBuiltins x=some (.builtin id)) (ha:RA X (e :: es) t) (hg:Gl X x:=by rfl) (hn:x ≠ "__name__" := by decide) (hdb:(x == ("__debug__" : Str))=false:=by decide)
    (he:starEach (e :: es) X.env=(false,eval e X.env) :: starEach es X.env:=by rfl) (hpl:(backTo pos (starEach es X.env)).any (·.1)=false:=by rfl):RE X (.Call (.Name x p) (e :: es) [] pos) (call3 r t):=by
 obtain ⟨r',pc,rc⟩:=hc
 obtain ⟨va,pa,ra⟩:=ha
 exact ⟨_,wz1 pc hg hm hv pa hn hdb he hpl,λ σ H Q ρ μ Q3 s m h k=>ra σ H _ ρ μ _ s m h λ ds μ1 vs H1 h1 k1 r1 m1=>rc ds vs H1 Q μ1 Q3 m1 r1 h1 (k.after k1)⟩
theorem wh0 {r:C3} {T:String} (hc:RC X (.type T) r) (hm:X.mg x=none) (hv:bootBuiltins x=some (.type T)) (ha:RA X (e :: es) t) (hg:Gl X x:=by rfl) (hn:x ≠ "__name__" := by decide) (hdb:(x == ("__debug__" : Str))=false:=by decide)
    (he:starEach (e :: es) X.env=(false,eval e X.env) :: starEach es X.env:=by rfl) (hpl:(backTo pos (starEach es X.env)).any (·.1)=false:=by rfl):RE X (.Call (.Name x p) (e :: es) [] pos) (call3 r t):=by
 obtain ⟨r',pc,rc⟩:=hc
 obtain ⟨va,pa,ra⟩:=ha
 exact ⟨_,uo1 pc hg hm hv pa hn hdb he hpl,λ σ H Q ρ μ Q3 s m h k=>ra σ H _ ρ μ _ s m h λ ds μ1 vs H1 h1 k1 r1 m1=>rc ds vs H1 Q μ1 Q3 m1 r1 h1 (k.after k1)⟩
theorem uf0 {r3:R3} (hx:RX X r3) (ha:RE X a ta) (hb:RE X b tb) (hs:xw1 b:=by intro _ _; rfl):RE X (.Subscript a b pos) (o3 r3 ta tb):=by
 obtain ⟨r,po,ro⟩:=hx
 obtain ⟨va,pa,ra⟩:=ha
 obtain ⟨vb,pb,rb⟩:=hb
 exact ⟨_,ut3 po pa pb hs,ra.op rb ro⟩
end
section
variable {P:Program} {w:World} {K:Fg} {mg:Str->Option Value} {base:Heap}
theorem ys1 {x:Str} {st:Stmt} {f:Addr} {fd:FuncData} {N ps:List Str} {k:Nat} {sp:Sp3} {t:TS3} (F:Fun K x x st f fd) (S:FnScope N ps (wa0 st))
    (len:∀ ds μ Q,sp ds μ Q->ds.length=ps.length)
    (body:∀ (cdv:Value) (A:Around) (outer:List Env) (s:Shared) (H:Hp) (E:XK),Room k (A.deeper (envOfC x (wa0 st) s.heap.objs.size f cdv))->RSs (cxOf CX0 P w K mg base N x (wa0 st) f cdv A outer s H E).nox (tb0 st) t)
    (rd:∀ ds μ Q,sp ds μ Q->t { nx:=λ _ μ'=>Q .non μ',rt:=Q } (start3 N ds) μ):FnOk P w K mg base CX0 (k + 1) f fd ps (lift K sp):=by
 refine F.ok S (λ vs H Q E h=>?_) (λ cdv A outer s H vs Q E hr h=>?_)
 ·obtain ⟨ds,μ,Q3,r,m,q,ks⟩:=h
  rw [<- r.length]; exact len _ _ _ q
 ·obtain ⟨ds,μ,Q3,r,m,q,ks⟩:=h
  obtain ⟨tv,p,rt⟩:=body cdv A outer s H E hr
  exact ⟨tv,p,rt _ H _ _ μ _ (RSt.start N r) m (rd ds μ Q3 q) ⟨λ ρ μ' σ H' h' k' s' m'=>ks _ _ _ _ h' k' .non m',λ ρ μ' σ H' h'=>False.elim h',λ ρ μ' σ H' h'=>False.elim h',ks⟩⟩
theorem sd0 {x:Str} {st:Stmt} {f:Addr} {fd:FuncData} {N ps:List Str} {k:Nat} {sp:Sp3} {t:TS3} (F:Fun K x x st f fd) (hm:mg x=some (.ref f)) (hb:Binds K fd ps []) (S:FnScope N ps (wa0 st))
    (len:∀ ds μ Q,sp ds μ Q->ds.length=ps.length)
    (body:∀ (cdv:Value) (A:Around) (outer:List Env) (s:Shared) (H:Hp) (E:XK),Room k (A.deeper (envOfC x (wa0 st) s.heap.objs.size f cdv))->RSs (cxOf CX0 P w K mg base N x (wa0 st) f cdv A outer s H E).nox (tb0 st) t)
    (rd:∀ ds μ Q,sp ds μ Q->t { nx:=λ _ μ'=>Q .non μ',rt:=Q } (start3 N ds) μ):Cal P w K mg base (k + 1) x ps sp :=
 ⟨f,fd,ys1 F S len body rd,hm,F.kp,hb⟩
end
end Pv
namespace Pv
open PySem PySem.Spec PyProof.Rows L2
section
variable {X:Cx}
theorem RdO.i0 {K:Fg} {g3:Int->Int->D} {g:Int->Int->V} (hg:∀ i j H,RelD K H (g3 i j) (g i j)):RdO K (rI0 g) (int20 g3):=λ x y v u H Q μ Q3 m rx ry h k=>by
 cases rx with
 | int i =>
  cases ry with
  | int j=>exact ⟨i,j,rfl,rfl,k _ _ _ _ h (Kp.refl _) (hg i j H) m⟩
  | _=>exact False.elim h
 | _=>cases ry <;> exact False.elim h
theorem RdO.i2 {K:Fg} {C:Int->Int->Prop} {g3:Int->Int->D} {g:Int->Int->V} (hg:∀ i j H,RelD K H (g3 i j) (g i j)):RdO K (rI C g) (int2 C g3):=λ x y v u H Q μ Q3 m rx ry h k=>by
 cases rx with
 | int i =>
  cases ry with
  | int j=>exact ⟨i,j,rfl,rfl,h.1,k _ _ _ _ h.2 (Kp.refl _) (hg i j H) m⟩
  | _=>exact False.elim h
 | _=>cases ry <;> exact False.elim h
theorem zn1:RO X (binaryOp .Sub) subR:=⟨_,xh3,RdO.i0 λ _ _ _=>.int _⟩
theorem zu0:RO X (binaryOp .Mod) modR:=⟨_,vh3,RdO.i2 λ _ _ _=>.int _⟩
theorem vk2:RO X (binaryOp .Pow) powR:=⟨_,zh3,RdO.i2 λ _ _ _=>.int _⟩
theorem log2_lt {n k:Nat} (hk:0 < k) (h:n < 2 ^ k):n.log2 < k:=by
 rcases Nat.eq_zero_or_pos n with h0 | hp
 ·rw [h0]; simpa using hk
 ·exact (Nat.log2_lt (Nat.ne_of_gt hp)).mpr h
theorem vz1:OpR X (binaryOp .FloorDiv) (rI (λ _ j=>0 < j /\ j < 2 ^ 120) λ i j=>.int (i / j)):=opI λ i j _ _ _ _ _ hc q=>by
 have h1:(0:Int) < j:=hc.1
 have h2:j < 2 ^ 120:=hc.2
 refine floordiv_int (by omega) (by rw [Int.fdiv_eq_ediv_of_nonneg i (by omega)]; exact q) (.inl (PyProof.noPylong_of_log2 ?_))
 have h3:j.natAbs < 2 ^ 120:=by omega
 exact Nat.lt_trans (log2_lt (by decide) h3) (by decide)
theorem zc1:RO X (binaryOp .FloorDiv) fdivR:=⟨_,vz1,RdO.i2 λ _ _ _=>.int _⟩
theorem CMul.mulok {i j:Int} (h:CMul i j):IntMulOk i j:=by
 rcases h with h | ⟨h1,h2⟩
 ·exact L2.CMul.ok h
 ·unfold IntMulOk
  intro e
  rw [Bool.and_eq_true] at e
  have e2:=e.2
  unfold Builtin.Int.intTooBig at e2
  have hb:∀ x:Int,x.natAbs < Big->Builtin.Int.intBits x<=1000:=λ x hx=>by
   unfold Builtin.Int.intBits
   split
   ·exact Nat.zero_le _
   ·exact log2_lt (by decide) hx
  have b1:=hb i h1
  have b2:=hb j h2
  have e3:=of_decide_eq_true e2
  have e4:(2000:Nat) < bitsLine:=by decide
  omega
theorem op_mulB:OpR X (binaryOp .Mult) (rI CMul λ i j=>.int (i * j)):=opI λ _ _ _ _ _ _ _ hc q=>mul_int q hc.mulok
theorem zd3:RU X (unaryOp .USub) negR:=⟨_,vt2,λ x v H Q μ Q3 m r h k=>by
 cases r with
 | int i=>exact ⟨i,rfl,k _ _ _ _ h (Kp.refl _) (.int _) m⟩
 | _=>exact False.elim h⟩
theorem q_lt:RO X (compareOp .Lt) ltR:=⟨_,wu3,RdO.i0 λ _ _ _=>.bl _⟩
theorem q_gt:RO X (compareOp .Gt) gtR:=⟨_,vu3,RdO.i0 λ _ _ _=>.bl _⟩
noncomputable def us3 (K:Fg):R2:=λ x y H Q=>∃ a b xs ys,x=.ref a /\ y=.ref b /\ SqT K H a xs /\ SqT K H b ys /\ xs.length + ys.length<=sizeLine ∧
 (xs=[]->Q (.ref b) H) /\ (ys=[]->Q (.ref a) H) /\ (∀ p,H p=none->Q (.ref p) (upd H p (.tup (xs ++ ys))))
theorem vo2:OpR X (binaryOp .Add) (us3 X.K):=by
 intro pins s σ H x y v u Q I rx ry h
 obtain ⟨a,b,xs,ys,rfl,rfl,ha,hb,hz,q1,q2,q3⟩:=h
 by_cases hx:xs=[]
 ·cases rx
  cases ry
  obtain ⟨its,r,ht,_⟩:=I.tuple ha
  obtain ⟨its2,r2,ht2,_⟩:=I.tuple hb
  have hi:its=[]:=by subst hx; cases r; rfl
  obtain ⟨⟨cls,dd,data,sl⟩,ho,hc,n,hd⟩:=id ht
  obtain ⟨⟨cls2,dd2,data2,sl2⟩,ho2,hc2,n2,hd2⟩:=id ht2
  simp only at hc hd hc2 hd2
  subst hc hd hc2 hd2
  exact concat_meets ⟨_,ho,rfl⟩ ⟨_,ho2,rfl⟩ noFill_tuple_add seq_tuple_add PySem.F.slot_tuple_add PySem.F.entry_tuple_add (PySem.F.args_tuple_add_2 _ _)
   (tuple_addW0 a b its.toArray its2.toArray n n2 dd dd2 sl sl2 (by simp [hi])) ⟨ho,ho2,⟨.ref b,H,I,rfl,q1 hx⟩⟩
 ·exact wo2 pins s σ H _ _ v u Q I rx ry ⟨a,b,xs,ys,rfl,rfl,ha,hb,hx,hz,q2,λ _=>q3⟩
theorem xh0:RO X (binaryOp .Add) addR:=by
 refine ⟨_,(op_add.or zh1).or (op_cat.or vo2),λ x y v u H Q μ Q3 m rx ry h k=>?_⟩
 cases rx with
 | int i =>
  cases ry with
  | int j=>exact .inl (.inl ⟨i,j,rfl,rfl,k _ _ _ _ h (Kp.refl _) (.int _) m⟩)
  | _=>exact False.elim h
 | str i =>
  cases ry with
  | str j=>exact .inl (.inr ⟨i,j,rfl,rfl,h.1,k _ _ _ _ h.2 (Kp.refl _) (.str _) m⟩)
  | _=>exact False.elim h
 | ref p =>
  cases ry with
  | ref q =>
   dsimp only [addR] at h
   cases e:μ p with
   | none=>rw [e] at h; exact h.elim
   | some oo =>
    cases oo with
    | ins _ _=>rw [e] at h; exact h.elim
    | dct _=>rw [e] at h; exact h.elim
    | dcl _=>rw [e] at h; exact h.elim
    | dck _=>rw [e] at h; exact h.elim
    | lst xs =>
     cases e2:μ q with
     | none=>rw [e,e2] at h; exact h.elim
     | some o2 =>
      cases o2 with
      | ins _ _=>rw [e,e2] at h; exact h.elim
      | dct _=>rw [e,e2] at h; exact h.elim
      | dcl _=>rw [e,e2] at h; exact h.elim
      | dck _=>rw [e,e2] at h; exact h.elim
      | lst ys =>
       rw [e,e2] at h
       obtain ⟨vs,hv,rv⟩:=m p xs e
       obtain ⟨us,hu,ru⟩:=m q ys e2
       refine .inr (.inl ⟨p,q,vs,us,rfl,rfl,hv,hu,by rw [<- rv.length,<- ru.length]; exact h.1,λ t ht=>?_⟩)
       exact k _ _ _ _ (h.2 t (m.free ht)) (Kp.new ht) (.ref t) (m.newL ht (rv.append ru))
  | _=>exact False.elim h
 | tup hq rs =>
  cases ry with
  | tup hq2 rs2 =>
   rename_i a l vs b l2 us
   refine .inr (.inr ⟨a,b,vs,us,rfl,rfl,(SqT.of hq),(SqT.of hq2),by rw [<- rs.length,<- rs2.length]; exact h.1,λ e=>?_,λ e=>?_,λ t ht=>?_⟩)
   ·subst e; cases rs
    exact k _ _ _ _ h.2 (Kp.refl _) (.tup hq2 rs2) m
   ·subst e; cases rs2
    have h2:=h.2
    rw [List.append_nil] at h2
    exact k _ _ _ _ h2 (Kp.refl _) (.tup hq rs) m
   ·exact k _ _ _ _ h.2 (Kp.new ht) (.tup zd0 ((rs.append rs2).mono (Kp.new ht))) (m.newT ht)
  | _=>exact False.elim h
 | _=>cases ry <;> exact False.elim h
theorem RelDs.atI {K:Fg} {H:Hp} {l:List D} {vs:List V} {i:Int} {d:D} (r:RelDs K H l vs) (e:Pv.atI l i=some d):∃ v,L2.atI vs i=some v /\ RelD K H d v:=by
 unfold Pv.atI at e
 unfold L2.atI
 rw [zk3,<- r.length]
 cases q:ixN l.length i with
 | none=>rw [q] at e; cases e
 | some j =>
  rw [q] at e
  exact r.get e
theorem q_ix:RX X ixR:=by
 refine ⟨_,ix_list.or yk3,λ x y v u H Q μ Q3 m rx ry h k=>?_⟩
 cases ry with
 | int i =>
  cases rx with
  | tup hq rs =>
   rename_i a l vs
   dsimp only [ixR] at h
   cases e:Pv.atI l i with
   | none=>rw [e] at h; exact h.elim
   | some d =>
    rw [e] at h
    obtain ⟨w,e1,r1⟩:=rs.atI e
    exact .inr ⟨a,vs,i,w,rfl,rfl,(SqT.of hq),e1,k _ _ _ _ h (Kp.refl _) r1 m⟩
  | ktp hq rs =>
   rename_i a l vs
   dsimp only [ixR] at h
   cases e:Pv.atI l i with
   | none=>rw [e] at h; exact h.elim
   | some d =>
    rw [e] at h
    obtain ⟨w,e1,r1⟩:=rs.atI e
    exact .inr ⟨a,vs,i,w,rfl,rfl,hq,e1,k _ _ _ _ h (Kp.refl _) r1 m⟩
  | fls hq rs =>
   rename_i a l vs
   dsimp only [ixR] at h
   cases e:Pv.atI l i with
   | none=>rw [e] at h; exact h.elim
   | some d =>
    rw [e] at h
    obtain ⟨w,e1,r1⟩:=rs.atI e
    exact .inl ⟨a,vs,i,w,rfl,rfl,hq.l,e1,k _ _ _ _ h (Kp.refl _) r1 m⟩
  | ref p =>
   dsimp only [ixR] at h
   cases e0:μ p with
   | none=>rw [e0] at h; exact h.elim
   | some oo =>
    cases oo with
    | ins _ _=>rw [e0] at h; exact h.elim
    | dct _=>rw [e0] at h; exact h.elim
    | dcl _=>rw [e0] at h; exact h.elim
    | dck _=>rw [e0] at h; exact h.elim
    | lst l =>
     rw [e0] at h
     dsimp only at h
     obtain ⟨vs,hv,rs⟩:=m p l e0
     cases e:Pv.atI l i with
     | none=>rw [e] at h; exact h.elim
     | some d =>
      rw [e] at h
      obtain ⟨w,e1,r1⟩:=rs.atI e
      exact .inl ⟨p,vs,i,w,rfl,rfl,SqL.of hv,e1,k _ _ _ _ h (Kp.refl _) r1 m⟩
  | _=>exact False.elim h
 | _=>cases rx <;> exact False.elim h
theorem xr0 {K:Fg} {H:Hp}:∀ {l:List D} {vs:List V} {zs:List Str},RelDs K H l vs->strs? l=some zs->vs=zs.map V.str
 | _,_,zs,.nil,e=>by simp [strs?] at e; subst e; rfl
 | _,_,zs,.cons h r,e=>by
  cases h with
  | str x =>
   simp only [strs?] at e
   split at e
   ·next ys e1 =>
    simp only [Option.some.injEq] at e
    subst e
    rw [xr0 r e1]; rfl
   ·cases e
  | _=>simp [strs?] at e
theorem vd1 (z:Str) (zs:List Str):inV (.str z) (zs.map V.str)=zs.contains z:=by
 unfold inV
 rw [List.any_map]
 induction zs with
 | nil=>rfl
 | cons y r ih =>
  rw [List.any_cons,ih,List.contains_cons]
  congr 1
  show (y == z)=(z == y)
  rw [Bool.eq_iff_iff,beq_iff_eq,beq_iff_eq]
  exact eq_comm
theorem sv0 (zs:List Str):(zs.map V.str).all zs0=true:=by
 rw [List.all_map,List.all_eq_true]; intro _ _; rfl
theorem zn0:RC X (.builtin "len") lenR:=by
 refine ⟨_,call_len_seq.or zw0,λ xs vs H Q μ Q3 m r h k=>?_⟩
 cases r with
 | nil=>exact False.elim h
 | cons r1 r2 =>
  cases r2 with
  | cons _ _=>cases r1 <;> exact False.elim h
  | nil =>
   cases r1 with
   | tup hq rs =>
    rename_i a l vs
    refine .inl ⟨a,vs,rfl,.inr (SqT.of hq),?_⟩
    rw [<- rs.length]
    exact k _ _ _ _ h (Kp.refl _) (.int _) m
   | fls hq rs =>
    rename_i a l vs
    refine .inl ⟨a,vs,rfl,.inl hq.l,?_⟩
    rw [<- rs.length]
    exact k _ _ _ _ h (Kp.refl _) (.int _) m
   | str z=>exact .inr ⟨z,rfl,h.1,k _ _ _ _ h.2 (Kp.refl _) (.int _) m⟩
   | ref p =>
    dsimp only [lenR] at h
    cases e:μ p with
    | none=>rw [e] at h; exact h.elim
    | some oo =>
     cases oo with
     | ins _ _=>rw [e] at h; exact h.elim
     | dct _=>rw [e] at h; exact h.elim
     | dcl _=>rw [e] at h; exact h.elim
     | dck _=>rw [e] at h; exact h.elim
     | lst l =>
      rw [e] at h
      obtain ⟨vs,hv,rs⟩:=m p l e
      refine .inl ⟨p,vs,rfl,.inl (SqL.of hv),?_⟩
      rw [<- rs.length]
      exact k _ _ _ _ h (Kp.refl _) (.int _) m
   | _=>exact False.elim h
theorem xn0:RC X (.type "tuple") tupR:=by
 refine ⟨_,ss0,λ xs vs H Q μ Q3 m r h k=>?_⟩
 cases r with
 | nil=>exact False.elim h
 | cons r1 r2 =>
  cases r2 with
  | cons _ _=>cases r1 <;> exact False.elim h
  | nil =>
   cases r1 with
   | tup hq rs=>exact ⟨_,_,rfl,.inr ⟨(SqT.of hq),k _ _ _ _ h (Kp.refl _) (.tup hq rs) m⟩⟩
   | ref p =>
    dsimp only [tupR] at h
    cases e:μ p with
    | none=>rw [e] at h; exact h.elim
    | some oo =>
     cases oo with
     | ins _ _=>rw [e] at h; exact h.elim
     | dct _=>rw [e] at h; exact h.elim
     | dcl _=>rw [e] at h; exact h.elim
     | dck _=>rw [e] at h; exact h.elim
     | lst l =>
      rw [e] at h
      obtain ⟨vs,hv,rs⟩:=m p l e
      exact ⟨p,vs,rfl,.inl ⟨SqL.of hv,λ t ht=>k _ _ _ _ h (Kp.new ht) (.tup zd0 (rs.mono (Kp.new ht))) (m.newT ht)⟩⟩
   | _=>exact False.elim h
theorem xs0 {K:Fg} {H:Hp}:∀ {l:List D} {vs:List V} {zs:List Int},RelDs K H l vs->ints? l=some zs->vs=zs.map V.int
 | _,_,zs,.nil,e=>by simp [ints?] at e; subst e; rfl
 | _,_,zs,.cons h r,e=>by
  cases h with
  | int x =>
   simp only [ints?] at e
   split at e
   ·next ys e1 =>
    simp only [Option.some.injEq] at e
    subst e
    rw [xs0 r e1]; rfl
   ·cases e
  | _=>simp [ints?] at e
theorem sc2:X.calm=true->CallR X (.builtin "sum") (λ xs H Q=>∃ (p:Addr) (ns:List Int),xs=[.ref p] /\ SqL X.K H p (ns.map V.int) /\ Q (.int ns.sum) H):=by
 intro hc pins s σ H xs us Q I r h
 obtain ⟨p,ns,rfl,hq,q⟩:=h
 obtain ⟨u,rfl,rx⟩:=te1 r
 cases rx
 obtain ⟨its,r',pl,hz⟩:=I.list hq
 have hi:=zq0 r'
 obtain ⟨ys,e⟩:=hi.allInts.items
 have hl:=pl.isList
 rw [e] at hl
 refine sum_intListG (I.ok.hd hc) hl λ h' tk t' hk=>?_
 refine ⟨.int ns.sum,H,I.kept (t':=tk) hk,⟨t',?_⟩,q⟩
 rw [preSum_eq,List.take_of_length_le (by simp),<- nums_intItems,<- e]
 show Value.int (numsOf its).sum t'=_
 rw [hi.numsOf]
theorem yd3 (hc:X.calm=true:=by rfl):RC X (.builtin "sum") sumR:=by
 refine ⟨_,sc2 hc,λ xs vs H Q μ Q3 m r h k=>?_⟩
 cases r with
 | nil=>exact False.elim h
 | cons r1 r2 =>
  cases r2 with
  | cons _ _=>cases r1 <;> exact False.elim h
  | nil =>
   cases r1 with
   | ref p =>
    dsimp only [sumR] at h
    cases e:μ p with
    | none=>rw [e] at h; exact h.elim
    | some oo =>
     cases oo with
     | ins _ _=>rw [e] at h; exact h.elim
     | dct _=>rw [e] at h; exact h.elim
     | dcl _=>rw [e] at h; exact h.elim
     | dck _=>rw [e] at h; exact h.elim
     | lst l =>
      rw [e] at h
      dsimp only at h
      obtain ⟨vs,hv,rs⟩:=m p l e
      cases e1:ints? l with
      | none=>rw [e1] at h; exact h.elim
      | some ns =>
       rw [e1] at h
       have ev:=xs0 rs e1
       subst ev
       exact ⟨p,ns,rfl,SqL.of hv,k _ _ _ _ h (Kp.refl _) (.int _) m⟩
   | _=>exact False.elim h
end
end Pv
namespace Pv
open PySem PySem.Spec PyProof.Rows L2
section
variable {X:Cx} {pins:List (Addr × Obj)} {σ:L2.St} {H:Hp} {s:Shared}
mutual
theorem zf0 (I:Inv X pins σ H s):∀ {d:D} {v:V} {p:PyData} {u:Value},RelD X.K H d v->dat d=some p->RelV v u->∃ as,Reads s.heap u p as
 | _,_,p,u,.non,e,r=>by simp only [dat,Option.some.injEq] at e; subst e; cases r; exact ⟨_,Reads.none⟩
 | _,_,p,u,.bl b,e,r=>by simp only [dat,Option.some.injEq] at e; subst e; cases r; exact ⟨_,Reads.bool b⟩
 | _,_,p,u,.int i,e,r=>by simp only [dat,Option.some.injEq] at e; subst e; obtain ⟨t,rfl⟩:=r; exact ⟨_,Reads.int i t⟩
 | _,_,p,u,.str x,e,r=>by
  simp only [dat] at e
  split at e
  ·simp only [Option.some.injEq] at e; subst e; obtain ⟨t,rfl⟩:=r; exact ⟨_,Reads.str x t⟩
  ·cases e
 | _,_,p,u,.ref a,e,r=>by simp [dat] at e
 | _,_,p,u,.ty n,e,r=>by simp [dat] at e
 | _,_,p,u,.fls _ _,e,r=>by simp [dat] at e
 | _,_,p,u,.exc _ _ _,e,r=>by simp [dat] at e
 | _,_,p,u,.tup hq rs,e,r=>by
  simp only [dat] at e
  split at e
  ·next ps e1 =>
   simp only [Option.some.injEq] at e; subst e
   cases r
   obtain ⟨its,rv,⟨o,ho,hc,n,hd⟩,hz⟩:=I.tuple (SqT.of hq)
   obtain ⟨as,q⟩:=sg0 I rs e1 rv
   exact ⟨_,Reads.tuple ho hc hd (by simpa using q)⟩
  ·cases e
 | _,_,p,u,.ktp hq rs,e,r=>by
  simp only [dat] at e
  split at e
  ·next ps e1 =>
   simp only [Option.some.injEq] at e; subst e
   cases r
   obtain ⟨its,rv,⟨o,ho,hc,n,hd⟩,hz⟩:=I.tuple hq
   obtain ⟨as,q⟩:=sg0 I rs e1 rv
   exact ⟨_,Reads.tuple ho hc hd (by simpa using q)⟩
  ·cases e
theorem sg0 (I:Inv X pins σ H s):∀ {l:List D} {vs:List V} {ps:List PyData} {us:List Value},RelDs X.K H l vs->dats l=some ps->Vals vs us->∃ as,ReadsAll s.heap us ps as
 | _,_,ps,us,.nil,e,r=>by simp only [dats,Option.some.injEq] at e; subst e; cases r; exact ⟨_,ReadsAll.nil⟩
 | _,_,ps,us,.cons h rs,e,r=>by
  simp only [dats] at e
  split at e
  ·next p e1 =>
   split at e
   ·next qs e2 =>
    simp only [Option.some.injEq] at e; subst e
    cases r with
    | cons r1 r2 =>
     obtain ⟨as,q1⟩:=zf0 I h e1 r1
     obtain ⟨bs,q2⟩:=sg0 I rs e2 r2
     exact ⟨_,ReadsAll.cons q1 q2⟩
   ·cases e
  ·cases e
end
theorem xf0 (I:Inv X pins σ H s) {μ:Mu} (m:RelM X.K μ H) {d:D} {v:V} {p:PyData} {u:Value} (h:RelD X.K H d v) (e:datM μ d=some p) (r:RelV v u):∃ as,Reads s.heap u p as:=by
 cases h with
 | ref a =>
  simp only [datM] at e
  split at e
  ·next l e0 =>
   split at e
   ·next ps e1 =>
    simp only [Option.some.injEq] at e; subst e
    cases r
    obtain ⟨vs,hv,rs⟩:=m a l e0
    obtain ⟨its,rv,pl,hz⟩:=I.list (SqL.of hv)
    obtain ⟨o,ho,hc,n,hd⟩:=pl.isList
    obtain ⟨as,q⟩:=sg0 I rs e1 rv
    exact ⟨_,Reads.list ho hc hd (by simpa using q)⟩
   ·cases e
  ·cases e
 | non=>exact zf0 I .non e r
 | bl b=>exact zf0 I (.bl b) e r
 | int i=>exact zf0 I (.int i) e r
 | str x=>exact zf0 I (.str x) e r
 | ty n=>exact zf0 I (.ty n) e r
 | tup hq rs=>exact zf0 I (.tup hq rs) e r
 | ktp hq rs=>exact zf0 I (.ktp hq rs) e r
 | fls hq rs=>exact zf0 I (.fls hq rs) e r
 | exc a1 a2 a3=>simp [datM,dat] at e
mutual
theorem ud0:∀ (d:D) (p:PyData),dat d=some p->p.canLay0=true
 | .non,p,e=>by simp only [dat,Option.some.injEq] at e; subst e; rfl
 | .bl b,p,e=>by simp only [dat,Option.some.injEq] at e; subst e; rfl
 | .int b,p,e=>by simp only [dat,Option.some.injEq] at e; subst e; rfl
 | .str x,p,e=>by
  simp only [dat] at e
  split at e
  ·next h=>simp only [Option.some.injEq] at e; subst e; exact h
  ·cases e
 | .tup l,p,e=>by
  simp only [dat] at e
  split at e
  ·next ps e1=>simp only [Option.some.injEq] at e; subst e; simp only [PyData.canLay0]; exact yh0 l ps e1
  ·cases e
 | .ktp l,p,e=>by
  simp only [dat] at e
  split at e
  ·next ps e1=>simp only [Option.some.injEq] at e; subst e; simp only [PyData.canLay0]; exact yh0 l ps e1
  ·cases e
 | .fls _,p,e=>by simp [dat] at e
 | .ref _,p,e=>by simp [dat] at e
 | .ty _,p,e=>by simp [dat] at e
theorem yh0:∀ (l:List D) (ps:List PyData),dats l=some ps->PyData.canLayAll0 ps=true
 | [],ps,e=>by simp only [dats,Option.some.injEq] at e; subst e; rfl
 | d :: r,ps,e=>by
  simp only [dats] at e
  split at e
  ·next p e1 =>
   split at e
   ·next qs e2 =>
    simp only [Option.some.injEq] at e; subst e
    simp only [PyData.canLayAll0,Bool.and_eq_true]
    exact ⟨ud0 d p e1,yh0 r qs e2⟩
   ·cases e
  ·cases e
end
theorem zz0 {μ:Mu} {d:D} {p:PyData} (e:datM μ d=some p):p.canLay0=true:=by
 cases d with
 | ref a =>
  simp only [datM] at e
  split at e
  ·next l e0 =>
   split at e
   ·next ps e1=>simp only [Option.some.injEq] at e; subst e; simp only [PyData.canLay0]; exact yh0 l ps e1
   ·cases e
  ·cases e
 | non=>exact ud0 _ p e
 | bl b=>exact ud0 _ p e
 | int i=>exact ud0 _ p e
 | str x=>exact ud0 _ p e
 | ty n=>exact ud0 _ p e
 | tup l=>exact ud0 _ p e
 | ktp l=>exact ud0 _ p e
 | fls l=>exact ud0 _ p e
 | exc c=>simp [datM,dat] at e
theorem xc0 {μ:Mu} {d:D} {p:PyData} (e:datM μ d=some p) (h:p.depth<=64):PySem.SeqAt.shaped p=true:=by
 unfold PySem.SeqAt.shaped
 rw [zz0 e,decide_eq_true h]; rfl
noncomputable def rEqD (K:Fg) (neg:Bool):R2:=λ x y H Q=>∃ d e μ p q,RelM K μ H /\ RelD K H d x /\ RelD K H e y /\ datM μ d=some p /\ datM μ e=some q /\ p.depth<=64 /\ q.depth<=64 /\ Q (.bl (if neg then !PyData.eqv p q else PyData.eqv p q)) H
theorem sh3 (hu:X.A.units + 64 < cLine):OpR X (compareOp .Eq) (rEqD X.K false):=by
 intro pins s σ H x y v u Q I rx ry h
 obtain ⟨d,e,μ,p,q,m,rd,re,e1,e2,h1,h2,k⟩:=h
 obtain ⟨as,q1⟩:=xf0 I m rd e1 rx
 obtain ⟨bs,q2⟩:=xf0 I m re e2 ry
 exact eq_dataH q1 q2 (xc0 e1 h1) (xc0 e2 h2) hu ⟨.bl _,H,I,rfl,k⟩
theorem wh3 (hu:X.A.units + 64 < cLine):OpR X (compareOp .NotEq) (rEqD X.K true):=by
 intro pins s σ H x y v u Q I rx ry h
 obtain ⟨d,e,μ,p,q,m,rd,re,e1,e2,h1,h2,k⟩:=h
 obtain ⟨as,q1⟩:=xf0 I m rd e1 rx
 obtain ⟨bs,q2⟩:=xf0 I m re e2 ry
 exact ne_dataH q1 q2 (xc0 e1 h1) (xc0 e2 h2) hu ⟨.bl _,H,I,rfl,k⟩
theorem ul3 {K:Fg} {H:Hp} {x y:D} {v u:V} {c:Bool} (rx:RelD K H x v) (ry:RelD K H y u) (e:eqS x y=some c):scal v u=true /\ decide (v=u)=c:=by
 unfold eqS at e
 split at e <;> first | (cases e; done) | (cases rx; cases ry; cases e; exact ⟨rfl,rfl⟩) | (cases rx; cases ry; cases e; refine ⟨rfl,?_⟩; simp)
theorem hu64 {A:Around} {k:Nat} (hr:Room k A):A.units + 64 < cLine:=by have:=hr.un; omega
noncomputable def rInD (K:Fg) (neg:Bool):R2:=λ x y H Q=>∃ d e μ p xs,∃ b:Bool,RelM K μ H /\ RelD K H d x /\ RelD K H e y /\ datM μ d=some p /\ datM μ e=some (if b then .list xs else .tuple xs) /\ p.depth<=64 /\ (if b then PyData.list xs else PyData.tuple xs).depth<=64 ∧
 Q (.bl (if neg then !(xs.any λ e=>PyData.eqv e p) else xs.any λ e=>PyData.eqv e p)) H
theorem uh3 (hu:X.A.units + 65 < cLine):OpR X (compareOp .In) (rInD X.K false):=by
 intro pins s σ H x y v u Q I rx ry h
 obtain ⟨d,e,μ,p,xs,b,m,rd,re,e1,e2,h1,h2,k⟩:=h
 obtain ⟨as,q1⟩:=xf0 I m rd e1 rx
 obtain ⟨bs,q2⟩:=xf0 I m re e2 ry
 cases b
 ·exact PySem.SeqAt.in_tuple_reads q2 q1 (PySem.SeqAt.canLay_of_shaped (xc0 e2 h2)) (PySem.SeqAt.canLay_of_shaped (xc0 e1 h1)) (room_in_shaped (xc0 e1 h1) hu) ⟨.bl _,H,I,rfl,k⟩
 ·exact PySem.SeqAt.in_list_reads q2 q1 (PySem.SeqAt.canLay_of_shaped (xc0 e2 h2)) (PySem.SeqAt.canLay_of_shaped (xc0 e1 h1)) (room_in_shaped (xc0 e1 h1) hu) ⟨.bl _,H,I,rfl,k⟩
theorem xp1 (hu:X.A.units + 65 < cLine):OpR X (compareOp .NotIn) (rInD X.K true):=by
 intro pins s σ H x y v u Q I rx ry h
 obtain ⟨d,e,μ,p,xs,b,m,rd,re,e1,e2,h1,h2,k⟩:=h
 obtain ⟨as,q1⟩:=xf0 I m rd e1 rx
 obtain ⟨bs,q2⟩:=xf0 I m re e2 ry
 cases b
 ·exact PySem.SeqAt.notIn_tuple_reads q2 q1 (PySem.SeqAt.canLay_of_shaped (xc0 e2 h2)) (PySem.SeqAt.canLay_of_shaped (xc0 e1 h1)) (room_in_shaped (xc0 e1 h1) hu) ⟨.bl _,H,I,rfl,k⟩
 ·exact PySem.SeqAt.notIn_list_reads q2 q1 (PySem.SeqAt.canLay_of_shaped (xc0 e2 h2)) (PySem.SeqAt.canLay_of_shaped (xc0 e1 h1)) (room_in_shaped (xc0 e1 h1) hu) ⟨.bl _,H,I,rfl,k⟩
theorem hu65 {A:Around} {k:Nat} (hr:Room k A):A.units + 65 < cLine:=by have:=hr.un; omega
theorem vp2 {K:Fg} {neg:Bool} {x y:D} {v u:V} {H:Hp} {Q:VK} {μ:Mu} {Q3:VK3} (m:RelM K μ H) (rx:RelD K H x v) (ry:RelD K H y u) (h:inD neg x y μ Q3) (k:Ks K H Q3 Q):rInD K neg v u H Q:=by
 unfold inD at h
 split at h
 ·next d xs e1 e2=>exact ⟨x,y,μ,d,xs,true,m,rx,ry,e1,e2,h.1.1,h.1.2,k _ _ _ _ h.2 (Kp.refl _) (.bl _) m⟩
 ·next d xs e1 e2=>exact ⟨x,y,μ,d,xs,false,m,rx,ry,e1,e2,h.1.1,h.1.2,k _ _ _ _ h.2 (Kp.refl _) (.bl _) m⟩
 ·exact h.elim
theorem RdO.inn {K:Fg} {neg:Bool}:RdO K (λ x y H Q=>(rIn K neg x y H Q \/ ∃ i j,x=.str i /\ y=.str j /\ Q (.bl (if neg then !(!(Builtin.Str.occurrences j i 0 j.length 1).isEmpty) else !(Builtin.Str.occurrences j i 0 j.length 1).isEmpty)) H) \/ rInD K neg x y H Q) (inR neg):=λ x y v u H Q μ Q3 m rx ry h k=>by
 unfold inR at h
 split at h
 ·next z l =>
  cases e:strs? l with
  | none=>rw [e] at h; exact .inr (vp2 m rx ry h k)
  | some zs =>
   rw [e] at h
   cases rx
   cases ry with
   | tup hq rs =>
    rename_i a vs
    have ev:=xr0 rs e
    refine .inl <| .inl ⟨a,vs,rfl,.inr (SqT.of hq),rfl,by rw [ev]; exact sv0 zs,?_⟩
    rw [ev,vd1]
    exact k _ _ _ _ h (Kp.refl _) (.bl _) m
 ·next z l =>
  cases e:strs? l with
  | none=>rw [e] at h; exact .inr (vp2 m rx ry h k)
  | some zs =>
   rw [e] at h
   cases rx
   cases ry with
   | ktp hq rs =>
    rename_i a vs
    have ev:=xr0 rs e
    refine .inl <| .inl ⟨a,vs,rfl,.inr hq,rfl,by rw [ev]; exact sv0 zs,?_⟩
    rw [ev,vd1]
    exact k _ _ _ _ h (Kp.refl _) (.bl _) m
 ·next z y =>
  cases rx
  cases ry
  exact .inl <| .inr ⟨z,y,rfl,rfl,k _ _ _ _ h (Kp.refl _) (.bl _) m⟩
 ·exact .inr (vp2 m rx ry h k)
theorem q_in (hu:X.A.units + 65 < cLine):RO X (compareOp .In) (inR false):=⟨_,(op_in_seq.or yp1).or (uh3 hu),RdO.inn⟩
theorem uk2 (hu:X.A.units + 65 < cLine):RO X (compareOp .NotIn) (inR true):=⟨_,(op_notIn_seq.or vu0).or (xp1 hu),RdO.inn⟩
theorem q_eq (hu:X.A.units + 64 < cLine):RO X (compareOp .Eq) eqR:=by
 refine ⟨_,op_eq.or (sh3 hu),λ x y v u H Q μ Q3 m rx ry h k=>?_⟩
 unfold eqR at h
 cases e:eqS x y with
 | some c =>
  rw [e] at h
  obtain ⟨h1,h2⟩:=ul3 rx ry e
  refine .inl ⟨h1,?_⟩
  rw [h2]
  exact k _ _ _ _ h (Kp.refl _) (.bl _) m
 | none =>
  rw [e] at h
  dsimp only at h
  cases e1:datM μ x with
  | none=>rw [e1] at h; exact h.elim
  | some p =>
   cases e2:datM μ y with
   | none=>rw [e1,e2] at h; exact h.elim
   | some q =>
    rw [e1,e2] at h
    exact .inr ⟨x,y,μ,p,q,m,rx,ry,e1,e2,h.1.1,h.1.2,k _ _ _ _ h.2 (Kp.refl _) (.bl _) m⟩
theorem q_ne (hu:X.A.units + 64 < cLine):RO X (compareOp .NotEq) neR:=by
 refine ⟨_,op_ne.or (wh3 hu),λ x y v u H Q μ Q3 m rx ry h k=>?_⟩
 unfold neR at h
 cases e:eqS x y with
 | some c =>
  rw [e] at h
  obtain ⟨h1,h2⟩:=ul3 rx ry e
  refine .inl ⟨h1,?_⟩
  rw [h2]
  exact k _ _ _ _ h (Kp.refl _) (.bl _) m
 | none =>
  rw [e] at h
  dsimp only at h
  cases e1:datM μ x with
  | none=>rw [e1] at h; exact h.elim
  | some p =>
   cases e2:datM μ y with
   | none=>rw [e1,e2] at h; exact h.elim
   | some q =>
    rw [e1,e2] at h
    exact .inr ⟨x,y,μ,p,q,m,rx,ry,e1,e2,h.1.1,h.1.2,k _ _ _ _ h.2 (Kp.refl _) (.bl _) m⟩
theorem wp2 (K:Fg):∀ t ∈ ["int", "str", "tuple", "bool", "NoneType", "list"],∀ T ∈ ["int", "str", "tuple", "bool", "list"],PySem.W.kitOne K (.type t) (.type T)=some (t == T || (t == "bool" && T == "int")):=by
 intro t ht T hT
 simp only [List.mem_cons,List.not_mem_nil,or_false] at ht hT
 rcases ht with rfl | rfl | rfl | rfl | rfl | rfl <;> rcases hT with rfl | rfl | rfl | rfl | rfl <;> with_unfolding_all rfl
theorem vk3 {K:Fg} {t T:String} {b:Bool} (e:isIn t T=some b) (ht:t ∈ ["int", "str", "tuple", "bool", "NoneType", "list"]) (hT:T ∈ ["int", "str", "tuple", "bool", "list"]):PySem.W.kitOne K (.type t) (.type T)=some b:=by
 rw [wp2 K t ht T hT]
 simp only [List.mem_cons,List.not_mem_nil,or_false] at ht hT
 rcases ht with rfl | rfl | rfl | rfl | rfl | rfl <;> rcases hT with rfl | rfl | rfl | rfl | rfl <;> simp [isIn] at e <;> subst e <;> rfl
theorem uk3 {t T:String} {b:Bool} (e:isIn t T=some b) (ht:t ∈ ["int", "str", "tuple", "bool", "NoneType", "list"]):T ∈ ["int", "str", "tuple", "bool", "list"] \/ (t=T /\ b=true):=by
 unfold isIn at e
 simp only [List.mem_cons,List.not_mem_nil,or_false] at ht ⊢
 split at e
 ·next h=>simp only [Option.some.injEq] at e; exact .inr ⟨h,e.symm⟩
 ·split at e
  ·next h=>rw [h.2]; simp
  ·split at e
   ·next h=>rcases h.2 with rfl | rfl | rfl | rfl | rfl <;> simp
   ·cases e
theorem ua2 (K:Fg) (t:String):PySem.W.kitOne K (.type t) (.type t)=some true:=by
 unfold PySem.W.kitOne
 rw [if_pos (by simp)]
noncomputable def rIsi (K:Fg):List V->Hp->VK->Prop:=λ xs H Q=>∃ d v μ t T b,xs=[v,.ty T] /\ RelM K μ H /\ RelD K H d v /\ tyN μ d=some t /\ isIn t T=some b /\ Q (.bl b) H
theorem xd2:CallR X (.builtin "isinstance") (rIsi X.K):=by
 intro pins s σ H xs us Q I r h
 obtain ⟨d,v,μ,t,T,b,rfl,m,rd,e1,e2,q⟩:=h
 obtain ⟨u,w',rfl,rx,ry⟩:=uw1 r
 cases ry
 have fin:∀ tk,EP X pins σ Q (.bool b) { s with toks:=tk }:=λ tk=>⟨.bl b,H,I.tok tk,rfl,q⟩
 have hk:∀ t',t' ∈ ["int", "str", "tuple", "bool", "NoneType", "list"]->isIn t' T=some b->PySem.W.kitOne X.K (.type t') (.type T)=some b:=λ t' h1 h2=>by
  rcases uk3 h2 h1 with z | ⟨rfl,rfl⟩
  ·exact vk3 h2 h1 z
  ·exact ua2 _ _
 cases rd with
 | non=>simp only [tyN,Option.some.injEq] at e1; subst e1; cases rx; exact PySem.W.kia_one PySem.W.kitx_none I.kIn True.intro (hk _ (by simp) e2) (λ z=>nomatch z) fin
 | bl y=>simp only [tyN,Option.some.injEq] at e1; subst e1; cases rx; exact PySem.W.kia_one PySem.W.kitx_bool I.kIn True.intro (hk _ (by simp) e2) (λ z=>nomatch z) fin
 | int i=>simp only [tyN,Option.some.injEq] at e1; subst e1; obtain ⟨tk,rfl⟩:=rx; exact PySem.W.kia_one PySem.W.kitx_int I.kIn True.intro (hk _ (by simp) e2) (λ z=>nomatch z) fin
 | str y=>simp only [tyN,Option.some.injEq] at e1; subst e1; obtain ⟨tk,rfl⟩:=rx; exact PySem.W.kia_one PySem.W.kitx_str I.kIn True.intro (hk _ (by simp) e2) (λ z=>nomatch z) fin
 | tup hq rs =>
  simp only [tyN,Option.some.injEq] at e1; subst e1; cases rx
  obtain ⟨its,rv,⟨o,ho,hc,_⟩,hz⟩:=I.tuple (SqT.of hq)
  exact PySem.W.kia_one PySem.W.kitx_tuple I.kIn ⟨o,ho,hc⟩ (hk _ (by simp) e2) (λ z=>nomatch z) fin
 | ref p =>
  simp only [tyN] at e1
  split at e1
  ·next l e0 =>
   simp only [Option.some.injEq] at e1; subst e1; cases rx
   obtain ⟨vs,hv,rs⟩:=m p l e0
   obtain ⟨its,rv,pl,hz⟩:=I.list (SqL.of hv)
   obtain ⟨o,ho,hc,_⟩:=pl.isList
   exact PySem.W.kia_one PySem.W.kitx_list I.kIn ⟨o,ho,hc⟩ (hk _ (by simp) e2) (λ z=>nomatch z) fin
  ·cases e1
 | ty n=>simp [tyN] at e1
 | fls _ _=>simp [tyN] at e1
 | ktp _ _=>simp [tyN] at e1
 | exc _ _ _=>simp [tyN] at e1
theorem ux0:RC X (.builtin "isinstance") isiR:=by
 refine ⟨_,xd2,λ xs vs H Q μ Q3 m r h k=>?_⟩
 cases r with
 | nil=>exact False.elim h
 | cons r1 r2 =>
  cases r2 with
  | nil=>exact False.elim h
  | cons r2 r3 =>
   cases r3 with
   | cons _ _=>cases r2 <;> exact False.elim h
   | nil =>
    cases r2 with
    | ty T =>
     rename_i d v
     dsimp only [isiR] at h
     cases e:tyN μ d with
     | none=>rw [e] at h; exact h.elim
     | some t =>
      rw [e] at h
      dsimp only at h
      cases e2:isIn t T with
      | none=>rw [e2] at h; exact h.elim
      | some b =>
       rw [e2] at h
       exact ⟨d,v,μ,t,T,b,rfl,m,r1,e,e2,k _ _ _ _ h (Kp.refl _) (.bl _) m⟩
    | _=>exact False.elim h
variable {o e:Expr} {es:List Expr} {to:TE3} {t:TA3} {apos cpos:Pos}
theorem ta3 {name:Str} {id:String} {r:V->List V->Hp->VK->Prop} {r3:D->List D->Mu->VK3->Prop} (slot:Slot "list" name id) (hty:typeOf (.builtin id)=pure (.type "method_descriptor")) (hm:MtR X id r)
    (hrd:∀ p xs v vs H Q μ Q3,RelM X.K μ H->RelD X.K H (.ref p) v->RelDs X.K H xs vs->r3 (.ref p) xs μ Q3->Ks X.K H Q3 Q->r v vs H Q) (ho:RE X o to) (ha:RA X (e :: es) t)
    (hbase:attributeBase o name X.env (eval o X.env)=eval o X.env)
    (hfew:((backTo cpos (starEach (e :: es) X.env)).all (λ x=>!x.1) && (backToKw cpos (keywordEach [] X.env)).all (λ x=>x.1.isSome)
     && decide ((e :: es).length + ([]:List Keyword).length + (if ([]:List Keyword).isEmpty then 0 else 1) < 30))=true)
    (hline:(apos.endLine == cpos.line)=true) (hs:starEach (e :: es) X.env=(false,eval e X.env) :: starEach es X.env) (hplain:(backTo cpos (starEach es X.env)).any (·.1)=false) :
    RE X (.Call (.Attribute o name apos) (e :: es) [] cpos) (mt3 r3 to t):=by
 obtain ⟨va,pa,ra⟩:=ho
 obtain ⟨vb,pb,rb⟩:=ha
 refine ⟨_,sn2 PySem.F.plainAttrs_list slot hty hm pa pb hbase hfew hline hs hplain,λ σ H Q ρ μ Q3 s m h k=>ra σ H _ ρ μ _ s m h λ d μ1 v H1 h1 k1 r1 m1=>?_⟩
 cases r1 with
 | ref p =>
  dsimp only at h1
  cases e0:μ1 p with
  | none=>rw [e0] at h1; exact h1.elim
  | some oo =>
   cases oo with
   | ins _ _=>rw [e0] at h1; exact h1.elim
   | dct _=>rw [e0] at h1; exact h1.elim
   | dcl _=>rw [e0] at h1; exact h1.elim
   | dck _=>rw [e0] at h1; exact h1.elim
   | lst l =>
    rw [e0] at h1
    obtain ⟨vs,hv,rs⟩:=m1 p l e0
    refine ⟨.inl ⟨rfl,vs,SqL.of hv⟩,rb σ H1 _ ρ μ1 _ (s.mono k1) m1 h1 λ xs μ2 ys H2 h2 k2 r2 m2=>?_⟩
    exact hrd p xs _ ys H2 Q μ2 Q3 m2 (.ref p) r2 h2 (k.after (k1.trans k2))
 | _=>exact False.elim h1
theorem vh0 (ho:RE X o to) (ha:RA X (e :: es) t) (hbase:attributeBase o "append" X.env (eval o X.env)=eval o X.env:=by rfl)
    (hfew:((backTo cpos (starEach (e :: es) X.env)).all (λ x=>!x.1) && (backToKw cpos (keywordEach [] X.env)).all (λ x=>x.1.isSome)
     && decide ((e :: es).length + ([]:List Keyword).length + (if ([]:List Keyword).isEmpty then 0 else 1) < 30))=true:=by rfl)
    (hline:(apos.endLine == cpos.line)=true:=by rfl) (hs:starEach (e :: es) X.env=(false,eval e X.env) :: starEach es X.env:=by rfl) (hplain:(backTo cpos (starEach es X.env)).any (·.1)=false:=by rfl) :
    RE X (.Call (.Attribute o "append" apos) (e :: es) [] cpos) (mt3 appR to t):=by
 refine ta3 PySem.F.slot_list_append PySem.F.type_list_append vn0 (λ p xs v vs H Q μ Q3 m rp rx h k=>?_) ho ha hbase hfew hline hs hplain
 cases rp
 cases rx with
 | nil=>exact False.elim h
 | cons r1 r2 =>
  cases r2 with
  | cons _ _=>exact False.elim h
  | nil =>
   dsimp only [appR] at h
   cases e0:μ p with
   | none=>rw [e0] at h; exact h.elim
   | some oo =>
    cases oo with
    | ins _ _=>rw [e0] at h; exact h.elim
    | dct _=>rw [e0] at h; exact h.elim
    | dcl _=>rw [e0] at h; exact h.elim
    | dck _=>rw [e0] at h; exact h.elim
    | lst l =>
     rw [e0] at h
     obtain ⟨vs,hv,rs⟩:=m p l e0
     exact ⟨p,vs,_,rfl,rfl,hv,by rw [<- rs.length]; exact h.1,k _ _ _ _ h.2 (Kp.wr hv) .non (m.wr hv (rs.append (.cons r1 .nil)))⟩
theorem sm1 (ho:RE X o to) (ha:RA X (e :: es) t) (hbase:attributeBase o "extend" X.env (eval o X.env)=eval o X.env:=by rfl)
    (hfew:((backTo cpos (starEach (e :: es) X.env)).all (λ x=>!x.1) && (backToKw cpos (keywordEach [] X.env)).all (λ x=>x.1.isSome)
     && decide ((e :: es).length + ([]:List Keyword).length + (if ([]:List Keyword).isEmpty then 0 else 1) < 30))=true:=by rfl)
    (hline:(apos.endLine == cpos.line)=true:=by rfl) (hs:starEach (e :: es) X.env=(false,eval e X.env) :: starEach es X.env:=by rfl) (hplain:(backTo cpos (starEach es X.env)).any (·.1)=false:=by rfl) :
    RE X (.Call (.Attribute o "extend" apos) (e :: es) [] cpos) (mt3 extR to t):=by
 refine ta3 PySem.F.slot_list_extend PySem.F.type_list_extend up1 (λ p xs v vs H Q μ Q3 m rp rx h k=>?_) ho ha hbase hfew hline hs hplain
 cases rp
 cases rx with
 | nil=>exact False.elim h
 | cons r1 r2 =>
  cases r2 with
  | cons _ _=>cases r1 <;> exact False.elim h
  | nil =>
   cases r1 with
   | ref q =>
    dsimp only [extR] at h
    cases e0:μ p with
    | none=>rw [e0] at h; exact h.elim
    | some oo =>
     cases oo with
     | ins _ _=>rw [e0] at h; exact h.elim
     | dct _=>rw [e0] at h; exact h.elim
     | dcl _=>rw [e0] at h; exact h.elim
     | dck _=>rw [e0] at h; exact h.elim
     | lst l =>
      cases e2:μ q with
      | none=>rw [e0,e2] at h; exact h.elim
      | some o2 =>
       cases o2 with
       | ins _ _=>rw [e0,e2] at h; exact h.elim
       | dct _=>rw [e0,e2] at h; exact h.elim
       | dcl _=>rw [e0,e2] at h; exact h.elim
       | dck _=>rw [e0,e2] at h; exact h.elim
       | lst l2 =>
        rw [e0,e2] at h
        obtain ⟨vs,hv,rs⟩:=m p l e0
        obtain ⟨us,hu,ru⟩:=m q l2 e2
        exact ⟨p,q,vs,us,rfl,rfl,hv,hu,by rw [<- rs.length,<- ru.length]; exact h.1,k _ _ _ _ h.2 (Kp.wr hv) .non (m.wr hv (rs.append ru))⟩
   | _=>exact False.elim h
end
end Pv
namespace Pv
open PySem PySem.Spec PyProof.Rows L2
noncomputable abbrev tc0 (X:Cx) (NN:List Str) (scope:Scope) (cl:List (Str × Addr)) (C:Addr) (fp:List Addr) (s₀:Shared) (H₀:Hp) (pn:List (Addr × Obj)):Cx :=
 { X with N:=NN,s₀:=s₀,H₀:=H₀,env:=compEnvC scope cl C X.env,outer:=X.stack,ex:=fp,fn:=λ _=>false,pn:=pn,xe:=λ _ _=>False }
structure CompSc (X:Cx) (NN:List Str) (scope:Scope) (cl:List (Str × Addr)) (js:List (Option Nat)):Prop where
 clos:closureFor scope X.env=pure cl
 cell:∀ y ∈ scope.names,y.2 ≠ .cell
 kind:scope.kind=.function
 names:∀ y ∈ scope.names,y.2=.local->scope.names.lookup y.1=some .local
 sub:∀ x c,cl.lookup x=some c->X.env.cells.lookup x=some c
 has:∀ x,((relabel scope X.env).names.lookup x=some .cell \/ (relabel scope X.env).names.lookup x=some .free)->∃ c,cl.lookup x=some c
 len:js.length=NN.length
 out:∀ (i j:Nat),js[i]?=some (some j)->∃ x,NN[i]?=some x /\ X.N[j]?=some x /\ Vis X.env.scope x /\ X.env.scope.names.lookup x ≠ some .local /\ ((relabel scope X.env).names.lookup x=some .cell \/ (relabel scope X.env).names.lookup x=some .free)
theorem wg0 {α:Type} {x:Str} {k:α}:∀ {l:List (Str × α)},l.lookup x=some k->(x,k) ∈ l
 | [],h=>by simp at h
 | (n,k') :: r,h=>by
  rw [List.lookup_cons] at h
  split at h
  ·next e=>simp only [Option.some.injEq] at h; subst h; rw [eq_of_beq e]; exact List.mem_cons_self
  ·exact List.mem_cons_of_mem _ (wg0 h)
theorem CompSc.closed {X:Cx} {NN:List Str} {scope:Scope} (hf:∀ y ∈ scope.names,y.2 ≠ .free) (hc:∀ y ∈ scope.names,y.2 ≠ .cell) (hk:scope.kind=.function) (hn:∀ y ∈ scope.names,y.2=.local->scope.names.lookup y.1=some .local) :
    CompSc X NN scope [] (NN.map λ _=>none) where
 clos:=closureFor_none hf
 cell:=hc
 kind:=hk
 names:=hn
 sub:=λ x c h=>by simp at h
 has:=λ x h=>by
  exfalso
  have e:(relabel scope X.env).names=scope.names:=map_eq_self (l:=scope.names) (λ y hy=>by
   obtain ⟨n,k⟩:=y
   have:(k == NameKind.free)=false:=by simpa using hf _ hy
   simp [this])
  rw [e] at h
  rcases h with h | h
  ·exact hc _ (wg0 h) rfl
  ·exact hf _ (wg0 h) rfl
 len:=by simp
 out:=λ i j h=>by
  rw [List.getElem?_map] at h
  cases q:NN[i]? with
  | none=>rw [q] at h; cases h
  | some y=>rw [q] at h; simp at h
noncomputable def uk0 (js:List (Option Nat)) (σ:L2.St):L2.St:=js.map λ j=>j.bind λ j=>(σ[j]?).bind id
noncomputable def PTs (X:Cx) (ifs:List Expr) (t:TT):Prop:=∀ (pins:List (Addr × Obj)) (s:Shared) (σ:L2.St) (H:Hp) (Q:Bool->Hp->Prop),Inv X pins σ H s->t σ H Q ->
 wpAny (model X.prog X.w) X.A (forIn ifs true λ c r=>if r=true then do let ok <- isTrue c X.env (eval c X.env); pure (ForInStep.yield ok) else pure (ForInStep.yield r)) (TP X pins σ Q) X.xe s
theorem wl2 {X:Cx}:PTs X [] (λ _ H Q=>Q true H):=λ _ _ _ H _ I h=>wpAny_tests_nil ⟨H,I,h⟩
theorem zl2 {X:Cx} {c:Expr} {t:TT} (h:PT X c t):PTs X [c] t:=λ pins s σ H Q I q=>wpAny_tests_one (h pins s σ H Q I q)
noncomputable def vk1 (js:List (Option Nat)) (wi:TI) (g:TG) (tc:TT) (te:TE):TE:=λ σ H Q=>wi σ H λ J H1=>∀ p,H1 p=none ->
 ∃ W:Nat->Nat->L2.St->Hp->Prop,(∃ m,W 0 m (uk0 js σ) (upd H1 p (.lst []))) /\ ∀ i m σ' H',W i m σ' H' ->
  ((J.stop i H' /\ Q (.ref p) H') \/ (J.go i H' /\ ∀ x H2,J.yld i H' x H2->g x σ' H2 λ σ3 H3=>tc σ3 H3 λ b H4 =>
   if b=true then te σ3 H4 λ y H5=>∃ ys,H5 p=some (.lst ys) /\ ys.length < sizeLine /\ ∃ m',m' < m /\ W (i + 1) m' σ3 (upd H5 p (.lst (ys ++ [y]))) else ∃ m',m' < m /\ W (i + 1) m' σ3 H4))
section
variable {X:Cx} {NN:List Str} {scope:Scope} {cl:List (Str × Addr)} {js:List (Option Nat)}
theorem xr2 {pins:List (Addr × Obj)} {σ:L2.St} {H:Hp} {s:Shared} {fp:List Addr} {pn:List (Addr × Obj)} (hc:X.calm=true) (S:CompSc X NN scope cl js) (I:Inv X pins σ H s) (f:∀ b ∈ fp,FpOk X pins H b /\ b < s.heap.objs.size) :
    (tc0 X NN scope cl s.heap.objs.size fp s H pn).Ok where
 mod:=I.ok.mod
 kind:=S.kind
 glob:=I.ok.glob
 blt:=I.ok.blt
 above:=Nat.le_refl _
 inj:=λ x y c h1 h2=>I.ok.inj x y c (S.sub x c h1) (S.sub y c h2)
 has:=λ x h=>S.has x h
 cab:=λ x c h=>by cases h
 hd:=λ _=>I.ok.hd hc
 frames:=I.ok.frames
 stk:=.inl rfl
 exf:=λ b hb=>⟨Nat.ne_of_lt (f b hb).2,λ x c e=>(f b hb).1.2.2.2.2.1 x c (S.sub x c e)⟩
 bs:=I.bs
 bsz:=Nat.le_trans I.ok.bsz I.sz
 noex:=λ b o e hb=>by
  rcases (f b hb).1.2.2.2.1 with z | z
  ·exact I.ok.noex b o e z
  ·exact absurd (Nat.lt_of_lt_of_le (Heap.lt_size e) (Nat.le_trans I.ok.bsz z)) (Nat.lt_irrefl _)
 exfs:=λ b hb hfs=>by
  rcases List.mem_cons.mp (I.stkSub b hfs) with z | z
  ·exact (f b hb).1.2.1 z
  ·exact (f b hb).1.2.2.1 z
 funs:=I.stack
 frf:=I.stkFree
theorem zr1 {js:List (Option Nat)} {σ:L2.St} {i:Nat} {v:V} (h:(uk0 js σ)[i]?=some (some v)):∃ j,js[i]?=some (some j) /\ σ[j]?=some (some v):=by
 unfold uk0 at h
 rw [List.getElem?_map] at h
 cases q:js[i]? with
 | none=>rw [q] at h; cases h
 | some o =>
  rw [q] at h
  cases o with
  | none=>simp at h
  | some j =>
   refine ⟨j,rfl,?_⟩
   simp only [Option.map_some,Option.bind_some,Option.some.injEq] at h
   cases e:σ[j]? with
   | none=>rw [e] at h; simp at h
   | some w=>rw [e] at h; simp only [Option.bind_some,id] at h; rw [h]
theorem yw0 {pins:List (Addr × Obj)} {σ:L2.St} {H:Hp} {s:Shared} {fp:List Addr} {h₁:Heap} {m:Str->Option Value} {tk:Nat} (hc:X.calm=true) (S:CompSc X NN scope cl js) (I:Inv X pins σ H s) (f:∀ b ∈ fp,FpOk X pins H b /\ b < s.heap.objs.size)
    (hn:h₁.Ns s.heap.objs.size m) (k:∀ b u,s.heap.get? b=some u->h₁.get? b=some u):Inv (tc0 X NN scope cl s.heap.objs.size fp s H (X.pn ++ pins)) [] (uk0 js σ) H { s with heap:=h₁,toks:=tk } where
 ok:=xr2 hc S I f
 os:=rfl
 bare:=I.bare
 base:=Un.kept k
 loc:=by
  refine ⟨m,hn,λ i x v h1 h2 h3=>?_⟩
  obtain ⟨j,e1,e2⟩:=zr1 h2
  obtain ⟨y,q1,q2,q3,q4,q5⟩:=S.out i j e1
  have q1':NN[i]?=some x:=h1
  rw [q1] at q1'; cases q1'
  obtain ⟨mX,_,hl⟩:=I.loc
  obtain ⟨u,r,l⟩:=hl j x v q2 e2 q3
  refine ⟨u,r,.inr ⟨q5,?_⟩⟩
  rcases l with ⟨z,_⟩ | ⟨_,c,hc',hcell⟩
  ·exact absurd z q4
  ·obtain ⟨c',hc2⟩:=S.has x q5
   have e:=S.sub x c' hc2
   rw [hc'] at e; cases e
   obtain ⟨o,ho,hd⟩:=hcell
   exact ⟨c,hc2,o,k _ _ ho,hd⟩
 cell:=λ x c e=>by
  obtain ⟨v,o,ho,hd⟩:=I.cell x c (S.sub x c e)
  exact ⟨v,o,k _ _ ho,hd⟩
 free:=I.hok.fresh (Nat.le_refl _)
 freeC:=λ x c e=>I.freeC x c (S.sub x c e)
 pin:=λ p hp=>by
  have hp':p ∈ X.pn ++ pins:=by simpa using hp
  obtain ⟨h1,h2,h3,h4,h5⟩:=I.pin p hp'
  refine ⟨k _ _ h1,h2,Nat.ne_of_lt (Heap.lt_size h1),λ z=>?_,h5⟩
  rcases List.mem_cons.mp (I.stkSub _ z) with z | z
  ·exact h3 z
  ·exact h4 z
 hok:=I.hok.kept k
 len:=by show (uk0 js σ).length=NN.length; unfold uk0; rw [List.length_map]; exact S.len
theorem vn2 {elt target iter:Expr} {ifs:List Expr} {pos:Pos} {wi:TI} {g:TG} {tc:TT} {te:TE} (hc:X.calm=true) (S:CompSc X NN scope cl js) (hi:PI X target iter wi)
    (hg:∀ C fp s₀ H₀ pn,PG (tc0 X NN scope cl C fp s₀ H₀ pn) target g) (ht:∀ C fp s₀ H₀ pn,PTs (tc0 X NN scope cl C fp s₀ H₀ pn) ifs tc) (he:∀ C fp s₀ H₀ pn,PE (tc0 X NN scope cl C fp s₀ H₀ pn) elt te)
    (hs:∀ x,foldedSetIterable iter X.env x=pure x):PE X (.ListComp elt [⟨target,iter,ifs,0⟩] scope pos) (vk1 js wi g tc te):=by
 intro pins s σ H Q I h
 rw [eval_ListComp]
 refine wpAny_comprehension_free (use:=none) rfl hs S.clos S.kind S.names (thn (hi pins s σ H _ I h) λ xv s1 h1=>thn h1 λ itv s2 h2=>?_)
 obtain ⟨it,fp,tn,J,H2,rfl,I2,T,st2,f2,hW⟩:=h2
 refine wpAny_newObj_type (wpAny_newFunctionEnv S.cell (by intro y hy; simp at hy) (λ h₁ hns₁ hsb₁=>?_) S.kind)
 dsimp only at hns₁ hsb₁ ⊢
 have hD:H2 s2.heap.objs.size=none:=I2.hok.fresh (Nat.le_refl _)
 have I3:Inv X pins σ (upd H2 s2.heap.objs.size (.lst [])) { s2 with heap:=s2.heap.push { cls:=.type "list",dict:=none,data:=.seq ([]:List Value).toArray } } :=
  I2.lnew (t':=s2.toks) (its:=[]) .nil (by rw [sizeLine_eq]; decide)
 generalize hsD:({ s2 with heap:=s2.heap.push { cls:=.type "list",dict:=none,data:=.seq ([]:List Value).toArray } }:Shared)=sD at I3
 have eh:sD.heap=s2.heap.push { cls:=.type "list",dict:=none,data:=.seq ([]:List Value).toArray }:=by rw [<- hsD]
 have es:∀ (h:Heap) (tk:Nat),({ s2 with heap:=h,toks:=tk }:Shared)={ sD with heap:=h,toks:=tk }:=λ h tk=>by rw [<- hsD]
 have hsz:s2.heap.objs.size < sD.heap.objs.size:=by rw [eh,Heap.size_push]; exact Nat.lt_succ_self _
 rw [<- eh] at hns₁ hsb₁ ⊢
 generalize hp0:s2.heap.objs.size=p0 at *
 have up:∀ b u,s2.heap.get? b=some u->sD.heap.get? b=some u:=λ b u e=>by rw [eh]; exact Heap.get?_push_of_some _ e
 have k:∀ b u,sD.heap.get? b=some u->h₁.get? b=some u:=λ b u e=>hsb₁.extBut b u (Nat.ne_of_lt (Heap.lt_size e)) (Heap.get?_push_of_some _ e)
 have f3:∀ b ∈ fp,FpOk X pins (upd H2 p0 (.lst [])) b /\ b < sD.heap.objs.size:=λ b hb=>by
  obtain ⟨o,ho,_⟩:=T.obj 0 _ st2 b hb
  have hlt:b < p0:=by rw [<- hp0]; exact Heap.lt_size ho
  refine ⟨⟨?_,(f2 b hb).2⟩,Nat.lt_trans hlt hsz⟩
  rw [wb0 (Nat.ne_of_lt hlt)]; exact (f2 b hb).1
 obtain ⟨W,⟨m0,w0⟩,turn⟩:=hW p0 hD
 have I4:=yw0 (tk:=s2.toks + ([]:List (Str × Value)).length) hc S I3 f3 hns₁ k
 have st4:tn 0 h₁:=T.keep 0 _ _ st2 λ b _ o e=>k b o (up b o e)
 rw [es]
 generalize hX':tc0 X NN scope cl sD.heap.objs.size fp sD (upd H2 p0 (.lst [])) (X.pn ++ pins)=X' at I4
 have a1:X'.env=compEnvC scope cl sD.heap.objs.size X.env:=by rw [<- hX']
 have a2:X'.prog=X.prog:=by rw [<- hX']
 have a3:X'.w=X.w:=by rw [<- hX']
 have a4:X'.A=X.A:=by rw [<- hX']
 have a5:X'.K=X.K:=by rw [<- hX']
 have a6:X'.calm=true:=by rw [<- hX']; exact hc
 have a7:X'.xe=λ _ _=>False:=by rw [<- hX']
 have a8:X'.ex=fp:=by rw [<- hX']
 have T':Turn X'.prog X'.w X'.K target J fp it tn:=by rw [a2,a3,a5]; exact T
 have hg':PG X' target g:=by rw [<- hX']; exact hg _ _ _ _ _
 have ht':PTs X' ifs tc:=by rw [<- hX']; exact ht _ _ _ _ _
 have he':PE X' elt te:=by rw [<- hX']; exact he _ _ _ _ _
 have fin:∀ {σ':L2.St} {H':Hp} {s':Shared},Inv X' [] σ' H' s'->Q (.ref p0) H'->compPost (model X.prog X.w) X.A X.xe none (EP X pins σ Q) (.ref p0) sD.heap.objs.size (.ok .next) s':=λ {σ' H' s'} I' q=>by
  obtain ⟨m',hn',_⟩:=I'.loc
  rw [a1] at hn'
  refine ⟨m',hn',λ h' sb=>?_⟩
  have u:Un (frs X.stack) fp (upd H2 p0 (.lst [])) H' sD.heap s'.heap:=by
   have:=I'.base
   rw [<- hX'] at this
   exact this
  have hch:∀ b ∈ fp,(b ∈ X.ex \/ X.s₀.heap.objs.size<=b) /\ b ≠ X.env.locals /\ (∀ x c,X.env.cells.lookup x=some c->c ≠ b) /\ ∀ p ∈ X.pn ++ pins,p.1 ≠ b:=λ b hb=>by
   obtain ⟨_,z1,_,z3,z4,z5⟩:=(f3 b hb).1
   exact ⟨z3,z1,z4,z5⟩
  have os':s'.os=sD.os:=by
   have:=I'.os
   rw [<- hX'] at this
   exact this
  have hok':HOk X.prog X.w H' s'.heap:=by
   have:=I'.hok
   rw [<- hX'] at this
   exact this
  have I5:Inv X pins σ H' s':=I3.call' os' u hok' I'.bare hch
  have hC:H' sD.heap.objs.size=none:=by
   have:=I'.free
   rw [a1] at this
   exact this
  refine ⟨.ref p0,H',I5.turned (t':=s'.toks) (it:=sD.heap.objs.size) (λ b o hb e=>sb.extBut b o hb e) hC (Nat.ne_of_gt I3.lt) (.inr I3.sz) (λ x c e=>?_) (λ p hp=>?_),rfl,q⟩
  ·obtain ⟨v,o,ho,_⟩:=I3.cell x c e
   exact Nat.ne_of_lt (Heap.lt_size ho)
  ·exact Nat.ne_of_lt (Heap.lt_size (I3.pin p hp).1)
 have fp4:∀ {H':Hp},(∀ b ∈ fp,H' b=none)->∀ b ∈ fp,FpOk X' [] H' b:=λ hn b hb=>by
  obtain ⟨_,z1,z2,z3,z4,z5⟩:=(f3 b hb).1
  rw [<- hX']
  refine ⟨hn b hb,Nat.ne_of_lt (f3 b hb).2,λ z=>?_,.inl hb,λ x c e=>z4 x c (S.sub x c e),λ p hp=>z5 p (by simpa using hp)⟩
  rcases List.mem_cons.mp (I3.stkSub _ z) with z | z
  ·exact z1 z
  ·exact z2 z
 have loop:∀ s₃:Shared,Inv X' [] (uk0 js σ) (upd H2 p0 (.lst [])) s₃->tn 0 s₃.heap ->
     codeAny (model X.prog X.w) X.A (.compLoop (.ListComp elt [⟨target,iter,ifs,0⟩] scope pos) 0 (.ref it) (.ref p0) (compEnvC scope cl sD.heap.objs.size X.env)) (compPost (model X.prog X.w) X.A X.xe none (EP X pins σ Q) (.ref p0) sD.heap.objs.size) s₃:=by
  intro s₃ I₃ st₃
  refine codeAny_loop rfl (λ n s'=>∃ i σ' H',Inv X' [] σ' H' s' /\ tn i s'.heap /\ (∀ b ∈ fp,H' b=none) /\ W i n σ' H') (λ n s' hI=>?_) m0 ⟨0,uk0 js σ,_,I₃,st₃,λ b hb=>(f3 b hb).1.1,w0⟩
  obtain ⟨i,σ3,H3,J3,st3,fr3,w3⟩:=hI
  have tr:=turn i n σ3 H3 w3
  show wpAny _ X.A ((compTurn (.ListComp elt [⟨target,iter,ifs,0⟩] scope pos) 0 (.ref it) (.ref p0) (compEnvC scope cl sD.heap.objs.size X.env)).onRaise (λ x=>do noteFrame x (compEnvC scope cl sD.heap.objs.size X.env); theTreesLotGoes x)) _ _ s'
  refine wpAny_noted ?_
  rw [compTurn_list,<- a1,<- a2,<- a3,<- a4]
  have nof:∀ {α:Type} {t:Sem α} {Q':α->Shared->Prop} {s'':Shared} {E:Value->Shared->Prop},wpAny (model X'.prog X'.w) X'.A t Q' X'.xe s''->wpAny (model X'.prog X'.w) X'.A t Q' E s'':=λ h=>wpAny_mono h (λ _ _ q=>q) λ _ _ z=>by rw [a7] at z; exact z.elim
  rcases tr with ⟨stop,qn⟩ | ⟨go,step⟩
  ·refine wpAny_bind (wpAny_standAt (wpAny_bind (nof (thn (T'.done X' rfl rfl rfl a6 i [] s' σ3 H3 X'.xe J3 (fp4 fr3) st3 stop) λ r s4 ⟨hr,J4⟩=>?_))))
   subst hr
   exact wpAny_pure (fin J4 qn)
  ·refine wpAny_bind (wpAny_standAt (wpAny_bind (nof (thn (T'.item X' rfl rfl rfl a6 i [] s' σ3 H3 X'.xe J3 (fp4 fr3) st3 go) λ r s4 ⟨u,hr,h4⟩=>?_))))
   subst hr
   refine wpAny_bind (nof (thn h4 λ _ s5 ⟨x,H5,I5,r5,y5,st5,fr5⟩=>?_))
   have I5':=I5.pinned (fp4 fr5) (T.obj _ _ st5)
   refine wpAny_bind (nof (thn (hg' _ s5 σ3 H5 x u _ I5' r5 (step x H5 y5)) λ _ s6 ⟨σ6,H6,I6,q6⟩=>?_))
   refine wpAny_bind (nof (thn (ht' _ s6 σ6 H6 _ I6 q6) λ ok s7 ⟨H7,I7,q7⟩=>?_))
   have again:∀ {s8:Shared} {σ8:L2.St} {H8:Hp},Inv X' ([] ++ sp0 fp s5.heap) σ8 H8 s8->(∃ m',m' < n /\ W (i + 1) m' σ8 H8)->∃ m,m < n /\ ∃ i σ' H',Inv X' [] σ' H' s8 /\ tn i s8.heap /\ (∀ b ∈ fp,H' b=none) /\ W i m σ' H':=λ {s8 σ8 H8} I8 ⟨m',hm,w8⟩=>by
    refine ⟨m',hm,i + 1,σ8,H8,I8.unpinned,T.keep _ _ _ st5 λ b hb o e=>(I8.pin (b,o) (List.mem_append_right _ (List.mem_append_right _ (wf0 hb e)))).1,λ b hb=>?_,w8⟩
    obtain ⟨o,e,d⟩:=T.obj _ _ st5 b hb
    exact (I8.pin (b,o) (List.mem_append_right _ (List.mem_append_right _ (wf0 hb e)))).2.1
   cases ok with
   | false=>exact wpAny_pure ⟨rfl,again I7 q7⟩
   | true =>
    refine wpAny_bind (wpAny_bind (nof (thn (he' _ s7 σ6 H7 _ I7 q7) λ xv s8 ⟨y,H8,I8,r8,ys,q8,hlen,q9⟩=>wpAny_bind (nof ?_))))
    refine thn (vn0 (X:=X') _ s8 σ6 H8 (.ref p0) [y] (.ref p0) [xv] (λ v H9=>v=.non /\ H9=upd H8 p0 (.lst (ys ++ [y]))) I8 rfl (.cons r8 .nil) ⟨p0,ys,y,rfl,rfl,q8,hlen,rfl,rfl⟩) λ rv s9 ⟨v9,H9,I9,_,_,e9⟩=>?_
    subst e9
    exact wpAny_pure (wpAny_pure ⟨rfl,again I9 q9⟩)
 exact codeAny_compStart_list (loop _ I4 st4) (T.self X.A 0 _ _ _ st4 (loop _ I4 st4))
end
end Pv
namespace Pv
open PySem PySem.Spec PyProof.Rows L2
theorem xi0:bootBuiltins "len" = some (.builtin "len"):=by decide +kernel
theorem vd0:bootBuiltins "isinstance" = some (.builtin "isinstance"):=by decide +kernel
theorem uh2:bootBuiltins "sum" = some (.builtin "sum"):=by decide +kernel
theorem sf0:bootBuiltins "tuple" = some (.type "tuple"):=by decide +kernel
theorem xn3:bootBuiltins "int" = some (.type "int"):=by decide +kernel
theorem wr2:bootBuiltins "bool" = some (.type "bool"):=by decide +kernel
theorem yv1:bootBuiltins "list" = some (.type "list"):=by decide +kernel
theorem zv1:bootBuiltins "all" = some (.builtin "all"):=by decide +kernel
theorem sm3:bootBuiltins "min" = some (.builtin "min"):=by decide +kernel
theorem xv1:bootBuiltins "max" = some (.builtin "max"):=by decide +kernel
theorem sh0:bootBuiltins "sorted" = some (.builtin "sorted"):=by decide +kernel
noncomputable def RTs (X:Cx) (ifs:List Expr) (t:TT3):Prop:=∃ tv,PTs X ifs tv /\ RdT X.K tv t
theorem xk0 {X:Cx}:RTs X [] tt3:=⟨_,wl2,λ σ H Q ρ μ Q3 s m h k=>k _ _ _ h (Kp.refl _) m⟩
theorem vm0 {X:Cx} {c:Expr} {t:TT3} (h:RT X c t):RTs X [c] t:=let ⟨tv,p,r⟩:=h; ⟨tv,zl2 p,r⟩
theorem ub2 {K:Fg} {H:Hp} {ρ:St3} {σ:L2.St} (s:RSt K H ρ σ) (js:List (Option Nat)):RSt K H (js.map λ j=>j.bind (getI ρ)) (uk0 js σ):=by
 refine ⟨by simp [uk0],λ i d e=>?_⟩
 rw [uy0,List.getElem?_map] at e
 unfold uk0
 rw [List.getElem?_map]
 cases q:js[i]? with
 | none=>rw [q] at e; cases e
 | some o =>
  rw [q] at e
  cases o with
  | none=>simp at e
  | some j =>
   have e':getI ρ j=some d:=by simpa using e
   obtain ⟨v,h1,h2⟩:=s.at' j d e'
   exact ⟨v,by simp [h1],h2⟩
theorem RdE.comp {K:Fg} {js:List (Option Nat)} {wi:TI} {g:TG} {tc:TT} {te:TE} {ti:TI3} {g3:TG3} {tc3:TT3} {te3:TE3} (ri:RdI K wi ti) (rg:RdG K g g3) (rt:RdT K tc tc3) (re:RdE K te te3):RdE K (vk1 js wi g tc te) (comp3 js ti g3 tc3 te3):=by
 intro σ H Q ρ μ Q3 s m h k
 refine ri σ H _ ρ μ _ s m h λ l S μ1 J H1 h1 k1 m1 ok p hp=>?_
 obtain ⟨W,w0,hS,hn,hs⟩:=h1 p (m1.free hp)
 have kn:Kp H1 (upd H1 p (.lst [])):=Kp.new hp
 refine ⟨λ i n σ2 H2=>n=l.length - i /\ i<=l.length /\ ∃ ρ2 μ2 ys,RSt K H2 ρ2 σ2 /\ RelM K μ2 H2 /\ Kp H1 H2 /\ W (l.drop i) ys ρ2 μ2,⟨l.length,rfl,Nat.zero_le _,_,_,[],(ub2 (s.mono k1) js).mono kn,m1.newL hp .nil,kn,w0⟩,?_⟩
 rintro i n σ2 H2 ⟨rfl,hi,ρ2,μ2,ys,s2,m2,k2,w2⟩
 obtain ⟨hS2,hp2⟩:=hS _ _ _ _ w2
 by_cases hlt:i < l.length
 ·rw [List.drop_eq_getElem_cons hlt] at w2
  obtain ⟨hz,h2⟩:=hs _ _ _ _ _ w2
  obtain ⟨ok1,_⟩:=ok i H2 μ2 k2 m2 hS2
  obtain ⟨go,yl⟩:=ok1 l[i] (List.getElem?_eq_getElem hlt)
  refine .inr ⟨go,λ x H3 y=>?_⟩
  obtain ⟨k3,m3,r3⟩:=yl x H3 y
  refine rg x l[i] σ2 H3 _ ρ2 μ2 _ (s2.mono k3) m3 r3 h2 λ ρ4 μ4 σ4 H4 h4 k4 s4 m4=>?_
  refine rt σ4 H4 _ ρ4 μ4 _ s4 m4 h4 λ b μ5 H5 h5 k5 m5=>?_
  have k15:Kp H1 H5:=k2.trans (k3.trans (k4.trans k5))
  cases b with
  | false=>exact ⟨l.length - (i + 1),by omega,rfl,hlt,ρ4,μ5,ys,s4.mono k5,m5,k15,h5⟩
  | true =>
   refine re σ4 H5 _ ρ4 μ5 _ (s4.mono k5) m5 h5 λ d μ6 v H6 h6 k6 r6 m6=>?_
   obtain ⟨vs,hv,rv⟩:=m6 p ys h6.1
   refine ⟨vs,hv,by rw [<- rv.length]; exact hz,l.length - (i + 1),by omega,rfl,hlt,ρ4,_,_,((s4.mono k5).mono k6).mono (Kp.wr hv),m6.wr hv (rv.append (.cons r6 .nil)),(k15.trans k6).trans (Kp.wr hv),h6.2⟩
 ·have e:i=l.length:=by omega
  subst e
  rw [List.drop_length] at w2
  exact .inl ⟨(ok _ H2 μ2 k2 m2 hS2).2 (Nat.le_refl _),k _ _ _ _ (hn _ _ _ w2) (k1.trans k2) (.ref p) m2⟩
section
variable {X:Cx} {elt target iter:Expr} {ifs:List Expr} {pos:Pos} {ti:TI3} {g:TG3} {tc:TT3} {te:TE3} {NN:List Str} {scope:Scope} {cl:List (Str × Addr)} {js:List (Option Nat)}
theorem si0 (hc:X.calm=true) (S:CompSc X NN scope cl js) (hi:RI X target iter ti) (hg:∀ C fp s₀ H₀ pn,RG (tc0 X NN scope cl C fp s₀ H₀ pn) target g)
    (ht:∀ C fp s₀ H₀ pn,RTs (tc0 X NN scope cl C fp s₀ H₀ pn) ifs tc) (he:∀ C fp s₀ H₀ pn,RE (tc0 X NN scope cl C fp s₀ H₀ pn) elt te)
    (hs:∀ x,foldedSetIterable iter X.env x=pure x):RE X (.ListComp elt [⟨target,iter,ifs,0⟩] scope pos) (comp3 js ti g tc te):=by
 obtain ⟨wi,pi,ri⟩:=hi
 let gU:TG:=λ v σ H Q=>∀ (r:TG3),r=g->∃ d ρ μ Q3,RSt X.K H ρ σ /\ RelM X.K μ H /\ RelD X.K H d v /\ g d ρ μ Q3 /\ (∀ ρ' μ' σ' H',Q3 ρ' μ'->Kp H H'->RSt X.K H' ρ' σ'->RelM X.K μ' H'->Q σ' H')
 let tU:TT:=λ σ H Q=>∃ ρ μ Q3,RSt X.K H ρ σ /\ RelM X.K μ H /\ tc ρ μ Q3 /\ (∀ b μ' H',Q3 b μ'->Kp H H'->RelM X.K μ' H'->Q b H')
 let eU:TE:=λ σ H Q=>∃ ρ μ Q3,RSt X.K H ρ σ /\ RelM X.K μ H /\ te ρ μ Q3 /\ Ks X.K H Q3 Q
 have hg':∀ C fp s₀ H₀ pn,PG (tc0 X NN scope cl C fp s₀ H₀ pn) target gU:=λ C fp s₀ H₀ pn=>by
  obtain ⟨tv,p,r⟩:=hg C fp s₀ H₀ pn
  intro pins s σ H v u Q I rv h
  obtain ⟨d,ρ,μ,Q3,a1,a2,a3,a4,a5⟩:=h g rfl
  exact p pins s σ H v u Q I rv (r v d σ H Q ρ μ Q3 a1 a2 a3 a4 a5)
 have ht':∀ C fp s₀ H₀ pn,PTs (tc0 X NN scope cl C fp s₀ H₀ pn) ifs tU:=λ C fp s₀ H₀ pn=>by
  obtain ⟨tv,p,r⟩:=ht C fp s₀ H₀ pn
  intro pins s σ H Q I h
  obtain ⟨ρ,μ,Q3,a1,a2,a3,a4⟩:=h
  exact p pins s σ H Q I (r σ H Q ρ μ Q3 a1 a2 a3 a4)
 have he':∀ C fp s₀ H₀ pn,PE (tc0 X NN scope cl C fp s₀ H₀ pn) elt eU:=λ C fp s₀ H₀ pn=>by
  obtain ⟨tv,p,r⟩:=he C fp s₀ H₀ pn
  intro pins s σ H Q I h
  obtain ⟨ρ,μ,Q3,a1,a2,a3,a4⟩:=h
  exact p pins s σ H Q I (r σ H Q ρ μ Q3 a1 a2 a3 a4)
 exact ⟨_,vn2 hc S pi hg' ht' he' hs,RdE.comp ri (λ v d σ H Q ρ μ Q3 a1 a2 a3 a4 a5 _ _=>⟨d,ρ,μ,Q3,a1,a2,a3,a4,a5⟩) (λ σ H Q ρ μ Q3 a1 a2 a3 a4=>⟨ρ,μ,Q3,a1,a2,a3,a4⟩) (λ σ H Q ρ μ Q3 a1 a2 a3 a4=>⟨ρ,μ,Q3,a1,a2,a3,a4⟩)⟩
theorem wk0 (hf:∀ y ∈ scope.names,y.2 ≠ .free) (hcl:∀ y ∈ scope.names,y.2 ≠ .cell) (hn:∀ y ∈ scope.names,y.2=.local->scope.names.lookup y.1=some .local) (hi:RI X target iter ti) (hg:∀ C fp s₀ H₀ pn,RG (tc0 X NN scope [] C fp s₀ H₀ pn) target g)
    (ht:∀ C fp s₀ H₀ pn,RTs (tc0 X NN scope [] C fp s₀ H₀ pn) ifs tc) (he:∀ C fp s₀ H₀ pn,RE (tc0 X NN scope [] C fp s₀ H₀ pn) elt te) (hc:X.calm=true:=by rfl) (hk:scope.kind=.function:=by rfl)
    (hs:∀ x,foldedSetIterable iter X.env x=pure x:=by intro _; rfl):RE X (.ListComp elt [⟨target,iter,ifs,0⟩] scope pos) (comp3 (NN.map λ _=>none) ti g tc te) :=
 si0 hc (CompSc.closed hf hcl hk hn) hi hg ht he hs
end
end Pv
namespace Pv
open PySem PySem.Spec PyProof.Rows L2
mutual
inductive TupK (K:Fg):List D->Addr->Prop where
 | mk {a:Addr} {l:List D} {its:Array Value} {n:Nat} {od:Option Addr} {sl:Array (Option Value)}:K.lookup a=some ⟨.type "tuple",od,.seq its n,sl⟩->its.size<=sizeLine->ItK K l its.toList->TupK K l a
inductive ItK (K:Fg):List D->List Value->Prop where
 | nil:ItK K [] []
 | int {i:Int} {t:Tok} {l:List D} {us:List Value}:ItK K l us->ItK K (.int i :: l) (.int i t :: us)
 | str {x:Str} {t:Tok} {l:List D} {us:List Value}:ItK K l us->ItK K (.str x :: l) (.str x t :: us)
 | bl {b:Bool} {l:List D} {us:List Value}:ItK K l us->ItK K (.bl b :: l) (.bool b :: us)
 | tup {a:Addr} {l' l:List D} {us:List Value}:TupK K l' a->ItK K l us->ItK K (.ktp l' :: l) (.ref a :: us)
end
mutual
theorem TupK.rel {K:Fg}:∀ {l:List D} {a:Addr},TupK K l a->∀ H,RelD K H (.ktp l) (.ref a)
 | _,_,.mk h1 h2 h3,H=>by
  obtain ⟨vs,r,rd⟩:=h3.rel
  exact .ktp (.inr ⟨_,_,_,h1,rfl,rfl,h2,r⟩) (rd H)
theorem ItK.rel {K:Fg}:∀ {l:List D} {us:List Value},ItK K l us->∃ vs,Vals vs us /\ ∀ H,RelDs K H l vs
 | _,_,.nil=>⟨[],.nil,λ _=>.nil⟩
 | _,_,.int h=>let ⟨vs,r,rd⟩:=h.rel; ⟨_,.cons (show RelV (.int _) _ from ⟨_,rfl⟩) r,λ H=>.cons (.int _) (rd H)⟩
 | _,_,.str h=>let ⟨vs,r,rd⟩:=h.rel; ⟨_,.cons (show RelV (.str _) _ from ⟨_,rfl⟩) r,λ H=>.cons (.str _) (rd H)⟩
 | _,_,.bl h=>let ⟨vs,r,rd⟩:=h.rel; ⟨_,.cons (show RelV (.bl _) _ from rfl) r,λ H=>.cons (.bl _) (rd H)⟩
 | _,_,.tup h0 h=>let ⟨vs,r,rd⟩:=h.rel; ⟨_,.cons (show RelV (.ref _) _ from rfl) r,λ H=>.cons (h0.rel H) (rd H)⟩
end
section
variable {K:Fg} {h:Heap} {mg:Str->Option Value} {x:Str}
theorem xl3 {a:Addr} {l:List D} (X:K.In h) (G:h.Ns mainGlobals mg) (e:PySem.W.nsIn K mainGlobals x=some (some (.ref a))) (r:TupK K l a):Gd K mg x (.ktp l):=⟨_,.ref a,PySem.W.mg_of X G e,rfl,λ H=>r.rel H⟩
end
theorem zv0 {K:Fg} {H:Hp}:∀ ns:List Int,RelDs K H (ns.map D.int) (ns.map V.int)
 | []=>.nil
 | n :: r=>.cons (.int n) (zv0 r)
theorem wa2 {K:Fg} {H:Hp} {a:Addr} {ns:List Int} {sp:Sp3} (hO:Only H) (hS:SqL K H a (ns.map V.int)) (h:sp [.fls (ns.map D.int)] (λ _=>none) (λ d _=>d=.bl true)) :
    lift K sp [.ref a] H (λ v _=>v=.bl true) λ _ _ _=>False:=by
 have hF:SqF K H a (ns.map V.int):=by
  rcases hS with (h1 | ⟨o,h1⟩) | h1
  ·rcases hO a with z | ⟨o,xs,z⟩
   ·rw [h1] at z; cases z
   ·rw [h1] at z; cases z
  ·exact .inl ⟨o,h1⟩
  ·exact .inr h1
 refine ⟨_,_,_,.cons (.fls hF (zv0 ns)) .nil,(⟨λ p xs e=>(by cases e),λ p c fs e=>(by cases e),λ p kvs e=>(by cases e),λ p kvs e=>(by cases e),λ p kvs e=>(by cases e)⟩),h,λ d μ' v H' q _ r _=>?_⟩
 subst q
 cases r
 rfl
end Pv
namespace Pv
open PySem PySem.Spec PyProof.Rows L2
open PySem.AutoSeq1 (wpAny_loadPart')
theorem wx0 (l:Addr) (items:Array Value) (n:Nat) (dd:Option Addr) (sl:Array (Option Value)) (x:Int) (u:Tok) (hc0:(decide (x < -(2 ^ 63)) || decide (x ≥ 2 ^ 63))=false) (hc1:(items.isEmpty || x == 1)=true) :
    Meets (Builtin.«tuple.__mul__» ⟨[.ref l,.int x u],[]⟩) (λ _ R s=>s.heap.get? l=some { cls:=.type "tuple",dict:=dd,data:=.seq items n,slots:=sl } /\ R (.ok (.ret (.ref l))) s) :=
 .of_wp λ prog w A R s h=>by
  obtain ⟨hp,g,d,tk,os⟩:=s; obtain ⟨hl,h⟩:=h
  have f1:=AutoSeq1.idx_int
  have f2:=AutoSeq1.sub_tuple_tuple
  wp_walk using wpAny_loadPart' hl
  refine wpAny_ite_false (decide_eq_false (by rw [hc0]; exact Bool.false_ne_true)) ?_
  wp_walk using wpAny_loadPart' hl
  exact ⟨_,rfl,h⟩
theorem zx0 (l:Addr) (items:Array Value) (n:Nat) (dd:Option Addr) (sl:Array (Option Value)) (x:Int) (u:Tok) (hc0:(decide (x < -(2 ^ 63)) || decide (x ≥ 2 ^ 63))=false) (hc1:(items.isEmpty || x == 1)=false) (hc2:(decide (x<=0) || items.isEmpty)=true) :
    Meets (Builtin.«tuple.__mul__» ⟨[.ref l,.int x u],[]⟩) (λ _ R s=>s.heap.get? l=some { cls:=.type "tuple",dict:=dd,data:=.seq items n,slots:=sl } /\ R (.ok (.ret (.ref s.heap.objs.size))) { s with heap:=s.heap.push { cls:=.type "tuple",data:=.seq #[] } }) :=
 .of_wp λ prog w A R s h=>by
  obtain ⟨hp,g,d,tk,os⟩:=s; obtain ⟨hl,h⟩:=h
  have f1:=AutoSeq1.idx_int
  have f2:=AutoSeq1.sub_tuple_tuple
  wp_walk using wpAny_loadPart' hl
  refine wpAny_ite_false (decide_eq_false (by rw [hc0]; exact Bool.false_ne_true)) ?_
  wp_walk using wpAny_loadPart' hl
  exact ⟨_,rfl,h⟩
theorem yx0 (l:Addr) (items:Array Value) (n:Nat) (dd:Option Addr) (sl:Array (Option Value)) (x:Int) (u:Tok) (hc0:(decide (x < -(2 ^ 63)) || decide (x ≥ 2 ^ 63))=false) (hc1:(items.isEmpty || x == 1)=false) (hc2:(decide (x<=0) || items.isEmpty)=false)
    (hc3:¬ ((items.size:Int) * x > (2 ^ 63 - 1) / 8)) (hc4:Builtin.Tuple.tupleTooMany ((items.size:Int) * x)=false) (hz:((List.replicate x.toNat items).foldl (· ++ ·) #[]).size<=sizeLine) :
    Meets (Builtin.«tuple.__mul__» ⟨[.ref l,.int x u],[]⟩) (λ _ R s=>s.heap.get? l=some { cls:=.type "tuple",dict:=dd,data:=.seq items n,slots:=sl } /\ R (.ok (.ret (.ref s.heap.objs.size))) { s with heap:=s.heap.push { cls:=.type "tuple",data:=.seq ((List.replicate x.toNat items).foldl (· ++ ·) #[]) } }) :=
 .of_wp λ prog w A R s h=>by
  obtain ⟨hp,g,d,tk,os⟩:=s; obtain ⟨hl,h⟩:=h
  have f1:=AutoSeq1.idx_int
  have f2:=AutoSeq1.sub_tuple_tuple
  wp_walk using wpAny_loadPart' hl
  refine wpAny_ite_false (decide_eq_false (by rw [hc0]; exact Bool.false_ne_true)) ?_
  wp_walk using wpAny_loadPart' hl
  refine wpAny_ite_false (decide_eq_false hc3) ?_
  wp_walk using wpAny_loadPart' hl
  all_goals try (refine wpAny_ite_false (decide_eq_false (by rw [hc4]; exact Bool.false_ne_true)) ?_)
  have hsz:((List.replicate x.toNat items).foldl (· ++ ·) #[]).size<=sizeLine:=hz
  wp_walk using wpAny_loadPart' hl
  exact ⟨_,rfl,h⟩
theorem wn0:fillsNumberSlot (.type "tuple") "mul" = pure false :=
 PySem.fillsNumberSlot_seq (id := "tuple.__mul__") (r:=some (.builtin "tuple.__rmul__")) F.slot_tuple_mul.lookup (by decide +kernel) F.slot_tuple_rmul.lookup (by decide +kernel)
theorem tm0:seqRepeat? (.type "tuple")=pure (some (.builtin "tuple.__mul__")):=by
 unfold seqRepeat?
 rw [PySem.seqSlot_of F.slot_tuple_mul.lookup (T := "tuple") (name := "__mul__") (id := "tuple.__mul__") (by decide +kernel),PySem.seqSlot_of F.slot_tuple_rmul.lookup (T := "tuple") (name := "__rmul__") (id := "tuple.__rmul__") (by decide +kernel)]
 rfl
theorem vp0 (a:Int) (t:Tok) (l:Addr) (its:Array Value) (n:Nat) (dd:Option Addr) (sl:Array (Option Value)) :
    Meets (Builtin.«int.__rmul__» ⟨[.int a t,.ref l],[]⟩) (λ _ R s=>s.heap.get? l=some ⟨.type "tuple",dd,.seq its n,sl⟩ /\ R (.ok (.ret .notImplemented)) s) :=
 .of_wp λ prog w A R s h=>by
  obtain ⟨hp,g,d,tk,os⟩:=s
  obtain ⟨hl,h⟩:=h
  wp_walk using wpAny_loadPart' hl
  exact ⟨_,rfl,h⟩
section
variable {X:Cx}
noncomputable def ws3 (K:Fg):R2:=λ x y H Q=>∃ a k xs,x=.ref a /\ y=.int k /\ SqT K H a xs /\ -(2 ^ 62)<=k /\ k < 2 ^ 62 /\ xs.length * k.toNat<=1000000 /\ (xs=[] \/ k=1->Q (.ref a) H) /\ ∀ p,H p=none->Q (.ref p) (upd H p (.tup (List.replicate k.toNat xs).flatten))
theorem op_repT:OpR X (binaryOp .Mult) (ws3 X.K):=by
 intro pins s σ H x y v u Q I rx ry h
 obtain ⟨a,k,xs,rfl,rfl,hq,h1,h2,hz,q1,q2⟩:=h
 cases rx
 obtain ⟨t,rfl⟩:=ry
 obtain ⟨its,r,⟨⟨cls,dd,data,sl⟩,ho,hc,n,hd⟩,hl⟩:=I.tuple hq
 simp only at hc hd
 subst hc hd
 have hlen:its.length=xs.length:=r.length.symm
 have c0:(decide (k < -(2 ^ 63)) || decide (k ≥ 2 ^ 63))=false:=by
  rw [decide_eq_false (by omega),decide_eq_false (by omega)]; rfl
 refine wpAny_binaryOp_repeat_ref (T := "tuple") (U := "int") (by decide) ⟨_,ho,rfl⟩ (λ s'=>typeIs_int s' k t) wn0 F.fills_int_mul F.slot_int_rmul tm0 F.slot_int_index.lookup
  (call_meets F.slot_int_rmul (typeIs_int s k t) F.entry_int_rmul (F.args_int_rmul_2 _ _) (vp0 k t a its.toArray n dd sl) ⟨ho,rfl,⟨_,ho,rfl⟩,?_⟩)
 by_cases e1:xs=[] \/ k=1
 ·refine call_meets F.slot_tuple_mul ⟨_,ho,rfl⟩ F.entry_tuple_mul (F.args_tuple_mul_2 _ _) (wx0 a its.toArray n dd sl k t c0 ?_) ⟨ho,⟨.ref a,H,I,rfl,q1 e1⟩⟩
  rcases e1 with e1 | e1
  ·subst e1; cases r; rfl
  ·subst e1; simp
 ·have hne:its ≠ []:=λ z=>e1 (.inl (by subst z; cases r; rfl))
  have hk1:k ≠ 1:=λ z=>e1 (.inr z)
  have c1:(its.toArray.isEmpty || k == 1)=false:=by simp [hne,hk1]
  have hf:H s.heap.objs.size=none:=I.hok.fresh (Nat.le_refl _)
  by_cases e2:k<=0
  ·have hk0:k.toNat=0:=by omega
   refine call_meets F.slot_tuple_mul ⟨_,ho,rfl⟩ F.entry_tuple_mul (F.args_tuple_mul_2 _ _) (zx0 a its.toArray n dd sl k t c0 c1 (by simp [e2])) ⟨ho,?_⟩
   refine ⟨.ref _,upd H s.heap.objs.size (.tup []),I.laid (t':=s.toks) (λ b ob q=>Heap.get?_push_of_some _ q) (Nat.le_refl _) ⟨by rw [sizeLine_eq]; decide,[],.nil,IsTup.new _ _⟩,rfl,?_⟩
   have:=q2 _ hf
   rw [hk0] at this
   exact this
  ·have fr:List.foldl (· ++ ·) #[] (List.replicate k.toNat its.toArray)=(List.replicate k.toNat its).flatten.toArray:=by
     have:=xo0 its k.toNat []
     rw [List.nil_append] at this
     exact this
   have hb:(1000000:Nat)<=sizeLine:=by rw [sizeLine_eq]; decide
   have hm:(its.toArray.size:Int) * k<=1000000:=by
    rw [List.size_toArray,hlen]
    have:((xs.length * k.toNat:Nat):Int)<=1000000:=by omega
    rw [Int.natCast_mul,Int.toNat_of_nonneg (by omega)] at this
    exact this
   have hsz:(List.replicate k.toNat its).flatten.length<=sizeLine:=by rw [vy0,Nat.mul_comm,hlen]; omega
   refine call_meets F.slot_tuple_mul ⟨_,ho,rfl⟩ F.entry_tuple_mul (F.args_tuple_mul_2 _ _) (yx0 a its.toArray n dd sl k t c0 c1 (by simp [hne]; omega) (by omega) ?_ (by rw [fr,List.size_toArray]; exact hsz)) ⟨ho,?_⟩
   ·unfold Builtin.Tuple.tupleTooMany
    rw [decide_eq_false (by omega)]
   ·rw [fr]
    refine ⟨.ref _,upd H s.heap.objs.size (.tup (List.replicate k.toNat xs).flatten),I.laid (t':=s.toks) (λ b ob q=>Heap.get?_push_of_some _ q) (Nat.le_refl _) ⟨?_,_,r.rep k.toNat,IsTup.new _ _⟩,rfl,q2 _ hf⟩
    rw [vy0,Nat.mul_comm]; omega
theorem vn1:RO X (binaryOp .Mult) mulR:=by
 refine ⟨_,op_mulB.or (op_repT.or yh3),λ x y v u H Q μ Q3 m rx ry h k=>?_⟩
 cases ry with
 | int j =>
  cases rx with
  | int i=>exact .inl ⟨i,j,rfl,rfl,h.1,k _ _ _ _ h.2 (Kp.refl _) (.int _) m⟩
  | tup hq rs =>
   rename_i a l vs
   refine .inr (.inl ⟨a,j,vs,rfl,rfl,(SqT.of hq),h.1.1.1,h.1.1.2,by rw [<- rs.length]; exact h.1.2,λ e=>?_,λ p hp=>?_⟩)
   ·rcases e with e | e
    ·subst e; cases rs
     have h2:=h.2
     have e:(List.replicate j.toNat ([]:List D)).flatten=[]:=by simp
     rw [e] at h2
     exact k _ _ _ _ h2 (Kp.refl _) (.tup hq .nil) m
    ·subst e
     have h2:=h.2
     have e:(List.replicate (1:Int).toNat l).flatten=l:=by simp
     rw [e] at h2
     exact k _ _ _ _ h2 (Kp.refl _) (.tup hq rs) m
   ·exact k _ _ _ _ h.2 (Kp.new hp) (.tup zd0 ((rs.rep _).mono (Kp.new hp))) (m.newT hp)
  | ref p =>
   dsimp only [mulR] at h
   cases e:μ p with
   | none=>rw [e] at h; exact h.elim
   | some oo =>
    cases oo with
    | ins _ _=>rw [e] at h; exact h.elim
    | dct _=>rw [e] at h; exact h.elim
    | dcl _=>rw [e] at h; exact h.elim
    | dck _=>rw [e] at h; exact h.elim
    | lst l =>
     rw [e] at h
     obtain ⟨vs,hv,rv⟩:=m p l e
     have hb:(1000000:Nat)<=sizeLine:=by rw [sizeLine_eq]; decide
     refine .inr (.inr ⟨p,j,vs,rfl,rfl,hv,by have:=h.1.1.1; omega,by have:=h.1.1.2; omega,by rw [<- rv.length]; exact Nat.le_trans h.1.2 hb,λ t ht=>?_⟩)
     exact k _ _ _ _ (h.2 t (m.free ht)) (Kp.new ht) (.ref t) (m.newL ht (rv.rep _))
  | _=>exact False.elim h
 | _=>cases rx <;> exact False.elim h
theorem tj1 {prog:Program} {w:World} {A:Around} {E:Value->Shared->Prop} {s:Shared} {t sl:Addr} {items:Array Value} {vl vu:Value} {lo hi:Option Int} {Q:Value->Shared->Prop} (ht:IsTup s.heap t items) (hs:s.heap.IsSliceOf sl vl vu .none) (pl:IsPart vl lo) (pu:IsPart vu hi)
    (hw:HT.sIx items.size 0 lo=0 /\ HT.sIx items.size items.size hi=items.size) (h:Q (.ref t) s):wpAny (model prog w) A (getItem (.ref t) (.ref sl)) Q E s:=by
 obtain ⟨os,hos,hcs,hds⟩:=id hs
 have hTs:s.TypeIs (.ref sl) "slice" := ⟨os,hos,hcs⟩
 unfold getItem
 try with_reducible refine wpAny_holding ?_
 first | refine wpAny_bind (wpAny_pure ?_) | skip
 refine wpAny_bind (wpAny_sequenceKey ht.typeIs (by decide) ?_)
 refine wpAny_bind (wpAny_callSpecial?_slot ht.typeIs (name:=Str.ofString "__getitem__") PyProof.Rows.slot_tuple_getitem (wpAny_call_entry PyProof.Rows.slot_tuple_getitem ht.typeIs entry_tuple_getitem ?_ (args_tuple_getitem _ _)))
 show wpAny _ _ (Builtin.Tuple.tupleItemsOf (.ref t) >>= _) _ _ s
 refine wpAny_bind (tupleItemsOf_ ht ?_)
 refine wpAny_bind (wpAny_typeOf hTs ?_)
 rw [if_pos (by decide)]
 refine wpAny_bind (HT.sliceApplied_gen hs pl pu ?_)
 rw [hw.1,hw.2]
 show wpAny _ _ (if ((((0:Nat):Int) == 0 && (1:Int) == 1 && (items.size - 0) == items.size)=true) then _ else _) _ _ s
 rw [if_pos (by simp)]
 refine wpAny_bind (m:=Builtin.Tuple.tupleIsExact _) (wpAny_bind (wpAny_typeOf ht.typeIs (wpAny_pure ?_)))
 rw [if_pos (by decide)]
 refine wpAny_bind (wpAny_rule ?_)
 first
  | exact wpAny_pure ⟨_,rfl,wpAny_pure h⟩
  | exact wpAny_bind (wpAny_pure (wpAny_pure ⟨_,rfl,wpAny_pure h⟩))
  | exact wpAny_bind (wpAny_bind (wpAny_pure (wpAny_pure (wpAny_pure ⟨_,rfl,wpAny_pure h⟩))))
noncomputable def rSlA (K:Fg):V->Option Int->Option Int->Hp->VK->Prop:=λ x lo hi H Q=>∃ a xs,x=.ref a /\ SqT K H a xs /\ (cutV xs lo hi=xs->Q (.ref a) H) /\ ∀ p,H p=none->Q (.ref p) (upd H p (.tup (cutV xs lo hi)))
theorem sl_tupA:SlR X (rSlA X.K):=by
 intro pins s σ H x v vl vu lo hi sl Q I rx hs pl pu h
 obtain ⟨a,xs,rfl,hx,q1,q2⟩:=h
 by_cases hw:HT.sIx xs.length 0 lo=0 /\ HT.sIx xs.length xs.length hi=xs.length
 ·cases rx
  obtain ⟨its,r,ht,hz⟩:=I.tuple hx
  have hlen:its.toArray.size=xs.length:=by rw [List.size_toArray]; exact r.length.symm
  have e:cutV xs lo hi=xs:=by unfold cutV; rw [hw.1,hw.2]; simp
  exact ⟨"tuple",_,PyProof.Rows.slot_tuple_getitem.lookup,ht.typeIs,tj1 ht hs pl pu (by rw [hlen]; exact hw) ⟨.ref a,H,I,rfl,q1 e⟩⟩
 ·exact ww2 pins s σ H _ v vl vu lo hi sl Q I rx hs pl pu ⟨a,xs,rfl,hx,hw,q2⟩
theorem uj2:∀ (n d:Nat) (o:Option Int),HT.sIx n d o=sIx3 n d o
 | _,_,none=>rfl
 | _,_,some _=>rfl
theorem RelDs.cut {K:Fg} {H:Hp} {l:List D} {vs:List V} (r:RelDs K H l vs) (lo hi:Option Int):RelDs K H (cut3 l lo hi) (cutV vs lo hi):=by
 unfold cut3 cutV
 rw [<- r.length]
 simp only [uj2]
 exact (r.drop _).take _
noncomputable def RdP (K:Fg) (tv:TO) (t:TO3):Prop:=∀ σ H Q ρ μ Q3,RSt K H ρ σ->RelM K μ H->t ρ μ Q3->(∀ o μ' H',Q3 o μ'->Kp H H'->RelM K μ' H'->Q o H')->tv σ H Q
noncomputable def RP (X:Cx) (e:Option Expr) (t:TO3):Prop:=∃ tv,PO X e tv /\ RdP X.K tv t
theorem wm1:RP X none np3:=⟨_,um2,λ σ H Q ρ μ Q3 s m h k=>k _ _ _ h (Kp.refl _) m⟩
theorem zm1 {e:Expr} {te:TE3} (h:RE X e te):RP X (some e) (pt3 te):=by
 obtain ⟨tv,p,r⟩:=h
 refine ⟨_,vm2 p,λ σ H Q ρ μ Q3 s m h k=>r σ H _ ρ μ _ s m h λ d μ1 v H1 h1 k1 r1 m1=>?_⟩
 cases r1 with
 | int i=>exact ⟨i,rfl,k _ _ _ h1 k1 m1⟩
 | _=>exact False.elim h1
noncomputable def RL (X:Cx) (r3:D->Option Int->Option Int->Mu->VK3->Prop):Prop:=∃ r,SlR X r /\ ∀ x v lo hi H Q μ Q3,RelM X.K μ H->RelD X.K H x v->r3 x lo hi μ Q3->Ks X.K H Q3 Q->r v lo hi H Q
noncomputable def rSlS:V->Option Int->Option Int->Hp->VK->Prop:=λ x lo hi H Q=>∃ z:Str,x=.str z /\ z.length<=sizeLine /\ Q (.str ⟨(cut3 z.cps.toList lo hi).toArray⟩) H
theorem tv2 (lo hi:Option Int) (n:Nat):Builtin.Str.strSliceIndices lo hi 1 n=sliceRange ((sIx3 n 0 lo:Nat):Int) ((sIx3 n n hi:Nat):Int) 1:=by
 unfold Builtin.Str.strSliceIndices
 have a1:∀ (d:Nat) (v:Option Int),(match v with | none=>((d:Nat):Int) | some i=>(if (1:Int) > 0 then max 0 (min (if i < 0 then i + (n:Int) else i) (n:Int)) else max (-1) (min (if i < 0 then i + (n:Int) else i) ((n:Int) - 1))))=((sIx3 n d v:Nat):Int):=λ d v=>by
  cases v with
  | none=>rfl
  | some i =>
   simp only [sIx3,show (1:Int) > 0 by decide,if_true]
   by_cases h:i < 0
   ·simp only [h,if_true]; omega
   ·simp only [h,if_false]; omega
 have e1:=a1 0 lo
 have e2:=a1 n hi
 simp only [show (1:Int) > 0 by decide,if_true] at e1 e2 ⊢
 rw [<- e1,<- e2]
 cases lo <;> cases hi <;> rfl
theorem uw2 (n:Nat) (o:Option Int):sIx3 n n o<=n:=by
 cases o with
 | none=>exact Nat.le_refl _
 | some v =>
  show (if v < 0 then (v + (n:Int)).toNat else min v.toNat n)<=n
  split <;> omega
theorem vw2:SlR X rSlS:=by
 intro pins s σ H x v vl vu lo hi sl Q I rx hs pl pu h
 obtain ⟨z,rfl,hz,q⟩:=h
 obtain ⟨t,rfl⟩:=rx
 refine ⟨"str",_,F.slot_str_getitem.lookup,typeIs_str _ _ _,?_⟩
 have hl:∃ l:Option (Int × Tok),partValue l=vl /\ l.map (·.1)=lo:=by
  cases pl with
  | none=>exact ⟨none,rfl,rfl⟩
  | int i t=>exact ⟨some (i,t),rfl,rfl⟩
 have hu:∃ u:Option (Int × Tok),partValue u=vu /\ u.map (·.1)=hi:=by
  cases pu with
  | none=>exact ⟨none,rfl,rfl⟩
  | int i t=>exact ⟨some (i,t),rfl,rfl⟩
 obtain ⟨l,rfl,rfl⟩:=hl
 obtain ⟨u,rfl,rfl⟩:=hu
 refine wpAny_getItem_str_slice (l:=l) (u:=u) (st:=none) hs rfl ?_
 have e:(slicePicked z l u none).filterMap (z.cps[·]?)=cut3 z.cps.toList (l.map (·.1)) (u.map (·.1)):=by
  unfold slicePicked
  show (Builtin.Str.strSliceIndices _ _ 1 z.length).filterMap (z.cps[·]?)=_
  rw [tv2,sliceRange_one,pick_run]
  unfold cut3
  rw [Array.length_toList]
  rfl
 unfold sliceMade
 split
 ·next hw =>
  have hlen:(slicePicked z l u none).length=z.length:=by
   rw [Bool.and_eq_true] at hw
   simpa using hw.2
  have ez:cut3 z.cps.toList (l.map (·.1)) (u.map (·.1))=z.cps.toList:=by
   have h1:(Builtin.Str.strSliceIndices (l.map (·.1)) (u.map (·.1)) 1 z.length).length=z.length:=hlen
   rw [tv2,sliceRange_one,List.length_map,List.length_range] at h1
   have h2:=uw2 z.length (u.map (·.1))
   have hs:z.length=z.cps.size:=rfl
   unfold cut3
   rw [Array.length_toList,<- hs]
   rcases Nat.eq_zero_or_pos z.length with h0 | h0
   ·have:z.cps.toList=[]:=List.eq_nil_of_length_eq_zero (by rw [Array.length_toList,<- hs]; exact h0)
    rw [this]; simp
   ·have ha:sIx3 z.length 0 (l.map (·.1))=0:=by omega
    rw [ha,List.drop_zero]
    exact List.take_of_length_le (by rw [Array.length_toList,<- hs]; omega)
  rw [ez] at q
  exact ⟨.str z,H,I,⟨t,rfl⟩,q⟩
 ·rw [e]
  refine ⟨?_,.str _,H,I.tok _,⟨_,rfl⟩,q⟩
  refine Nat.le_trans ?_ hz
  show (cut3 z.cps.toList (l.map (·.1)) (u.map (·.1))).toArray.size<=z.cps.size
  rw [List.size_toArray]
  unfold cut3
  rw [List.length_take,List.length_drop,Array.length_toList]
  omega
theorem q_sl:RL X slR:=by
 refine ⟨_,(sl_tupA.or vj2).or vw2,λ x v lo hi H Q μ Q3 m rx h k=>?_⟩
 cases rx with
 | str z=>exact .inr ⟨z,rfl,h.1,k _ _ _ _ h.2 (Kp.refl _) (.str _) m⟩
 | tup hq rs =>
  refine .inl <| .inl ⟨_,_,rfl,(SqT.of hq),λ e=>?_,λ p hp=>k _ _ _ _ h (Kp.new hp) (.tup zd0 ((rs.cut lo hi).mono (Kp.new hp))) (m.newT hp)⟩
  refine k _ _ _ _ h (Kp.refl _) (.tup hq ?_) m
  have:=rs.cut lo hi
  rw [e] at this
  exact this
 | fls hq rs=>exact .inl <| .inr ⟨_,_,rfl,hq.l,λ p hp=>k _ _ _ _ (h p (m.free hp)) (Kp.new hp) (.ref p) (m.newL hp (rs.cut lo hi))⟩
 | ref p =>
  dsimp only [slR] at h
  cases e:μ p with
  | none=>rw [e] at h; exact h.elim
  | some oo =>
   cases oo with
   | ins _ _=>rw [e] at h; exact h.elim
   | dct _=>rw [e] at h; exact h.elim
   | dcl _=>rw [e] at h; exact h.elim
   | dck _=>rw [e] at h; exact h.elim
   | lst l =>
    rw [e] at h
    obtain ⟨vs,hv,rs⟩:=m p l e
    exact .inl <| .inr ⟨p,vs,rfl,SqL.of hv,λ t ht=>k _ _ _ _ (h t (m.free ht)) (Kp.new ht) (.ref t) (m.newL ht (rs.cut lo hi))⟩
 | _=>exact False.elim h
theorem sb1 {e:Expr} {te:TE3} {lo hi:Option Expr} {tl th:TO3} {pos p2:Pos} {r3:D->Option Int->Option Int->Mu->VK3->Prop} (hr:RL X r3) (he:RE X e te) (hl:RP X lo tl) (hu:RP X hi th):RE X (.Subscript e (.Slice lo hi none p2) pos) (sl3 r3 te tl th):=by
 obtain ⟨r,pr,rr⟩:=hr
 obtain ⟨va,pa,ra⟩:=he
 obtain ⟨vb,pb,rb⟩:=hl
 obtain ⟨vc,pc,rc⟩:=hu
 exact ⟨_,zz1 pr pa pb pc,λ σ H Q ρ μ Q3 s m h k=>ra σ H _ ρ μ _ s m h λ x μ1 v H1 h1 k1 r1 m1=>rb σ H1 _ ρ μ1 _ (s.mono k1) m1 h1 λ l μ2 H2 h2 k2 m2=>rc σ H2 _ ρ μ2 _ ((s.mono k1).mono k2) m2 h2 λ u μ3 H3 h3 k3 m3 =>
  rr x v l u H3 Q μ3 Q3 m3 (r1.mono (k2.trans k3)) h3 (k.after (k1.trans (k2.trans k3)))⟩
theorem wv1 {K:Fg} {H:Hp}:∀ {l:List D} {vs:List V} {bs:List Bool},RelDs K H l vs->bls? l=some bs->vs=bs.map V.bl
 | _,_,bs,.nil,e=>by simp [bls?] at e; subst e; rfl
 | _,_,bs,.cons h r,e=>by
  cases h with
  | bl x =>
   simp only [bls?] at e
   split at e
   ·next ys e1 =>
    simp only [Option.some.injEq] at e
    subst e
    rw [wv1 r e1]; rfl
   ·cases e
  | _=>simp [bls?] at e
theorem uz0:∀ {bs:List Bool} {us:List Value},Vals (bs.map V.bl) us->us=bs.map Value.bool
 | [],_,r=>by cases r; rfl
 | b :: bs,_,r=>by
  cases r with
  | cons r1 r2=>cases r1; rw [uz0 r2]; rfl
theorem xk1 (prog:Program) (w:World) (A:Around) (bs:List Bool):TruthOf prog w A (λ i v=>(bs.map Value.bool).toArray[i]?=some v) (λ i=>bs.getD i false):=by
 intro i v s Q E hP hQ
 have hP':(bs.map Value.bool)[i]?=some v:=by simpa using hP
 rw [List.getElem?_map] at hP'
 cases e:bs[i]? with
 | none=>rw [e] at hP'; cases hP'
 | some b =>
  rw [e] at hP'
  simp only [Option.map_some,Option.some.injEq] at hP'
  subst hP'
  refine wpAny_truthy_bool ?_
  have:bs.getD i false=b:=by rw [List.getD_eq_getElem?_getD,e]; rfl
  dsimp only at hQ
  rw [this] at hQ
  exact hQ
theorem yn1 (bs:List Bool):(List.range bs.length).all (λ i=>bs.getD i false)=bs.all id:=by
 rw [Bool.eq_iff_iff,List.all_eq_true,List.all_eq_true]
 constructor
 ·intro h x hx
  obtain ⟨i,hi,rfl⟩:=List.mem_iff_getElem.mp hx
  have:=h i (List.mem_range.mpr hi)
  rw [List.getD_eq_getElem?_getD,List.getElem?_eq_getElem hi] at this
  exact this
 ·intro h i hi
  have hi':=List.mem_range.mp hi
  rw [List.getD_eq_getElem?_getD,List.getElem?_eq_getElem hi']
  exact h _ (List.getElem_mem hi')
theorem su1 (hc:X.calm=true):CallR X (.builtin "all") (λ xs H Q=>∃ (p:Addr) (bs:List Bool),xs=[.ref p] /\ SqL X.K H p (bs.map V.bl) /\ Q (.bl (bs.all id)) H):=by
 intro pins s σ H xs us Q I r h
 obtain ⟨p,bs,rfl,hq,q⟩:=h
 obtain ⟨u,rfl,rx⟩:=te1 r
 cases rx
 obtain ⟨its,r',pl,hz⟩:=I.list hq
 have eu:=uz0 r'
 subst eu
 refine call_all_walk (wpAny_pyIter_list pl.isList ?_)
 have hlt:p < s.heap.objs.size:=by obtain ⟨o,ho,_⟩:=pl.isList; exact Heap.lt_size ho
 refine ⟨_,_,_,_,_,_,_,rfl,Walks.list (A:=X.A.in1) (I.ok.hd hc) _ p (Nat.ne_of_lt hlt) _,⟨⟨_,Heap.get?_push_size _ rfl,rfl,rfl⟩,pl.isList.at λ o e=>Heap.get?_push_of_some _ e⟩,xk1 _ _ _ bs,λ h' tk hk=>?_⟩
 have e:(bs.map Value.bool).toArray.size=bs.length:=by simp
 rw [e,yn1]
 refine ⟨.bl _,H,I.kept (t':=tk) λ b o eb=>hk b o ?_ (Heap.get?_push_of_some _ eb),rfl,q⟩
 intro z
 rw [List.mem_singleton] at z
 rw [z] at eb
 exact absurd (Heap.lt_size eb) (Nat.lt_irrefl _)
theorem RdC.bools {K:Fg} {f:List Bool->Bool} {r3:C3} (hr:∀ ds μ Q3,r3 ds μ Q3->∃ p l bs,ds=[.ref p] /\ μ p=some (.lst l) /\ bls? l=some bs /\ Q3 (.bl (f bs)) μ) :
    RdC K (λ xs H Q=>∃ (p:Addr) (bs:List Bool),xs=[.ref p] /\ SqL K H p (bs.map V.bl) /\ Q (.bl (f bs)) H) r3:=λ xs vs H Q μ Q3 m r h k=>by
 obtain ⟨p,l,bs,rfl,e,e1,q⟩:=hr _ _ _ h
 cases r with
 | cons r1 r2 =>
  cases r2
  cases r1
  obtain ⟨us,hv,rs⟩:=m p l e
  have ev:=wv1 rs e1
  subst ev
  exact ⟨p,bs,rfl,SqL.of hv,k _ _ _ _ q (Kp.refl _) (.bl _) m⟩
theorem sk2 (hc:X.calm=true:=by rfl):RC X (.builtin "all") allR:=by
 refine ⟨_,su1 hc,RdC.bools λ ds μ Q3 h=>?_⟩
 unfold allR at h
 split at h
 ·split at h
  ·next p _ l e =>
   split at h
   ·next bs e1=>exact ⟨p,l,bs,rfl,e,e1,h⟩
   ·exact h.elim
  ·exact h.elim
 ·exact h.elim
end
end Pv
namespace Pv
open PySem PySem.Spec PyProof.Rows L2
open PySem.AutoSeq1 (wpAny_loadPart')
section
variable {prog:Program} {w:World} {A:Around} {R:Result->Shared->Prop} {I:Addr} {fp wr:List Addr} {n:Nat} {P:Nat->Value->Prop} {St:Nat->Heap->Prop}
theorem sb2:(toString "min" ++ toString ".loop" : String) = "min.loop" := by decide
theorem yg2 (W:Walks prog w A.in1 I fp wr n P St) (S:Addr) (hSf:S ∉ fp) (s:Shared) (vb:Value) (c:Nat) (hst:St n s.heap)
    (hS:s.heap.get? S=some { cls:=.type "list",dict:=none,data:=.seq #[vb,vb] c,slots:=#[] })
    (hR:∀ h' tk,(∀ b o,b ∉ wr->b ≠ S->s.heap.get? b=some o->h'.get? b=some o)->R (.ok (.ret vb)) { s with heap:=h',toks:=tk }) :
    codeAny (model prog w) A (.builtin "min.loop" ⟨[.ref I,.none,.ref S],[]⟩) R s:=by
 have hSw:S ∉ wr:=λ h=>hSf (W.sub _ h)
 refine codeAny_builtin F.entry_min_loop ?_
 rw [Around.under_plainId F.plain_min_loop _]
 show wpAny _ A.in1 (seqItems? (.ref S) >>= _) _ _ s
 refine wpAny_bind (wpAny_seqItems hS rfl ?_)
 show wpAny _ A.in1 (tryCatch (pyNext (.ref I)) _ >>= _) _ _ s
 refine wpAny_bind (wpAny_tryCatch (W.done s _ _ hst λ h' tk hk'=>?_))
 have hS':=hk' S _ hSw hS
 show wpAny _ A.in1 (updateSeq S (λ _=>#[]) >>= _) _ _ _
 refine wpAny_bind ?_
 refine wpAny_updateSeq hS' rfl (wpAny_bind (wpAny_letGo (wpAny_pure ?_)))
 exact hR _ tk λ b o hbw hbS e=>(Heap.get?_update_other _ _ (Ne.symm hbS)).trans (hk' b o hbw e)
theorem yp2 (W:Walks prog w A.in1 I fp wr n P St) (S:Addr) (hSf:S ∉ fp) (s:Shared) (vb v0:Value) (r:Bool) (c j:Nat) (hlt:j < n) (hj:j + 1=n) (hst:St j s.heap) (hv:∀ v,P j v->v=v0)
    (hcmp:∀ (h':Heap) (tk:Nat) (Q:Value->Shared->Prop) (E:Value->Shared->Prop),(∀ b o,b ∉ wr->s.heap.get? b=some o->h'.get? b=some o)->Q (.bool r) { s with heap:=h',toks:=tk }->wpAny (model prog w) A.in1 (richCompare .Lt v0 vb) Q E { s with heap:=h',toks:=tk })
    (hS:s.heap.get? S=some { cls:=.type "list",dict:=none,data:=.seq #[vb,vb] c,slots:=#[] })
    (hR:∀ h' tk,(∀ b o,b ∉ wr->b ≠ S->s.heap.get? b=some o->h'.get? b=some o)->R (.ok (.ret (if r then v0 else vb))) { s with heap:=h',toks:=tk }) :
    codeAny (model prog w) A (.builtin "min.loop" ⟨[.ref I,.none,.ref S],[]⟩) R s:=by
 have hSw:S ∉ wr:=λ h=>hSf (W.sub _ h)
 refine codeAny_builtin F.entry_min_loop ?_
 rw [Around.under_plainId F.plain_min_loop _]
 show wpAny _ A.in1 (seqItems? (.ref S) >>= _) _ _ s
 refine wpAny_bind (wpAny_seqItems hS rfl ?_)
 show wpAny _ A.in1 (tryCatch (pyNext (.ref I)) _ >>= _) _ _ s
 refine wpAny_bind (wpAny_tryCatch (W.item j s _ _ hlt hst λ v h' tk hP hst' hk'=>?_))
 obtain rfl:=hv v hP
 have hS':=hk' S _ hSw hS
 show wpAny _ A.in1 (tryCatch (holding [v,v] (richCompare .Lt v vb >>= _)) _ >>= _) _ _ _
 refine wpAny_bind (wpAny_tryCatch (wpAny_holding (wpAny_bind (hcmp h' tk _ _ hk' ?_))))
 refine wpAny_bind (wpAny_holding (wpAny_truthy_bool ?_))
 refine wpAny_bind (wpAny_letGo (wpAny_pure ?_))
 cases r with
 | true =>
  simp only [if_true]
  refine wpAny_bind ?_
  refine wpAny_updateSeq hS' rfl (wpAny_bind (wpAny_letGo ?_))
  rw [sb2]
  refine wpAny_pure ⟨plainId_quiet F.plain_min_loop _,yg2 W S hSf _ v _ (hj ▸ W.frame _ _ _ hst' λ b hbf o e=>?_) (Heap.get?_update_self _ hS' rfl) λ h'' tk'' hk''=>?_⟩
  ·exact (Heap.get?_update_other _ _ (λ h:S=b=>hSf (by rw [h]; exact hbf))).trans e
  ·exact hR h'' tk'' λ b o hbw hbS e=>hk'' b o hbw hbS ((Heap.get?_update_other _ _ (Ne.symm hbS)).trans (hk' b o hbw e))
 | false =>
  simp only [Bool.false_eq_true,if_false]
  refine wpAny_bind (wpAny_letGo ?_)
  rw [sb2]
  refine wpAny_pure ⟨plainId_quiet F.plain_min_loop _,yg2 W S hSf _ vb c (hj ▸ hst') hS' λ h'' tk'' hk''=>?_⟩
  exact hR h'' tk'' λ b o hbw hbS e=>hk'' b o hbw hbS (hk' b o hbw e)
theorem wi3 (W:Walks prog w A.in1 I fp wr 2 P St) (S:Addr) (hSf:S ∉ fp) (s:Shared) (va vb:Value) (r:Bool) (c:Nat) (hst:St 0 s.heap) (hva:∀ v,P 0 v->v=va) (hvb:∀ v,P 1 v->v=vb)
    (hcmp:∀ (h':Heap) (tk:Nat) (Q:Value->Shared->Prop) (E:Value->Shared->Prop),(∀ b o,b ∉ wr->b ≠ S->s.heap.get? b=some o->h'.get? b=some o)->Q (.bool r) { s with heap:=h',toks:=tk }->wpAny (model prog w) A.in1 (richCompare .Lt vb va) Q E { s with heap:=h',toks:=tk })
    (hS:s.heap.get? S=some { cls:=.type "list",dict:=none,data:=.seq #[] c,slots:=#[] })
    (hR:∀ h' tk,(∀ b o,b ∉ wr->b ≠ S->s.heap.get? b=some o->h'.get? b=some o)->R (.ok (.ret (if r then vb else va))) { s with heap:=h',toks:=tk }) :
    codeAny (model prog w) A (.builtin "min.loop" ⟨[.ref I,.none,.ref S],[]⟩) R s:=by
 have hSw:S ∉ wr:=λ h=>hSf (W.sub _ h)
 refine codeAny_builtin F.entry_min_loop ?_
 rw [Around.under_plainId F.plain_min_loop _]
 show wpAny _ A.in1 (seqItems? (.ref S) >>= _) _ _ s
 refine wpAny_bind (wpAny_seqItems hS rfl ?_)
 show wpAny _ A.in1 (tryCatch (pyNext (.ref I)) _ >>= _) _ _ s
 refine wpAny_bind (wpAny_tryCatch (W.item 0 s _ _ (by decide) hst λ v h' tk hP hst' hk'=>?_))
 obtain rfl:=hva v hP
 have hS':=hk' S _ hSw hS
 show wpAny _ A.in1 (updateSeq S (λ _=>#[v,v]) >>= _) _ _ _
 refine wpAny_bind ?_
 refine wpAny_updateSeq hS' rfl ?_
 rw [sb2]
 have up:∀ (f:Obj->Obj) b o,b ∉ wr->b ≠ S->s.heap.get? b=some o->Heap.get? (h'.update S f) b=some o:=λ f b o hbw hbS e=>(Heap.get?_update_other _ _ (Ne.symm hbS)).trans (hk' b o hbw e)
 refine wpAny_pure ⟨plainId_quiet F.plain_min_loop _,yp2 W S hSf _ v vb r _ 1 (by decide) rfl (W.frame _ _ _ hst' λ b hbf o e=>?_) hvb (λ h2 tk2 Q E hk2 hq=>?_) (Heap.get?_update_self _ hS' rfl) λ h'' tk'' hk''=>?_⟩
 ·exact (Heap.get?_update_other _ _ (λ h:S=b=>hSf (by rw [h]; exact hbf))).trans e
 ·exact hcmp h2 tk2 Q E (λ b o hbw hbS e=>hk2 b o hbw (up _ b o hbw hbS e)) hq
 ·exact hR h'' tk'' λ b o hbw hbS e=>hk'' b o hbw hbS (up _ b o hbw hbS e)
end
section
variable {prog:Program} {w:World} {A:Around} {E:Value->Shared->Prop} {s:Shared}
theorem vh1 {va vb:Value} {r:Bool} {Q:Value->Shared->Prop} (hh:A.handled=none)
    (hcmp:∀ (h':Heap) (tk:Nat) (Q:Value->Shared->Prop) (E:Value->Shared->Prop),(∀ b o,s.heap.get? b=some o->h'.get? b=some o)->Q (.bool r) { s with heap:=h',toks:=tk }->wpAny (model prog w) A.in1 (richCompare .Lt vb va) Q E { s with heap:=h',toks:=tk })
    (h:∀ h' tk,(∀ c o,s.heap.get? c=some o->h'.get? c=some o)->Q (if r then vb else va) { s with heap:=h',toks:=tk }) :
    wpAny (model prog w) A (call (.builtin "min") [va,vb]) Q E s:=by
 refine call_function_tree F.kind_min F.plain_min F.entry_min (F.args_min2 _ _) ?_
 show wpAny _ A.in1 (Builtin.Builtins.bindParams "min" ["key", "default"] 0 ⟨[],[]⟩ >>= _) _ _ s
 refine wpAny_bind (wpAny_of_eq (show Builtin.Builtins.bindParams "min" ["key", "default"] 0 ⟨[],[]⟩=pure [none,none] from rfl) ?_)
 show wpAny _ A.in1 (newTuple [va,vb] >>= _) _ _ s
 refine wpAny_bind (wpAny_newObj_type ?_)
 have hT:(s.heap.push { cls:=.type "tuple",data:=.seq #[va,vb] }).IsTuple s.heap.objs.size #[va,vb]:=⟨_,Heap.get?_push_size _ rfl,rfl,0,rfl⟩
 refine wpAny_bind (wpAny_pyIter_tuple (s:={ s with heap:=s.heap.push { cls:=.type "tuple",data:=.seq #[va,vb] } }) hT ?_)
 have hsz:(s.heap.push { cls:=.type "tuple",data:=.seq #[va,vb] }).objs.size=s.heap.objs.size + 1:=Heap.size_push ..
 refine wpAny_bind (wpAny_newObj_type ?_)
 rw [sb2]
 have hsz2:((s.heap.push { cls:=.type "tuple",data:=.seq #[va,vb] }).push { cls:=.type "tuple_iterator",data:=.fields #[.ref s.heap.objs.size,.int 0 0] }).objs.size=s.heap.objs.size + 2:=by rw [Heap.size_push,hsz]
 have keep:∀ c o,s.heap.get? c=some o->Heap.get? (((s.heap.push { cls:=.type "tuple",data:=.seq #[va,vb] }).push { cls:=.type "tuple_iterator",data:=.fields #[.ref s.heap.objs.size,.int 0 0] }).push { cls:=.type "list",data:=.seq #[] }) c=some o:=λ c o e=>Heap.get?_push_of_some _ (Heap.get?_push_of_some _ (Heap.get?_push_of_some _ e))
 have off:∀ (c:Addr) (o:Obj),s.heap.get? c=some o->c ∉ [(s.heap.push { cls:=.type "tuple",data:=.seq #[va,vb] }).objs.size] /\ c ≠ ((s.heap.push { cls:=.type "tuple",data:=.seq #[va,vb] }).push { cls:=.type "tuple_iterator",data:=.fields #[.ref s.heap.objs.size,.int 0 0] }).objs.size:=λ c o e=>by
  have h1:=Heap.lt_size e
  rw [hsz2,hsz]
  refine ⟨λ hm=>?_,Nat.ne_of_lt (Nat.lt_succ_of_lt (Nat.lt_succ_of_lt h1))⟩
  rw [List.mem_singleton.mp hm] at h1
  exact absurd h1 (Nat.not_lt.mpr (Nat.le_succ _))
 refine wpAny_pure ⟨plainId_quiet F.plain_min_loop _,wi3 (Walks.tuple (A:=A.in1) hh _ s.heap.objs.size (by rw [hsz]; exact Nat.ne_of_lt (Nat.lt_succ_self _)) #[va,vb]) _ ?_ _ va vb r _ ?_ (λ v hP=>by simpa using hP.symm) (λ v hP=>by simpa using hP.symm) ?_ (Heap.get?_push_size _ rfl) ?_⟩
 ·rw [hsz2,hsz]
  simp
 ·exact ⟨⟨_,Heap.get?_push_of_some _ (Heap.get?_push_size _ rfl),rfl,rfl⟩,(hT.push _).push _⟩
 ·intro h' tk Q E hk hq
  exact hcmp h' tk Q E (λ c o e=>hk c o (off c o e).1 (off c o e).2 (keep c o e)) hq
 ·intro h' tk hk
  exact h h' tk λ c o e=>hk c o (off c o e).1 (off c o e).2 (keep c o e)
end
section
variable {X:Cx}
end
end Pv
namespace Pv
open PySem PySem.Spec PyProof.Rows L2
noncomputable def vl0 (cells:List (Str × Addr)):List (Str × NameKind)->List (Str × Addr)->List (Str × Addr)
 | [],acc=>acc
 | (n,k) :: r,acc=>if k == .free then vl0 cells r ((n,(cells.lookup n).getD 0) :: acc) else vl0 cells r acc
theorem us0 {scope:Scope} {env:Env} (h:∀ y ∈ scope.names,y.2=.free->(env.cells.lookup y.1).isSome=true):closureFor scope env=pure (vl0 env.cells scope.names []):=by
 unfold closureFor
 have key:∀ (l:List (Str × NameKind)) (acc:List (Str × Addr)),(∀ y ∈ l,y.2=.free->(env.cells.lookup y.1).isSome=true) ->
     (forIn l acc (λ x r=>if (x.2 == NameKind.free)=true then do let c <- cellOf env x.1; pure (ForInStep.yield ((x.1,c) :: r)) else pure (ForInStep.yield r)):Sem (List (Str × Addr)))=pure (vl0 env.cells l acc):=by
  intro l
  induction l with
  | nil=>intro acc _; rfl
  | cons y r ih =>
   intro acc hl
   obtain ⟨n,k⟩:=y
   rw [List.forIn_cons]
   have ih':=λ a=>ih a λ z hz=>hl z (List.mem_cons_of_mem _ hz)
   by_cases hk:k=.free
   ·subst hk
    have hs:=hl (n,.free) (List.mem_cons_self ..) rfl
    obtain ⟨c,hc⟩:=Option.isSome_iff_exists.mp hs
    have ec:cellOf env n=pure c:=by unfold cellOf; rw [hc]
    simp only [vl0,ec,pure_bind,beq_self_eq_true,if_true,hc,Option.getD_some]
    exact ih' _
   ·have hk':(k == NameKind.free)=false:=by simpa using hk
    simp only [vl0,hk',Bool.false_eq_true,if_false,pure_bind]
    exact ih' _
 have:=key scope.names [] h
 refine Eq.trans ?_ this
 refine Eq.trans (bind_pure (forIn scope.names ([]:List (Str × Addr)) _:Sem (List (Str × Addr)))) ?_
 congr 1
theorem vo0 {cells:List (Str × Addr)} {x:Str} {c:Addr}:∀ (l:List (Str × NameKind)) (acc:List (Str × Addr)),(∀ y ∈ l,y.2=.free->(cells.lookup y.1).isSome=true)->(acc.lookup x=some c->cells.lookup x=some c) ->
    (vl0 cells l acc).lookup x=some c->cells.lookup x=some c
 | [],acc,_,ha,h=>ha h
 | (n,k) :: r,acc,hl,ha,h=>by
  unfold vl0 at h
  split at h
  ·next hk =>
   refine vo0 r _ (λ z hz=>hl z (List.mem_cons_of_mem _ hz)) (λ h2=>?_) h
   rw [List.lookup_cons] at h2
   split at h2
   ·next e =>
    have e':x=n:=eq_of_beq e
    subst e'
    obtain ⟨c',hc⟩:=Option.isSome_iff_exists.mp (hl (x,k) (List.mem_cons_self ..) (eq_of_beq hk))
    rw [hc] at h2
    simp only [Option.getD_some,Option.some.injEq] at h2
    rw [hc,h2]
   ·exact ha h2
  ·exact vo0 r acc (λ z hz=>hl z (List.mem_cons_of_mem _ hz)) ha h
theorem uo0 {cells:List (Str × Addr)} {x:Str}:∀ (l:List (Str × NameKind)) (acc:List (Str × Addr)),((∃ c,acc.lookup x=some c) \/ (x,NameKind.free) ∈ l)->∃ c,(vl0 cells l acc).lookup x=some c
 | [],acc,h=>by
  rcases h with h | h
  ·exact h
  ·cases h
 | (n,k) :: r,acc,h=>by
  unfold vl0
  split
  ·next hk =>
   refine uo0 r _ ?_
   by_cases e:x=n
   ·subst e
    left
    exact ⟨(cells.lookup x).getD 0,by rw [List.lookup_cons]; simp⟩
   ·rcases h with ⟨c,h⟩ | h
    ·left
     refine ⟨c,?_⟩
     rw [List.lookup_cons]
     have:(x == n)=false:=by simpa using e
     rw [this]; exact h
    ·right
     rcases List.mem_cons.mp h with h | h
     ·exact absurd (congrArg Prod.fst h) e
     ·exact h
  ·next hk =>
   refine uo0 r acc ?_
   rcases h with h | h
   ·exact .inl h
   ·rcases List.mem_cons.mp h with h | h
    ·cases h; exact absurd rfl hk
    ·exact .inr h
theorem CompSc.free {X:Cx} {NN:List Str} {scope:Scope} {js:List (Option Nat)} (hcell:∀ y ∈ scope.names,y.2 ≠ .cell) (hk:scope.kind=.function) (hfn:X.env.scope.kind=.function)
    (hn:∀ y ∈ scope.names,y.2=.local->scope.names.lookup y.1=some .local) (hfree:∀ y ∈ scope.names,y.2=.free->X.env.scope.names.lookup y.1=some .cell) (hlook:∀ y ∈ scope.names,y.2=.free->scope.names.lookup y.1=some .free)
    (hcl:∀ x,X.env.scope.names.lookup x=some .cell->(X.env.cells.lookup x).isSome=true) (len:js.length=NN.length)
    (hout:∀ i ∈ List.range js.length,∀ j,js.getD i none=some j->∃ x,NN[i]?=some x /\ X.N[j]?=some x /\ scope.names.lookup x=some .free) :
    CompSc X NN scope (vl0 X.env.cells scope.names []) js where
 clos:=us0 λ y hy e=>hcl _ (hfree y hy e)
 cell:=hcell
 kind:=hk
 names:=hn
 sub:=λ x c h=>vo0 scope.names [] (λ y hy e=>hcl _ (hfree y hy e)) (λ h=>by simp at h) h
 has:=λ x h=>by
  refine uo0 scope.names [] (.inr ?_)
  have hm:∃ k,(x,k) ∈ scope.names /\ (k=.free \/ k=.cell):=by
   have key:∀ kk,(relabel scope X.env).names.lookup x=some kk->(kk=.cell \/ kk=.free)->∃ k,(x,k) ∈ scope.names /\ (k=.free \/ k=.cell):=λ kk hkk hc=>by
    have hmem:=wg0 hkk
    obtain ⟨⟨n,k⟩,hy,e⟩:=List.mem_map.mp hmem
    dsimp only at e
    split at e
    ·next hq =>
     cases e
     simp only [Bool.and_eq_true] at hq
     exact ⟨k,hy,.inl (by simpa using hq.1.1)⟩
    ·cases e
     exact ⟨kk,hy,hc.symm⟩
   rcases h with h | h
   ·exact key _ h (.inl rfl)
   ·exact key _ h (.inr rfl)
  obtain ⟨k,hk1,hk2⟩:=hm
  rcases hk2 with rfl | rfl
  ·exact hk1
  ·exact absurd rfl (hcell _ hk1)
 len:=len
 out:=λ i j h=>by
  have hi:i < js.length:=by
   rcases Nat.lt_or_ge i js.length with z | z
   ·exact z
   ·rw [List.getElem?_eq_none z] at h; cases h
  obtain ⟨x,e1,e2,e3⟩:=hout i (List.mem_range.mpr hi) j (by rw [List.getD_eq_getElem?_getD,h]; rfl)
  have hf:=hfree (x,.free) (wg0 e3) rfl
  refine ⟨x,e1,e2,.inr (.inl hf),by rw [hf]; simp,?_⟩
  left
  have key:∀ (l:List (Str × NameKind)),l.lookup x=some .free->(l.map λ (n,k)=>if (k == NameKind.free && X.env.scope.kind == .function && X.env.kindOf n == some .cell) then (n,NameKind.cell) else (n,k)).lookup x=some .cell:=λ l=>by
   induction l with
   | nil=>intro h; simp at h
   | cons y r ih =>
    obtain ⟨n,k⟩:=y
    intro h
    rw [List.lookup_cons] at h
    rw [List.map_cons,List.lookup_cons]
    by_cases e:x=n
    ·subst e
     simp only [beq_self_eq_true,Option.some.injEq] at h
     subst h
     have hkind:(X.env.kindOf x == some NameKind.cell)=true:=by
      show (X.env.scope.names.lookup x == some NameKind.cell)=true
      rw [hf]; rfl
     simp [hfn,hkind]
    ·have e':(x == n)=false:=by simpa using e
     rw [e'] at h
     have ih':=ih h
     by_cases hq:(k == NameKind.free && X.env.scope.kind == ScopeKind.function && X.env.kindOf n == some NameKind.cell)=true
     ·simp only [hq,if_true,e']; exact ih'
     ·simp only [hq,Bool.false_eq_true,if_false,e']; exact ih'
  exact key _ e3
theorem wo0 {CX:CXT} {P:Program} {w:World} {K:Fg} {mg:Str->Option Value} {base:Heap} {N:List Str} {qual:Str} {sc:Scope} {f:Addr} {cdv:Value} {A:Around} {outer:List Env} {s:Shared} {H:Hp} {E:XK} {NN:List Str} {scope:Scope} {js:List (Option Nat)}
    (hcell:∀ y ∈ scope.names,y.2 ≠ .cell:=by decide +kernel) (hk:scope.kind=.function:=by rfl) (hfn:sc.kind=.function:=by rfl)
    (hn:∀ y ∈ scope.names,y.2=.local->scope.names.lookup y.1=some .local:=by decide +kernel) (hfree:∀ y ∈ scope.names,y.2=.free->sc.names.lookup y.1=some .cell:=by decide +kernel)
    (hlook:∀ y ∈ scope.names,y.2=.free->scope.names.lookup y.1=some .free:=by decide +kernel) (len:js.length=NN.length:=by rfl)
    (hout:∀ i ∈ List.range js.length,∀ j ∈ (js.getD i none).toList,∃ x ∈ NN[i]?.toList,N[j]?=some x /\ scope.names.lookup x=some .free:=by decide +kernel) :
    CompSc (cxOf CX P w K mg base N qual sc f cdv A outer s H E).nox NN scope (vl0 (cxOf CX P w K mg base N qual sc f cdv A outer s H E).nox.env.cells scope.names []) js :=
 CompSc.free (X:=(cxOf CX P w K mg base N qual sc f cdv A outer s H E).nox) hcell hk hfn hn hfree hlook (λ x h=>by
  obtain ⟨c,hc⟩:=ts0 (n:=_) h
  exact Option.isSome_iff_exists.mpr ⟨c,hc⟩) len λ i hi j hj=>by
   obtain ⟨x,h1,h2,h3⟩:=hout i hi j (by rw [hj]; simp)
   exact ⟨x,by simpa using h1,h2,h3⟩
end Pv
namespace Pv
open PySem
noncomputable def maxR:C3:=λ ds μ Q=>match ds with
 | [.int i,.int j]=>Q (.int (if j > i then j else i)) μ
 | _=>False
end Pv
namespace Pv
open PySem PySem.Spec PyProof.Rows L2
section
variable {X:Cx}
theorem ts3 (hc:X.calm=true):RC X (.builtin "max") maxR:=by
 refine ⟨_,tu1 hc,λ xs vs H Q μ Q3 m r h k=>?_⟩
 cases r with
 | nil=>exact False.elim h
 | cons r1 r2 =>
  cases r1 with
  | int i =>
   cases r2 with
   | nil=>exact False.elim h
   | cons r2 r3 =>
    cases r2 with
    | int j =>
     cases r3 with
     | nil=>exact ⟨i,j,rfl,k _ _ _ _ h (Kp.refl _) (.int _) m⟩
     | cons _ _=>exact False.elim h
    | _=>exact False.elim h
  | _=>exact False.elim h
end
end Pv
namespace L2
open PySem PySem.Spec PyProof.Rows
section
variable {κ:Type} [DecidableEq κ]
noncomputable def valV (kvs:List (κ × V)) (k:κ):Option V:=(kvs.find? λ kv=>decide (kv.1=k)).map (·.2)
noncomputable def putK (kvs:List (κ × V)) (k:κ) (v:V):List (κ × V) :=
 if (kvs.any λ kv=>decide (kv.1=k))=true then kvs.map (λ kv=>if kv.1=k then (kv.1,v) else kv) else kvs ++ [(k,v)]
theorem ul0 {p:κ × V} {r:List (κ × V)} {k:κ} (e:p.1=k):valV (p :: r) k=some p.2:=by simp [valV,List.find?_cons,e]
theorem tl0 {p:κ × V} {r:List (κ × V)} {k:κ} (e:¬ p.1=k):valV (p :: r) k=valV r k:=by simp [valV,List.find?_cons,e]
theorem uq0 (k:κ):∀ kvs:List (κ × V),(kvs.any λ kv=>decide (kv.1=k))=(valV kvs k).isSome
 | []=>rfl
 | p :: r=>by
  rw [List.any_cons]
  by_cases e:p.1=k
  ·simp only [ul0 e,decide_eq_true e,Bool.true_or,Option.isSome_some]
  ·rw [tl0 e,decide_eq_false e,Bool.false_or]; exact uq0 k r
theorem wi0 (kvs:List (κ × V)) (k:κ) (v:V):(putK kvs k v).length<=kvs.length + 1:=by
 unfold putK
 split
 ·rw [List.length_map]; omega
 ·rw [List.length_append,List.length_cons,List.length_nil]; omega
theorem RelO.isSome_eq {o:Option V} {u:Option Value} (r:RelO o u):o.isSome=u.isSome:=by
 cases o with
 | none=>cases u with
  | none=>rfl
  | some _=>exact (show False from r).elim
 | some _=>cases u with
  | none=>exact (show False from r).elim
  | some _=>rfl
theorem RelO.getD {o:Option V} {u:Option Value} {d:V} {d':Value} (r:RelO o u) (rd:RelV d d'):RelV (o.getD d) (u.getD d'):=by
 cases o with
 | none=>cases u with
  | none=>exact rd
  | some _=>exact (show False from r).elim
 | some _=>cases u with
  | none=>exact (show False from r).elim
  | some _=>exact r
theorem KV.val {kvs:List (κ × V)} {vs:List (κ × Value)} (r:KV kvs vs) (k:κ):RelO (valV kvs k) (valueAt vs k):=by
 unfold KV at r
 induction r with
 | nil=>exact True.intro
 | @cons p q ps qs h t ih =>
  obtain ⟨h1,h2⟩:=h
  by_cases e:p.1=k
  ·have e':q.1=k:=h1.symm.trans e
   have b:valueAt (q :: qs) k=some q.2:=by simp [valueAt,List.find?_cons,e']
   rw [ul0 e,b]; exact h2
  ·have e':¬ q.1=k:=λ z=>e (h1.trans z)
   have b:valueAt (q :: qs) k=valueAt qs k:=by simp [valueAt,List.find?_cons,e']
   rw [tl0 e,b]; exact ih
theorem KV.any {kvs:List (κ × V)} {vs:List (κ × Value)} (r:KV kvs vs) (k:κ):(kvs.any λ kv=>decide (kv.1=k))=vs.any λ kv=>decide (kv.1=k):=by
 unfold KV at r
 induction r with
 | nil=>rfl
 | cons h t ih=>rw [List.any_cons,List.any_cons,ih,h.1]
theorem KV.repl {kvs:List (κ × V)} {vs:List (κ × Value)} (r:KV kvs vs) (k:κ) {y:V} {u:Value} (ry:RelV y u) :
    KV (kvs.map λ kv=>if kv.1=k then (kv.1,y) else kv) (vs.map λ kv=>if kv.1=k then (kv.1,u) else kv):=by
 unfold KV at r ⊢
 induction r with
 | nil=>exact .nil
 | @cons p q ps qs h t ih =>
  rw [List.map_cons,List.map_cons]
  refine .cons ?_ ih
  obtain ⟨h1,h2⟩:=h
  by_cases e:p.1=k
  ·rw [if_pos e,if_pos (h1.symm.trans e)]; exact ⟨h1,ry⟩
  ·rw [if_neg e,if_neg (λ z=>e (h1.trans z))]; exact ⟨h1,h2⟩
theorem KV.put {kvs:List (κ × V)} {vs:List (κ × Value)} (r:KV kvs vs) (k:κ) {y:V} {u:Value} (ry:RelV y u):KV (putK kvs k y) (stored vs k u):=by
 unfold putK stored
 rw [r.any k]
 by_cases e:(vs.any λ kv=>decide (kv.1=k))=true
 ·rw [if_pos e,if_pos e]; exact r.repl k ry
 ·rw [if_neg e,if_neg e]; exact Paired.snoc r ⟨rfl,ry⟩
theorem KV.length {kvs:List (κ × V)} {vs:List (κ × Value)} (r:KV kvs vs):kvs.length=vs.length:=Paired.length r
end
theorem zi1 {P:Program} {w:World} {k:Key} {u:Value} (r:RelV (kV k) u):(xe0 P w).is k u=true:=by
 cases k with
 | inl i=>obtain ⟨t,e⟩:=(show ∃ t,u=Value.int i t from r); subst e; exact wy0 P w i t
 | inr x=>obtain ⟨t,e⟩:=(show ∃ t,u=Value.str x t from r); subst e; exact zy0 P w x t
theorem yv0 {P:Program} {w:World}:∀ {ks:List Key} {us:List Value},Vals (ks.map kV) us->ItemsAre (xe0 P w) ks us
 | [],_,r=>by rw [List.map_nil] at r; cases r; exact .nil
 | k :: ks,_,r=>by
  rw [List.map_cons] at r
  cases r with
  | cons h t=>exact .cons (zi1 h) (yv0 t)
noncomputable abbrev KT (H:Hp):List (List Key × V)->List (List Key × Addr × Value)->Prop:=Paired λ p q=>p.1=q.1 /\ H q.2.1=some (.tup (p.1.map kV)) /\ RelV p.2 q.2.2
theorem KT.val {H:Hp} {kvs:List (List Key × V)} {xs:List (List Key × Addr × Value)} (r:KT H kvs xs) (k:List Key):RelO (valV kvs k) ((atKey xs k).map (·.2)):=by
 induction r with
 | nil=>exact True.intro
 | @cons p q ps qs h t ih =>
  obtain ⟨h1,_,h2⟩:=h
  by_cases e:p.1=k
  ·have e':q.1=k:=h1.symm.trans e
   have b:atKey (q :: qs) k=some q.2:=by simp [atKey,List.find?_cons,e']
   rw [ul0 e,b]; exact h2
  ·have e':¬ q.1=k:=λ z=>e (h1.trans z)
   have b:atKey (q :: qs) k=atKey qs k:=by simp [atKey,List.find?_cons,e']
   rw [tl0 e,b]; exact ih
theorem KT.repl {H:Hp} {kvs:List (List Key × V)} {xs:List (List Key × Addr × Value)} (r:KT H kvs xs) (k:List Key) {y:V} {u:Value} (ry:RelV y u) :
    KT H (kvs.map λ kv=>if kv.1=k then (kv.1,y) else kv) (xs.map (putAt k u)):=by
 induction r with
 | nil=>exact .nil
 | @cons p q ps qs h t ih =>
  rw [List.map_cons,List.map_cons]
  refine .cons ?_ ih
  obtain ⟨h1,h2,h3⟩:=h
  unfold putAt
  by_cases e:p.1=k
  ·rw [if_pos e,if_pos (h1.symm.trans e)]; exact ⟨h1,h2,ry⟩
  ·rw [if_neg e,if_neg (λ z=>e (h1.trans z))]; exact ⟨h1,h2,h3⟩
theorem KT.put {H:Hp} {kvs:List (List Key × V)} {xs:List (List Key × Addr × Value)} (r:KT H kvs xs) (k:List Key) {b:Addr} {y:V} {u:Value} (hb:H b=some (.tup (k.map kV))) (ry:RelV y u) :
    KT H (putK kvs k y) (storedH xs k b u):=by
 have e:(kvs.any λ kv=>decide (kv.1=k))=(atKey xs k).isSome:=by
  rw [uq0,(r.val k).isSome_eq,Option.isSome_map]
 unfold putK storedH
 rw [e]
 by_cases q:(atKey xs k).isSome=true
 ·rw [if_pos q,if_pos q]; exact r.repl k ry
 ·rw [if_neg q,if_neg q]; exact Paired.snoc r ⟨rfl,hb,ry⟩
theorem KT.keeps {H H':Hp} {kvs:List (List Key × V)} {xs:List (List Key × Addr × Value)} (r:KT H kvs xs) (ht:∀ b ys,H b=some (.tup ys)->H' b=some (.tup ys)):KT H' kvs xs :=
 Paired.mapP r λ _ _ z=>⟨z.1,ht _ _ z.2.1,z.2.2⟩
section
variable {prog:Program} {w:World} {K:Type} [DecidableEq K] {knd:HeapKind prog w K} {A:Around} {E:Value->Shared->Prop} {s:Shared}
noncomputable def DHe (knd:HeapKind prog w K) (h:Heap) (d:Addr) (xs:List (K × Addr × Value)) (ep:Nat):Prop :=
 ∃ o es,h.get? d=some o /\ o.ExactDict /\ o.data=.dict es ep /\ es.toList=xs.map (entryOfKey knd) /\ (∀ x ∈ xs,knd.is h x.1 x.2.1) /\ (xs.map (·.1)).Nodup
theorem DHe.of {h:Heap} {d:Addr} {xs:List (K × Addr × Value)} {ep:Nat} (x:DHe knd h d xs ep):h.DictOfH knd d xs:=by
 obtain ⟨o,es,a⟩:=x; exact ⟨o,es,ep,a⟩
theorem DHe.new {d a:Addr} {xs:List (K × Addr × Value)} {k:K} {v:Value} {o:Obj} {es:Array DictEntry} {ep:Nat} {hs:Int} (ho:s.heap.get? d=some o) (hc:o.ExactDict) (hd:o.data=.dict es ep) (he:es.toList=xs.map (entryOfKey knd))
    (his:∀ x ∈ xs,knd.is s.heap x.1 x.2.1) (hn:(xs.map (·.1)).Nodup) (hkey:knd.is s.heap k a) (hno:∀ (j:Nat) (p:Addr × Value),xs[j]? ≠ some (k,p)) (eh:entryOfKey knd (k,a,v)=⟨hs,.ref a,v⟩) :
    DHe knd (s.heap.update d (Obj.mapDictKeys (·.push ⟨hs,.ref a,v⟩))) d (storedH xs k a v) (ep + 1):=by
 have hnot:k ∉ xs.map (·.1):=not_mem_keys_of_get hno
 rw [storedH_new (atKey_none_of_get hno)]
 refine ⟨_,_,Heap.get?_update_self _ ho (Obj.isFreed_of_dict (Obj.data_mapDictKeys hd _)),hc.mapDictKeys _,Obj.data_mapDictKeys hd _,by simp [he,eh],λ c mc=>?_,?_⟩
 ·rcases List.mem_append.mp mc with mc | mc; · exact knd.keeps (his c mc) ho hd (Heap.SameBut.update ..)
  rw [List.mem_singleton] at mc; subst mc; exact knd.keeps hkey ho hd (Heap.SameBut.update ..)
 ·rw [List.map_append,List.nodup_append]; refine ⟨hn,by simp,λ c mc c' mc'=>?_⟩
  have e':c'=k:=by simpa using mc'
  subst e'; exact λ e=>hnot (e ▸ mc)
theorem tw2 {d a:Addr} {xs:List (K × Addr × Value)} {k:K} {v:Value} {ep:Nat} {Q:Unit->Shared->Prop} (hu:knd.room A.in1) (hkey:knd.is s.heap k a) (hm:DHe knd s.heap d xs ep) (hsz:xs.length<=sizeLine)
    (hQ:∀ h' ep',ep'=(if (atKey xs k).isSome then ep else ep + 1)->DHe knd h' d (storedH xs k a v) ep'->Heap.SameBut d s.heap h'->Q () { s with heap:=h',toks:=s.toks + knd.draws k }) :
    wpAny (model prog w) A (setItem (.ref d) (.ref a) v) Q E s:=by
 have ty:=hm.of.typeIs
 obtain ⟨o,es,ho,hc,hd,he,his,hn⟩:=hm
 unfold setItem; try with_reducible refine wpAny_holding ?_
 refine wpAny_bind (wpAny_sequenceKey ty (by decide) (wpAny_bind (wpAny_callSpecial?_slot (name:=Str.ofString "__setitem__") ty slot_dict_setitem (wpAny_call_entry slot_dict_setitem ty entry_dict_setitem ?_ (args_dict_setitem _ _ _)))))
 refine (show wpAny _ _ (Builtin.Dict.notOrdered "__setitem__" ⟨[.ref d,.ref a,v],[]⟩ >>= _) _ _ s from wpAny_bind (wpAny_notOrdered_dict ty ?_))
 refine (show wpAny _ _ (dictSet d (.ref a) v >>= _) _ _ s from wpAny_bind ?_)
 unfold dictSet; try with_reducible refine wpAny_holding ?_
 refine wpAny_bind (knd.pyHash hu hkey ?_); unfold dictSetHashed; try with_reducible refine wpAny_holding ?_
 refine wpAny_bind (wpAny_dictFind_heap (s:={ s with toks:=s.toks + knd.draws k }) hu hkey ho hd he his hn (λ hno=>?_) λ j p hj=>?_)
 ·refine wpAny_bind (wpAny_rule (wpAny_updateDictKeys (hz:=by have e:=size_of_entries he; omega) (s:={ s with toks:=s.toks + knd.draws k }) ho hd (wpAny_pure ⟨.none,rfl,wpAny_pure (hQ _ (ep + 1) (by rw [atKey_none_of_get hno]; rfl) (DHe.new ho hc hd he his hn hkey hno rfl) (Heap.SameBut.update ..))⟩)))
 ·have ak:=atKey_of_get hn hj
  refine wpAny_bind (wpAny_rule (wpAny_bind (wpAny_updateDict (s:={ s with toks:=s.toks + knd.draws k }) ho hd (wpAny_point (wpAny_pure ⟨.none,rfl,wpAny_pure (hQ _ ep (by rw [ak]; rfl) ⟨_,_,Heap.get?_update_self _ ho (Obj.isFreed_of_dict (Obj.data_mapDict hd _)),hc.mapDict _,Obj.data_mapDict hd _,?_,?_,?_⟩ (Heap.SameBut.update ..))⟩)))))
  ·rw [storedH_old ak]; have z:=modify_map_putAt (entryOfKey knd) (λ e:DictEntry=>{ e with val:=v }) k v (λ _ _=>rfl) hn hj
   rw [<- he] at z; obtain ⟨l⟩:=es; simpa using z
  ·rw [storedH_old ak]; intro c mc; obtain ⟨y,my,rfl⟩:=List.mem_map.mp mc; unfold putAt; split <;> exact knd.keeps (his y my) ho hd (Heap.SameBut.update ..)
  ·rw [storedH_old ak,keys_map_putAt]; exact hn
theorem ul1 {d a:Addr} {xs:List (K × Addr × Value)} {k:K} {v:Value} {ep:Nat} {Q:Value->Shared->Prop} (hu:knd.room A) (hkey:knd.is s.heap k a) (hm:DHe knd s.heap d xs ep) (hsz:xs.length<=sizeLine)
    (h1:∀ p,atKey xs k=some p->Q p.2 { s with toks:=s.toks + knd.draws k })
    (h2:atKey xs k=none->∀ h',DHe knd h' d (storedH xs k a v) (ep + 1)->Heap.SameBut d s.heap h'->Q v { s with heap:=h',toks:=s.toks + knd.draws k }) :
    wpAny (model prog w) A (dictSetDefault d (.ref a) v) Q E s:=by
 obtain ⟨o,es,ho,hc,hd,he,his,hn⟩:=hm
 unfold dictSetDefault; try with_reducible refine wpAny_holding ?_
 refine wpAny_bind (knd.pyHash hu hkey (wpAny_bind (wpAny_dictFind_heap (s:={ s with toks:=s.toks + knd.draws k }) hu hkey ho hd he his hn (λ hno=>?_) λ j p hj=>?_)))
 ·exact wpAny_bind (wpAny_rule (wpAny_bind (wpAny_updateDictKeys (hz:=by have e:=size_of_entries he; omega) (s:={ s with toks:=s.toks + knd.draws k }) ho hd (wpAny_pure (h2 (atKey_none_of_get hno) _ (DHe.new ho hc hd he his hn hkey hno rfl) (Heap.SameBut.update ..))))))
 ·refine wpAny_bind (wpAny_dictEntries (s:={ s with toks:=s.toks + knd.draws k }) ho hd ?_); rw [entry_at he j,hj]
  exact wpAny_bind (wpAny_rule (wpAny_pure (h1 p (atKey_of_get hn hj))))
end
theorem zq1 {κ:Type} [DecidableEq κ] (kvs:List (κ × V)) (k:κ) (v:V):(putK kvs k v).length=if (valV kvs k).isSome then kvs.length else kvs.length + 1:=by
 unfold putK; rw [uq0]; split <;> simp
section
variable {P:Program} {w:World} {H:Hp} {h:Heap} {a:Addr}
theorem uc3 {u:HO} (ok:HOk P w H h) (e:Rd H a u):ObjOk P w H h a u:=e.ok ok
theorem ti1 {kvs:List (Key × V)} (ok:HOk P w H h) (e:Rd H a (.dK kvs)):kvs.length<=sizeLine /\ (a == sysModules)=false /\ ∃ vs,KV kvs vs /\ h.DictOf (xe0 P w) a vs :=
 show ObjOk P w H h a (.dK kvs) from uc3 ok e
theorem ww3 {kvs:List (Key × V)} (ok:HOk P w H h) (e:H a=some (.dK kvs)):kvs.length<=sizeLine /\ (a == sysModules)=false /\ ∃ vs,KV kvs vs /\ h.DictOf (xe0 P w) a vs:=ti1 ok (.inl e)
theorem un0 {ks:List Key} (ok:HOk P w H h) (e:H a=some (.tup (ks.map kV))):(tupleKind (xe0 P w)).is h ks a:=by
 obtain ⟨_,its,r,o,h1,h2,n,h3⟩:=(show ObjOk P w H h a (.tup (ks.map kV)) from ok a _ e)
 exact ⟨o,its.toArray,n,h1,h2,h3,by simpa using yv0 r⟩
theorem ui1 {kvs:List (List Key × V)} (ok:HOk P w H h) (e:Rd H a (.dT kvs)):kvs.length<=sizeLine /\ (a == sysModules)=false ∧
    ∃ xs,KT H kvs xs /\ DHe (tupleKind (xe0 P w)) h a xs kvs.length:=by
 obtain ⟨z,y,xs,r,o,es,ep,h1,h2,h3,h4,h5,h6⟩:=(show ObjOk P w H h a (.dT kvs) from uc3 ok e)
 subst h6
 refine ⟨z,y,xs,r,o,es,h1,h2,h3,h4,λ x hx=>?_,h5⟩
 have all:∀ {l:List (List Key × V)} {m:List (List Key × Addr × Value)},KT H l m->∀ x ∈ m,(tupleKind (xe0 P w)).is h x.1 x.2.1:=by
  intro l m q
  induction q with
  | nil=>intro x hx; exact nomatch hx
  | @cons p q ps qs hq t ih =>
   intro x hx
   rcases List.mem_cons.mp hx with e | hx
   ·subst e
    exact un0 ok (by rw [<- hq.1]; exact hq.2.1)
   ·exact ih x hx
 exact all r x hx
theorem ws1 {kvs:List (List Key × V)} (ok:HOk P w H h) (e:Rd H a (.dT kvs)):kvs.length<=sizeLine /\ (a == sysModules)=false /\ ∃ xs,KT H kvs xs /\ h.DictOfH (tupleKind (xe0 P w)) a xs:=by
 obtain ⟨z,y,xs,r,d⟩:=ui1 ok e; exact ⟨z,y,xs,r,d.of⟩
end
noncomputable def DGet (H:Hp) (a:Addr) (y:V) (r:Option V):Prop :=
 (∃ kvs k,Rd H a (.dK kvs) /\ y=kV k /\ r=valV kvs k) \/ ∃ kvs k b,Rd H a (.dT kvs) /\ y=.ref b /\ H b=some (.tup (k.map kV)) /\ r=valV kvs k
noncomputable def DPut (H:Hp) (a:Addr) (y v:V) (H':Hp):Prop :=
 (∃ kvs k,H a=some (.dK kvs) /\ y=kV k /\ kvs.length < sizeLine /\ H'=upd H a (.dK (putK kvs k v))) ∨
 ∃ kvs k b,H a=some (.dT kvs) /\ y=.ref b /\ H b=some (.tup (k.map kV)) /\ kvs.length < sizeLine /\ H'=upd H a (.dT (putK kvs k v))
theorem DGet.t {H:Hp} {a b:Addr} {kvs:List (List Key × V)} {k:List Key} (e:H a=some (.dT kvs)) (eb:H b=some (.tup (k.map kV))):DGet H a (.ref b) (valV kvs k):=.inr ⟨kvs,k,b,.inl e,rfl,eb,rfl⟩
theorem DPut.t {H:Hp} {a b:Addr} {kvs:List (List Key × V)} {k:List Key} {v:V} (e:H a=some (.dT kvs)) (eb:H b=some (.tup (k.map kV))) (hl:kvs.length < sizeLine) :
    DPut H a (.ref b) v (upd H a (.dT (putK kvs k v))):=.inr ⟨kvs,k,b,e,rfl,eb,hl,rfl⟩
section
variable {X:Cx} {pins:List (Addr × Obj)} {σ:St} {H:Hp} {s:Shared} {a:Addr} {y v:V} {u r:Value} {o:Option V} {A:Around} {E:Value->Shared->Prop}
theorem Inv.big (I:Inv X pins σ H s):sysModules < s.heap.objs.size:=by
 have h:mainGlobals < s.heap.objs.size:=(I.mod.glob.keeps I.bk).lt
 exact Nat.lt_trans (by decide) h
theorem ut1 {Q:Value->Shared->Prop} (hu:A.units + 1 < cLine) (I:Inv X pins σ H s) (g:DGet H a y (some v)) (ry:RelV y u) (h:∀ w' s',Inv X pins σ H s'->RelV v w'->Q w' s') :
    wpAny (model X.prog X.w) A (getItem (.ref a) u) Q E s:=by
 rcases g with ⟨kvs,k,e,ey,l⟩ | ⟨kvs,k,b,e,ey,eb,l⟩
 ·subst ey
  obtain ⟨z,hd,vs,rel,dd⟩:=ti1 I.hok e
  obtain ⟨w',hw,rw'⟩:=RelO.some_of (v:=v) (o:=valueAt vs k) (by rw [l]; exact rel.val k)
  exact wpAny_getItem_of (zi1 ry) dd.mapOf hw (h w' _ (I.tok _) rw')
 ·subst ey
  cases (show u=Value.ref b from ry)
  obtain ⟨z,hd,xs,rel,dd⟩:=ws1 I.hok e
  obtain ⟨w',hw,rw'⟩:=RelO.some_of (v:=v) (o:=(atKey xs k).map (·.2)) (by rw [l]; exact rel.val k)
  obtain ⟨p,hp,hp2⟩:=Option.map_eq_some_iff.mp hw
  refine wpAny_getItem_heap (tupleKind_room_in1 hu) (un0 I.hok eb) dd hp ?_
  rw [hp2]
  exact h w' _ (I.tok _) rw'
theorem d_in {Q:Value->Shared->Prop} (hu:A.units + 1 < cLine) (I:Inv X pins σ H s) (g:DGet H a y o) (ry:RelV y u) (h:∀ s',Inv X pins σ H s'->Q (.bool o.isSome) s') :
    wpAny (model X.prog X.w) A (compareOp .In u (.ref a)) Q E s:=by
 rcases g with ⟨kvs,k,e,ey,l⟩ | ⟨kvs,k,b,e,ey,eb,l⟩
 ·subst ey
  obtain ⟨z,hd,vs,rel,dd⟩:=ti1 I.hok e
  refine wpAny_in_of (zi1 ry) hd dd.mapOf ?_
  rw [<- (rel.val k).isSome_eq,<- l]
  exact h _ (I.tok _)
 ·subst ey
  cases (show u=Value.ref b from ry)
  obtain ⟨z,hd,xs,rel,dd⟩:=ws1 I.hok e
  refine wpAny_in_heap (tupleKind_room_in1 hu) (un0 I.hok eb) hd dd ?_
  have q:=(rel.val k).isSome_eq
  rw [Option.isSome_map] at q
  rw [<- q,<- l]
  exact h _ (I.tok _)
theorem sq2 {Q:Value->Shared->Prop} (hu:A.units + 1 < cLine) (I:Inv X pins σ H s) (g:DGet H a y o) (ry:RelV y u) (h:∀ s',Inv X pins σ H s'->Q (.bool (!o.isSome)) s') :
    wpAny (model X.prog X.w) A (compareOp .NotIn u (.ref a)) Q E s:=by
 rcases g with ⟨kvs,k,e,ey,l⟩ | ⟨kvs,k,b,e,ey,eb,l⟩
 ·subst ey
  obtain ⟨z,hd,vs,rel,dd⟩:=ti1 I.hok e
  refine wpAny_notIn_of (zi1 ry) hd dd.mapOf ?_
  rw [<- (rel.val k).isSome_eq,<- l]
  exact h _ (I.tok _)
 ·subst ey
  cases (show u=Value.ref b from ry)
  obtain ⟨z,hd,xs,rel,dd⟩:=ws1 I.hok e
  refine wpAny_notIn_heap (tupleKind_room_in1 hu) (un0 I.hok eb) hd dd ?_
  have q:=(rel.val k).isSome_eq
  rw [Option.isSome_map] at q
  rw [<- q,<- l]
  exact h _ (I.tok _)
theorem yz0 {h':Heap} {t':Nat} {ob:HO} (I:Inv X pins σ H s) (mu:Mut (H a)) (hs:Heap.SameBut a s.heap h') (he:∃ q,h'.get? a=some q) (new:ObjOk X.prog X.w (upd H a ob) h' a ob) :
    Inv X pins σ (upd H a ob) { s with heap:=h',toks:=t' } :=
 I.write (x:=a) (e:=a) mu (.inl rfl) (λ b q hb z=>(hs.2 b hb).trans z) he new
theorem ym3 {P:Program} {w:World} {H':Hp} {h':Heap} {kvs:List (Key × V)} {vs:List (Key × Value)} (z:kvs.length<=sizeLine) (hd:(a == sysModules)=false) (rel:KV kvs vs) (dd:h'.DictOf (xe0 P w) a vs) :
    ObjOk P w H' h' a (.dK kvs):=⟨z,hd,vs,rel,dd⟩
theorem vt1 {H':Hp} {Q:Unit->Shared->Prop} (hu:A.units + 1 < cLine) (I:Inv X pins σ H s) (g:DPut H a y v H') (ry:RelV y u) (rv:RelV v r) (h:∀ s',Inv X pins σ H' s'->Q () s') :
    wpAny (model X.prog X.w) A (setItem (.ref a) u r) Q E s:=by
 rcases g with ⟨kvs,k,e,ey,l,eH⟩ | ⟨kvs,k,b,e,ey,eb,l,eH⟩
 ·subst ey eH
  obtain ⟨z,hd,vs,rel,dd⟩:=ww3 I.hok e
  have hz:vs.length<=sizeLine:=by rw [<- rel.length]; exact z
  have hl:(putK kvs k v).length<=sizeLine:=by have:=wi0 kvs k v; omega
  refine wpAny_setItem_pairs (hsz:=hz) (zi1 ry) dd λ h' dd' hs=>h _ ?_
  have he:∃ q,h'.get? a=some q:=let ⟨q,_,_,hq,_⟩:=dd'; ⟨q,hq⟩
  exact yz0 I (by rw [e]; exact True.intro) hs he (ym3 hl hd (rel.put k rv) dd')
 ·subst ey eH
  cases (show u=Value.ref b from ry)
  obtain ⟨z,hd,xs,rel,dd⟩:=ui1 I.hok (.inl e)
  have hz:xs.length<=sizeLine:=by rw [<- Paired.length rel]; exact z
  have hl:(putK kvs k v).length<=sizeLine:=by have:=wi0 kvs k v; omega
  refine tw2 (tupleKind_room_in1 hu) (un0 I.hok eb) dd hz λ h' ep' e1 dd' hs=>h _ ?_
  obtain ⟨q,es,hq,h2,h3,h4,_,h5⟩:=dd'
  have e2:ep'=(putK kvs k v).length:=by rw [e1,zq1,(rel.val k).isSome_eq,Option.isSome_map]
  refine yz0 I (by rw [e]; exact True.intro) hs ⟨q,hq⟩ ⟨hl,hd,_,(rel.put k eb rv).keeps λ c ys ec=>?_,q,es,ep',hq,h2,h3,h4,h5,e2⟩
  rw [wb0 (wh1 ec e (λ z=>nomatch z))]
  exact ec
end
section
variable {X:Cx} {pins:List (Addr × Obj)} {σ:St} {H:Hp} {s:Shared} {a:Addr} {kvs:List (Key × V)} {k:Key} {u:Value} {A:Around} {E:Value->Shared->Prop}
end
noncomputable def NoSl (i:Expr):Prop:=∀ ov iv,subscripted i false ov iv=operate [ov,iv] (getItem ov iv)
theorem yj2 {prog:Program} {w:World} {A:Around} {E:Value->Shared->Prop} {s:Shared} {env:Env} {value slice:Expr} {pos:Pos} {T id:String} {Q:Value->Shared->Prop}
    (hl:typeLookup (.type T) "__getitem__" = pure (some (.builtin id))) (hs:NoSl slice)
    (h:wpAny (model prog w) A (eval value env) (λ o s₁=>wpAny (model prog w) A (eval slice env) (λ i s₂=>s₂.TypeIs o T /\ wpAny (model prog w) A (getItem o i) Q E s₂) E s₁) E s) :
    wpAny (model prog w) A (eval (.Subscript value slice pos) env) Q E s:=by
 refine Subscript_ (wpAny_mono h (λ o s₁ h₁=>wpAny_mono h₁ (λ i s₂ h₂=>?_) λ _ _ x=>x) λ _ _ x=>x)
 obtain ⟨hT,h₂⟩:=h₂
 unfold subscriptTail
 refine wpAny_bind ?_
 rw [getitemInPython_of_ne hT.not_modules]
 refine wpAny_bind (wpAny_specialOf hT hl ?_)
 have fin:wpAny (model prog w) A (subscripted slice false o i) (λ r s₃=>wpAny (model prog w) A (letTemporaryGo value o r >>= λ _=>pure r) Q E s₃) E s₂:=by
  rw [hs o i]
  exact wpAny_operating (wpAny_mono h₂ (λ r s₃ h₃=>wpAny_bind (wpAny_letTemporaryGo (wpAny_pure h₃))) λ _ _ x=>x)
 first
  | exact wpAny_pure (wpAny_bind fin)
  | exact wpAny_bind (wpAny_pure (wpAny_bind fin))
  | exact wpAny_bind fin
theorem sy0 {X:Cx} {pins:List (Addr × Obj)} {σ:St} {H:Hp} {s:Shared} {a:Addr} {y:V} {o:Option V} (I:Inv X pins σ H s) (g:DGet H a y o):s.TypeIs (.ref a) "dict" := by
 rcases g with ⟨kvs,k,e,_,_⟩ | ⟨kvs,k,b,e,_,_,_⟩
 ·obtain ⟨_,_,vs,_,dd⟩:=ti1 I.hok e
  exact dd.typeIs
 ·obtain ⟨_,_,xs,_,dd⟩:=ws1 I.hok e
  exact dd.typeIs
noncomputable def yo3 (td ty:TE):TE:=λ σ H Q=>td σ H λ x H1=>ty σ H1 λ y H2=>∃ a v,x=.ref a /\ DGet H2 a y (some v) /\ Q v H2
noncomputable def up3 (td ty tv:TE):TS:=λ D σ H=>tv σ H λ v H1=>td σ H1 λ x H2=>ty σ H2 λ y H3=>∃ a H4,x=.ref a /\ DPut H3 a y v H4 /\ D.nx σ H4
section
variable {X:Cx} {o i e value:Expr} {pos pos' tpos:Pos} {td ty tv:TE}
theorem wn2 (hu:X.A.units + 1 < cLine) (ho:PE X o td) (hi:PE X i ty) (hs:NoSl i):PE X (.Subscript o i pos) (yo3 td ty):=by
 intro pins s σ H Q I h
 refine yj2 PySem.F.slot_dict_getitem.lookup hs (thn (ho pins s σ H _ I h) λ u s1 ⟨x,H1,I1,rx,q1⟩=>thn (hi pins s1 σ H1 _ I1 q1) λ iv s2 ⟨y,H2,I2,ry,a,v,ex,g,q2⟩=>?_)
 subst ex
 obtain rfl:u=Value.ref a:=rx
 exact ⟨sy0 I2 g,ut1 hu I2 g ry λ w' s3 I3 rw'=>⟨v,H2,I3,rw',q2⟩⟩
theorem tn1 (hu:X.A.units + 1 < cLine) (ho:PE X o td) (hi:PE X i ty) (hv:PE X value tv) (hs:swapsWith value (some (.Subscript o i pos')) pos.line X.env=pure false) :
    PS X (.Assign [.Subscript o i pos'] value pos) (up3 td ty tv):=by
 intro pins s σ H D I h
 refine wpAny_Assign_Subscript (thn (hv pins s σ H _ I h) λ r s1 ⟨v,H1,I1,rv,q1⟩=>thn (ho pins s1 σ H1 _ I1 q1) λ u s2 ⟨x,H2,I2,rx,q2⟩=>thn (hi pins s2 σ H2 _ I2 q2) λ iv s3 ⟨y,H3,I3,ry,a,H4,ex,g,q3⟩=>?_) hs
 subst ex
 obtain rfl:u=Value.ref a:=rx
 exact vt1 hu I3 g ry rv λ s4 I4=>⟨σ,H4,I4,q3⟩
end
theorem zc2 {P:Program} {w:World} {H:Hp} (h:Heap) (hb:sysModules < h.objs.size):ObjOk P w H (h.push { cls:=.type "dict",data:=.dict #[] }) h.objs.size (.dT []) :=
 ⟨Nat.zero_le _,beq_eq_false_iff_ne.mpr (Ne.symm (Nat.ne_of_lt hb)),[],.nil,_,#[],0,Heap.get?_push_size _ rfl,⟨rfl,rfl,rfl⟩,rfl,rfl,List.nodup_nil,rfl⟩
noncomputable def uv2:TE:=λ _ H Q=>∀ p,H p=none->Q (.ref p) (upd H p (.dT []))
section
variable {X:Cx} {pos:Pos}
theorem wc1:PE X (.Dict [] [] pos) uv2:=λ pins s σ H Q I h =>
 wpAny_Dict_empty ⟨.ref s.heap.objs.size,_,I.laid (a:=s.heap.objs.size) (o:=.dT []) (t':=s.toks) (λ _ _ q=>Heap.get?_push_of_some _ q) (Nat.le_refl _) (zc2 s.heap I.big),rfl,h _ (I.hok.fresh (Nat.le_refl _))⟩
end
structure M1 (X:Cx) (o:Expr) (m:Str) (apos:Pos) (e:Expr) (cpos:Pos):Prop where
 base:attributeBase o m X.env (eval o X.env)=eval o X.env
 few:((backTo cpos (starEach [e] X.env)).all (λ x=>!x.1) && (backToKw cpos (keywordEach [] X.env)).all (λ x=>x.1.isSome)
  && decide (([e]:List Expr).length + ([]:List Keyword).length + (if ([]:List Keyword).isEmpty then 0 else 1) < 30))=true
 line:(apos.endLine == cpos.line)=true
 trees:backTo cpos (starEach [e] X.env)=[(false,eval e X.env)]
structure M2 (X:Cx) (o:Expr) (m:Str) (apos:Pos) (e f:Expr) (cpos:Pos):Prop where
 base:attributeBase o m X.env (eval o X.env)=eval o X.env
 few:((backTo cpos (starEach [e,f] X.env)).all (λ x=>!x.1) && (backToKw cpos (keywordEach [] X.env)).all (λ x=>x.1.isSome)
  && decide (([e,f]:List Expr).length + ([]:List Keyword).length + (if ([]:List Keyword).isEmpty then 0 else 1) < 30))=true
 line:(apos.endLine == cpos.line)=true
 trees:backTo cpos (starEach [e,f] X.env)=[(false,eval e X.env),(false,eval f X.env)]
section
variable {X:Cx} {pins:List (Addr × Obj)} {σ:St} {H:Hp} {s:Shared} {a:Addr} {y d:V} {u r:Value} {o:Option V} {A:Around} {E:Value->Shared->Prop}
theorem um3 {Q:Value->Shared->Prop} (hu:A.units + 1 < cLine) (I:Inv X pins σ H s) (g:DGet H a y o) (ry:RelV y u) (rd:RelV d r) (h:∀ w' s',Inv X pins σ H s'->RelV (o.getD d) w'->Q w' s') :
    wpAny (model X.prog X.w) A (call (.builtin "dict.get") [.ref a,u,r]) Q E s:=by
 rcases g with ⟨kvs,k,e,ey,l⟩ | ⟨kvs,k,b,e,ey,eb,l⟩
 ·subst ey
  obtain ⟨z,hd,vs,rel,dd⟩:=ti1 I.hok e
  refine call_meetsIn PySem.F.slot_dict_get dd.typeIs PySem.F.entry_dict_get (PySem.F.args_dict_get_3 _ _ _) (meets_dict_get_default (xe0 X.prog X.w) a (zi1 ry) hd r) ⟨_,dd.mapOf,h _ _ (I.tok _) ?_⟩
  rw [l]
  exact (rel.val k).getD rd
 ·subst ey
  cases (show u=Value.ref b from ry)
  obtain ⟨z,hd,xs,rel,dd⟩:=ws1 I.hok e
  refine call_meetsIn PySem.F.slot_dict_get dd.typeIs PySem.F.entry_dict_get (PySem.F.args_dict_get_3 _ _ _) (meetsH_dict_get_default (tupleKind (xe0 X.prog X.w)) a b hd r) ⟨tupleKind_room_in1 hu,k,xs,un0 I.hok eb,dd,h _ _ (I.tok _) ?_⟩
  rw [l]
  exact (rel.val k).getD rd
end
section
variable {X:Cx} {o e f:Expr} {apos cpos:Pos} {td ty tx:TE}
end
section
variable {X:Cx} {pins:List (Addr × Obj)} {σ:St} {H:Hp} {s:Shared} {a:Addr} {kvs:List (Key × V)} {A:Around} {E:Value->Shared->Prop}
end
section
variable {X:Cx} {pins:List (Addr × Obj)} {σ:St} {H:Hp} {s:Shared} {a:Addr} {y:V} {u:Value} {A:Around} {E:Value->Shared->Prop}
end
end L2
namespace Pv
open PySem
noncomputable def mxR:C3:=λ ds μ Q=>match ds with
 | [.int i,.int j]=>Q (.int (if j > i then j else i)) μ
 | [.ref p]=>match μ p with
  | some (.lst l)=>match ints? l with
   | some ns=>0 < ns.length /\ ∀ m,m ∈ ns->(∀ a,a ∈ ns->a<=m)->Q (.int m) μ
   | none=>False
  | _=>False
 | _=>False
theorem xg2 (i j:Int) (μ:Mu) (Q:VK3):mxR [.int i,.int j] μ Q=Q (.int (if j > i then j else i)) μ:=propext ⟨λ h=>h,λ h=>h⟩
end Pv
namespace Pv
open PySem PySem.Spec PyProof.Rows L2
section
variable {X:Cx}
theorem RC.or {f:Value} {R1 R2:C3} (h1:RC X f R1) (h2:RC X f R2):RC X f (λ ds μ Q=>R1 ds μ Q \/ R2 ds μ Q):=by
 obtain ⟨c1,p1,r1⟩:=h1
 obtain ⟨c2,p2,r2⟩:=h2
 exact ⟨λ xs H Q=>c1 xs H Q \/ c2 xs H Q,λ pins s σ H xs us Q I r h=>h.elim (p1 pins s σ H xs us Q I r) (p2 pins s σ H xs us Q I r),
  λ xs vs H Q μ Q3 m r h k=>h.elim (λ h=>.inl (r1 xs vs H Q μ Q3 m r h k)) λ h=>.inr (r2 xs vs H Q μ Q3 m r h k)⟩
theorem RC.le {f:Value} {R1 R2:C3} (h:RC X f R1) (e:∀ ds μ Q,R2 ds μ Q->R1 ds μ Q):RC X f R2:=by
 obtain ⟨c1,p1,r1⟩:=h
 exact ⟨c1,p1,λ xs vs H Q μ Q3 m r h k=>r1 xs vs H Q μ Q3 m r (e _ _ _ h) k⟩
noncomputable def ti3:C3:=λ ds μ Q=>match ds with
 | [.ref p]=>match μ p with
  | some (.lst l)=>match ints? l with
   | some ns=>0 < ns.length /\ ∀ m,m ∈ ns->(∀ a,a ∈ ns->a<=m)->Q (.int m) μ
   | none=>False
  | _=>False
 | _=>False
theorem uu1 (hc:X.calm=true):CallR X (.builtin "max") (λ xs H Q=>∃ (p:Addr) (ns:List Int),xs=[.ref p] /\ SqL X.K H p (ns.map V.int) /\ 0 < ns.length /\ ∀ m,m ∈ ns->(∀ a,a ∈ ns->a<=m)->Q (.int m) H):=by
 intro pins s σ H xs us Q I r h
 obtain ⟨p,ns,rfl,hq,hne,q⟩:=h
 obtain ⟨u,rfl,rx⟩:=te1 r
 cases rx
 obtain ⟨its,r',pl,hz⟩:=I.list hq
 have hi:=zq0 r'
 obtain ⟨ys,e⟩:=hi.allInts.items
 have hl:=pl.isList
 rw [e] at hl
 have hns:ns=ys.toList.map (·.1):=by rw [<- hi.numsOf,<- nums_intItems,<- e]
 have hsz:0 < ys.size:=by
  have h3:=hne; rw [hns,List.length_map,Array.length_toList] at h3; exact h3
 refine max_intList (I.ok.hd hc) hl hsz λ v h' tk hv hk=>?_
 obtain ⟨t,rfl⟩:=intItems_at hv
 obtain ⟨h1,h2⟩:=argBest_gt (numAt ys) (ys.size - 1)
 refine ⟨.int _,H,I.kept (t':=tk) hk,⟨t,rfl⟩,q _ ?_ λ a ha=>?_⟩
 ·rw [hns,numAt_eq]; exact getD_mem (by rw [List.length_map,Array.length_toList]; omega)
 ·rw [hns] at ha
  obtain ⟨j,hj,rfl⟩:=mem_getD ha
  rw [List.length_map,Array.length_toList] at hj
  rw [<- numAt_eq]; exact h2 j (by omega)
theorem ud3 (hc:X.calm=true):RC X (.builtin "max") ti3:=by
 refine ⟨_,uu1 hc,λ xs vs H Q μ Q3 m r h k=>?_⟩
 unfold ti3 at h
 split at h
 ·next p =>
  cases r with
  | cons r1 r2 =>
   cases r2
   cases r1
   split at h
   ·next l e =>
    split at h
    ·next ns e1 =>
     obtain ⟨vs,hv,rs⟩:=m p l e
     have ev:=xs0 rs e1
     subst ev
     exact ⟨p,ns,rfl,SqL.of hv,h.1,λ a h1 h2=>k _ _ _ _ (h.2 a h1 h2) (Kp.refl _) (.int _) m⟩
    ·exact h.elim
   ·exact h.elim
 ·exact h.elim
theorem q_mx (hc:X.calm=true):RC X (.builtin "max") mxR:=by
 refine ((ts3 hc).or (ud3 hc)).le λ ds μ Q h=>?_
 unfold mxR at h
 split at h
 ·exact .inl h
 ·exact .inr h
 ·exact h.elim
end
section
variable {X:Cx} {e:Expr} {te:TE3} {p p2 pos pos2:Pos}
end
end Pv
namespace Ms
open PySem.W PyProof.Rows
noncomputable def run (lt:Nat->Nat->Bool) {α:Type}:KasT α->α
 | .ret a=>a
 | .ask i j k=>run lt (k (lt i j))
theorem zb1 (lt:Nat->Nat->Bool) {α β:Type} (f:α->KasT β):∀ t:KasT α,run lt (t.bind f)=run lt (f (run lt t))
 | .ret _=>rfl
 | .ask i j k=>zb1 lt f (k (lt i j))
structure Ord (lt:Nat->Nat->Bool):Prop where
 ir:∀ a,lt a a=false
 tr:∀ a b c,lt a b=true->lt b c=true->lt a c=true
 ng:∀ a b c,lt a c=true->lt a b=true \/ lt b c=true
section
variable {lt:Nat->Nat->Bool} (O:Ord lt)
noncomputable abbrev at' (p:Array Nat) (i:Nat):Nat:=p.getD i 0
noncomputable def le (lt:Nat->Nat->Bool) (a b:Nat):Prop:=lt b a=false
include O
theorem le_rf (a:Nat):le lt a a:=O.ir a
theorem le_tr {a b c:Nat} (h:le lt a b) (k:le lt b c):le lt a c:=by
 unfold le at *
 cases e:lt c a with
 | false=>rfl
 | true =>
  rcases O.ng c b a e with h1 | h1
  ·rw [k] at h1; cases h1
  ·rw [h] at h1; cases h1
theorem yv3 {a b:Nat} (h:lt a b=true):le lt a b:=by
 unfold le
 cases e:lt b a with
 | false=>rfl
 | true=>have:=O.tr a b a h e; rw [O.ir] at this; cases this
omit O
noncomputable def Up (lt:Nat->Nat->Bool) (p:Array Nat) (n:Nat):Prop:=∀ a b,a<=b->b < n->le lt (at' p a) (at' p b)
noncomputable def Dn (lt:Nat->Nat->Bool) (p:Array Nat) (n:Nat):Prop:=∀ a b,a<=b->b < n->le lt (at' p b) (at' p a)
theorem vr2 {p q:Array Nat} {i j:Nat} (h:p[i]?=q[j]?):at' p i=at' q j:=by
 show p.getD i 0=q.getD j 0
 rw [Array.getD_eq_getD_getElem?,Array.getD_eq_getD_getElem?,h]
theorem sh2 {p:Array Nat} {k l:Nat} (hk:k < p.size) (hl:l<=k) (i:Nat):at' (bubble p k (k - l)) i=if i=l then at' p k else if l < i /\ i<=k then at' p (i - 1) else at' p i:=by
 have h:=getElem?_bubble (xs:=p) hk (k - l) (by omega) i
 rw [show k - (k - l)=l by omega] at h
 by_cases c:i=l
 ·rw [if_pos c] at h ⊢; exact vr2 h
 ·rw [if_neg c] at h ⊢
  by_cases c2:l < i /\ i<=k
  ·rw [if_pos c2] at h ⊢; exact vr2 h
  ·rw [if_neg c2] at h ⊢; exact vr2 h
include O
theorem wi2 {p:Array Nat} {n:Nat} (h:Up lt p n) (h1:1<=n) (k:le lt (at' p (n - 1)) (at' p n)):Up lt p (n + 1):=λ a b hab hb=>by
 by_cases e:b=n
 ·subst e
  by_cases e2:a=b
  ·subst e2; exact le_rf O _
  ·exact le_tr O (h a (b - 1) (by omega) (by omega)) k
 ·exact h a b hab (by omega)
theorem ve1 (p:Array Nat):∀ (f n:Nat),1<=n->Up lt p n->n<=run lt (kas_asc p f n) /\ run lt (kas_asc p f n)<=n + f /\ Up lt p (run lt (kas_asc p f n)) /\ (run lt (kas_asc p f n) < n + f->lt (at' p (run lt (kas_asc p f n))) (at' p (run lt (kas_asc p f n) - 1))=true)
 | 0,n,h1,h=>⟨Nat.le_refl _,Nat.le_refl _,h,λ z=>absurd z (Nat.lt_irrefl _)⟩
 | f + 1,n,h1,h=>by
  cases e:lt (at' p n) (at' p (n - 1)) with
  | true =>
   have r:run lt (kas_asc p (f + 1) n)=n:=by
    show run lt (if lt (at' p n) (at' p (n - 1))=true then .ret n else kas_asc p f (n + 1))=n
    rw [e]; rfl
   rw [r]
   exact ⟨Nat.le_refl _,by omega,h,λ _=>e⟩
  | false =>
   have r:run lt (kas_asc p (f + 1) n)=run lt (kas_asc p f (n + 1)):=by
    show run lt (if lt (at' p n) (at' p (n - 1))=true then .ret n else kas_asc p f (n + 1))=_
    rw [e]; rfl
   rw [r]
   obtain ⟨a1,a2,a3,a4⟩:=ve1 p f (n + 1) (by omega) (wi2 O h h1 e)
   exact ⟨by omega,by omega,a3,λ z=>a4 (by omega)⟩
omit O
noncomputable def Eqs (lt:Nat->Nat->Bool) (p:Array Nat) (n q:Nat):Prop:=∀ a b,n - (q + 1)<=a->a < n->n - (q + 1)<=b->b < n->le lt (at' p a) (at' p b)
include O
omit O
structure DOk (lt:Nat->Nat->Bool) (p0:Array Nat) (N:Nat) (r:Array Nat × Nat × Nat) (n:Nat):Prop where
 perm:r.1.Perm p0
 lo:n<=r.2.1
 hi:r.2.1<=N
 dn:Dn lt r.1 r.2.1
 q:r.2.2 + 1<=r.2.1
 eqs:Eqs lt r.1 r.2.1 r.2.2
include O
omit O
structure ROk (lt:Nat->Nat->Bool) (p0:Array Nat) (N:Nat) (r:Nat × Array Nat):Prop where
 perm:r.2.Perm p0
 lo:1<=r.1
 hi:r.1<=N
 up:Up lt r.2 r.1
include O
theorem sr0 {p:Array Nat} {k:Nat} (h:Up lt p k):∀ (f l r:Nat),l<=r->r<=k->r - l<=f->(∀ a,a < l->le lt (at' p a) (at' p k))->(∀ b,r<=b->b < k->lt (at' p k) (at' p b)=true) ->
    run lt (kas_place p k f l r)<=k /\ (∀ a,a < run lt (kas_place p k f l r)->le lt (at' p a) (at' p k)) /\ ∀ b,run lt (kas_place p k f l r)<=b->b < k->lt (at' p k) (at' p b)=true
 | 0,l,r,hlr,hrk,hf,h1,h2=>⟨by show l<=k; omega,h1,λ b hb1 hb2=>h2 b (by have:l<=b:=hb1; omega) hb2⟩
 | f + 1,l,r,hlr,hrk,hf,h1,h2=>by
  by_cases c:l ≥ r
  ·have e:run lt (kas_place p k (f + 1) l r)=l:=by
     show run lt (if l ≥ r then .ret l else _)=l
     rw [if_pos c]; rfl
   rw [e]
   exact ⟨by omega,h1,λ b hb1 hb2=>h2 b (by omega) hb2⟩
  ·cases e:lt (at' p k) (at' p ((l + r) / 2)) with
   | true =>
    have e2:run lt (kas_place p k (f + 1) l r)=run lt (kas_place p k f l ((l + r) / 2)):=by
     show run lt (if l ≥ r then .ret l else .ask (at' p k) (at' p ((l + r) / 2)) λ c=>if c=true then kas_place p k f l ((l + r) / 2) else kas_place p k f ((l + r) / 2 + 1) r)=_
     rw [if_neg c]
     show run lt (if lt (at' p k) (at' p ((l + r) / 2))=true then _ else _)=_
     rw [e,if_pos rfl]
    rw [e2]
    refine sr0 h f l ((l + r) / 2) (by omega) (by omega) (by omega) h1 λ b hb1 hb2=>?_
    have z:=h ((l + r) / 2) b hb1 hb2
    rcases O.ng (at' p k) (at' p b) (at' p ((l + r) / 2)) e with y | y
    ·exact y
    ·unfold le at z; rw [z] at y; cases y
   | false =>
    have e2:run lt (kas_place p k (f + 1) l r)=run lt (kas_place p k f ((l + r) / 2 + 1) r):=by
     show run lt (if l ≥ r then .ret l else .ask (at' p k) (at' p ((l + r) / 2)) λ c=>if c=true then kas_place p k f l ((l + r) / 2) else kas_place p k f ((l + r) / 2 + 1) r)=_
     rw [if_neg c]
     show run lt (if lt (at' p k) (at' p ((l + r) / 2))=true then _ else _)=_
     rw [e,if_neg (by decide)]
    rw [e2]
    exact sr0 h f ((l + r) / 2 + 1) r (by omega) hrk (by omega) (λ a ha=>le_tr O (h a ((l + r) / 2) (by omega) (by omega)) e) h2
theorem vv1 {p0:Array Nat}:∀ (f:Nat) (p:Array Nat) (k:Nat),p.Perm p0->1<=k->k + f<=p0.size->Up lt p k->(run lt (kas_bin f p k)).Perm p0 /\ Up lt (run lt (kas_bin f p k)) (k + f)
 | 0,p,k,hp,h1,hs,h=>⟨hp,h⟩
 | f + 1,p,k,hp,h1,hs,h=>by
  have hsz:p.size=p0.size:=hp.size_eq
  have e:run lt (kas_bin (f + 1) p k)=run lt (kas_bin f (bubble p k (k - run lt (kas_place p k k 0 k))) (k + 1)):=by
   show run lt ((kas_place p k k 0 k).bind λ l=>kas_bin f (bubble p k (k - l)) (k + 1))=_
   rw [zb1]
  rw [e]
  obtain ⟨b1,b2,b3⟩:=sr0 O h k 0 k (by omega) (Nat.le_refl _) (by omega) (λ a ha=>absurd ha (Nat.not_lt_zero _)) (λ b hb1 hb2=>by omega)
  generalize run lt (kas_place p k k 0 k)=l at b1 b2 b3
  have u:Up lt (bubble p k (k - l)) (k + 1):=λ a b hab hb=>by
   rw [sh2 (by omega) b1,sh2 (by omega) b1]
   by_cases ca:a=l
   ·rw [if_pos ca]
    by_cases cb:b=l
    ·rw [if_pos cb]; exact le_rf O _
    ·rw [if_neg cb,if_pos ⟨by omega,by omega⟩]; exact yv3 O (b3 _ (by omega) (by omega))
   ·rw [if_neg ca]
    by_cases cb:b=l
    ·rw [if_pos cb,if_neg (by omega)]; exact b2 _ (by omega)
    ·rw [if_neg cb]
     by_cases ca2:l < a /\ a<=k
     ·rw [if_pos ca2,if_pos ⟨by omega,by omega⟩]; exact h _ _ (by omega) (by omega)
     ·rw [if_neg ca2]
      by_cases cb2:l < b /\ b<=k
      ·rw [if_pos cb2]; exact h _ _ (by omega) (by omega)
      ·rw [if_neg cb2]; exact h _ _ (by omega) (by omega)
  have z:=vv1 f (bubble p k (k - l)) (k + 1) ((bubble_perm _ _ _).trans hp) (by omega) (by omega) u
  rw [show k + 1 + f=k + (f + 1) by omega] at z
  exact z
end
section
variable {N:Nat}
end
end Ms
namespace Ts
open PySem PyProof.Rows
noncomputable def gal:Bool->Keyed->Array Keyed->Nat->Nat->Nat->StateT SortSt Sem (Option Nat):=sortPriv% PySem.Builtin.gallop
section
variable {prog:Program} {w:World} {A:Around} {E:Value->Shared->Prop} {s:Shared} {κ:SortKind}
structure Cm (prog:Program) (w:World) (A:Around) (s:Shared) (κ:SortKind) (lt:Keyed->Keyed->Bool) (M:Keyed->Prop):Prop where
 ask:∀ x y,M x->M y->∀ C:Bool->Shared->Prop,C (lt x y) s->wpAny (model prog w) A (keyLt' κ x.1 y.1) C (λ _ _=>False) s
 ir:∀ x,lt x x=false
 tr:∀ x y z,lt x y=true->lt y z=true->lt x z=true
 ng:∀ x y z,lt x z=true->lt x y=true \/ lt y z=true
variable {lt:Keyed->Keyed->Bool} {M:Keyed->Prop}
noncomputable def le (lt:Keyed->Keyed->Bool) (x y:Keyed):Prop:=lt y x=false
theorem Cm.rf (c:Cm prog w A s κ lt M) (x:Keyed):le lt x x:=c.ir x
theorem Cm.lt_le (c:Cm prog w A s κ lt M) {x y:Keyed} (h:lt x y=true):le lt x y:=by
 unfold le
 cases e:lt y x with
 | false=>rfl
 | true=>have:=c.tr x y x h e; rw [c.ir] at this; cases this
theorem Cm.le_tr (c:Cm prog w A s κ lt M) {x y z:Keyed} (h:le lt x y) (k:le lt y z):le lt x z:=by
 unfold le at h k ⊢
 cases e:lt z x with
 | false=>rfl
 | true =>
  rcases c.ng z y x e with q | q
  ·rw [k] at q; cases q
  ·rw [h] at q; cases q
structure Ok (κ:SortKind) (st:SortSt):Prop where
 kd:kindOf st=κ
 fl:failedOf st=none
theorem sp1 (c:Cm prog w A s κ lt M) {x y:Keyed} {st:SortSt} {Q:Option Bool->SortSt->Prop} (o:Ok κ st) (hx:M x) (hy:M y) (h:Q (some (lt x y)) st):wpS (model prog w) A E s (lt' x y) Q st:=by
 rw [lt'_eq]
 refine wpS_bind (wpS_get ?_)
 rw [o.kd]
 refine wpS_bind (wpS_lift (wpAny_attempt (wpAny_mono (c.ask x y hx hy (λ b s'=>s'=s /\ b=lt x y) ⟨rfl,rfl⟩) (λ b s' hb=>?_) λ _ _ hF=>hF.elim)))
 obtain ⟨rfl,rfl⟩:=hb
 exact ⟨rfl,wpS_pure h⟩
theorem wc0 {arr:Array Keyed} {i:Nat} {x:Keyed} {st:SortSt} {Q:Keyed->SortSt->Prop} (hi:arr[i]?=some x) (h:Q x st):wpS (model prog w) A E s (elem' arr i) Q st:=by
 rw [elem'_eq,hi]
 exact wpS_pure h
structure By (lt:Keyed->Keyed->Bool) (M:Keyed->Prop) (l:Bool) (key:Keyed) (arr:Array Keyed) (base n:Nat) (B:Nat->Bool):Prop where
 ky:M key
 it:∀ i,i < n->∃ x,arr[base + i]?=some x /\ M x /\ B i=(if l=true then lt x key else !lt key x)
 mono:∀ i j,i<=j->j < n->B j=true->B i=true
theorem By.no {l:Bool} {key:Keyed} {arr:Array Keyed} {base n:Nat} {B:Nat->Bool} (b:By lt M l key arr base n B) {i j:Nat} (h:i<=j) (hj:j < n) (k:B i=false):B j=false:=by
 cases e:B j with
 | false=>rfl
 | true=>have:=b.mono i j h hj e; rw [k] at this; cases this
theorem we1 (c:Cm prog w A s κ lt M) {l:Bool} {key:Keyed} {arr:Array Keyed} {base n:Nat} {B:Nat->Bool} (b:By lt M l key arr base n B) {i:Nat} (hi:i < n) {st:SortSt} {Q:Option Bool->SortSt->Prop} (o:Ok κ st) (h:Q (some (B i)) st) :
    wpS (model prog w) A E s (elem' arr (base + i) >>= λ x=>if l=true then lt' x key else lt' key x >>= λ r=>pure (r.map λ y=>!y)) Q st:=by
 obtain ⟨x,ex,mx,e⟩:=b.it i hi
 refine wpS_bind (wc0 ex ?_)
 cases l with
 | true =>
  rw [if_pos rfl]
  rw [if_pos rfl] at e
  exact sp1 c o mx b.ky (e ▸ h)
 | false =>
  rw [if_neg (by simp)]
  rw [if_neg (by simp)] at e
  exact wpS_bind (sp1 c o b.ky mx (wpS_pure (by rw [e] at h; exact h)))
theorem vq0 (c:Cm prog w A s κ lt M) {l:Bool} {key:Keyed} {arr:Array Keyed} {base n hint:Nat} {st:SortSt} {Q:Option Nat->SortSt->Prop} {B:Nat->Bool} (o:Ok κ st) (b:By lt M l key arr base n B) (hh:hint < n)
    (h:∀ k,k<=n->(∀ i,i < k->B i=true)->(∀ i,k<=i->i < n->B i=false)->Q (some k) st):wpS (model prog w) A E s (gal l key arr base n hint) Q st:=by
 refine wpS_bind (we1 c b hh o ?_)
 have tail:∀ lo hi:Nat,lo<=hi->hi<=n->(∀ i,i < lo->B i=true)->(∀ i,hi<=i->i < n->B i=false)->∀ (f:Nat->Option (Option Nat) × Nat × Nat->StateT SortSt Sem (ForInStep (Option (Option Nat) × Nat × Nat))),
     (∀ x lo hi,lo < hi->hi<=n->f x (none,lo,hi)=((elem' arr (base + (lo + (hi - lo) / 2)) >>= λ x=>if l=true then lt' x key else lt' key x >>= λ r=>pure (r.map λ y=>!y)) >>= λ r=>match r with
      | some true=>pure (.yield (none,lo + (hi - lo) / 2 + 1,hi))
      | some false=>pure (.yield (none,lo,lo + (hi - lo) / 2))
      | none=>pure (.done (some none,lo,hi))))->(∀ x lo hi,¬ lo < hi->f x (none,lo,hi)=pure (.done (none,lo,hi))) ->
     wpS (model prog w) A E s (forIn [0:n] (none,lo,hi) f) (λ r st'=>st'=st /\ r.1=none /\ r.2.2<=n /\ (∀ i,i < r.2.2->B i=true) /\ ∀ i,r.2.2<=i->i < n->B i=false) st:=by
  intro lo hi h1 h2 h3 h4 f f1 f2
  refine wpS_forRange (λ x r st'=>st'=st /\ r.1=none /\ r.2.1<=r.2.2 /\ r.2.2<=n /\ r.2.2 - r.2.1<=n - x /\ (∀ i,i < r.2.1->B i=true) /\ ∀ i,r.2.2<=i->i < n->B i=false) ?_ ?_ ⟨rfl,rfl,h1,h2,by show hi - lo<=n - 0; omega,h3,h4⟩
  ·rintro x ⟨r,lo,hi⟩ st' _ hx ⟨rfl,rfl,a1,a2,a3,a4,a5⟩
   dsimp only at a1 a2 a3 a4 a5
   by_cases z:lo < hi
   ·rw [f1 x lo hi z a2]
    have hm:lo + (hi - lo) / 2 < n:=by omega
    refine wpS_bind (we1 c b hm o ?_)
    cases e:B (lo + (hi - lo) / 2) with
    | true=>exact wpS_pure ⟨rfl,rfl,by show _ + 1<=hi; omega,a2,by show hi - (_ + 1)<=_; omega,λ i hi'=>b.mono i _ (by show i<=_; have:i < _ + 1:=hi'; omega) hm e,a5⟩
    | false=>exact wpS_pure ⟨rfl,rfl,by show lo<=lo + (hi - lo) / 2; omega,by show lo + (hi - lo) / 2<=n; omega,by show lo + (hi - lo) / 2 - lo<=_; omega,a4,λ i h5 h6=>b.no h5 h6 e⟩
   ·rw [f2 x lo hi z]
    have:lo=hi:=by have:lo<=hi:=a1; omega
    subst this
    exact wpS_pure ⟨rfl,rfl,a2,a4,a5⟩
  ·rintro ⟨r,lo,hi⟩ st' ⟨rfl,rfl,a1,a2,a3,a4,a5⟩
   have a1':lo<=hi:=a1
   have a3':hi - lo<=n - max 0 n:=a3
   have:lo=hi:=by omega
   subst this
   exact ⟨rfl,rfl,a2,a4,a5⟩
 have fin:∀ lo hi:Nat,lo<=hi->hi<=n->(∀ i,i < lo->B i=true)->(∀ i,hi<=i->i < n->B i=false)->∀ (f:Nat->Option (Option Nat) × Nat × Nat->StateT SortSt Sem (ForInStep (Option (Option Nat) × Nat × Nat))) (g:Option (Option Nat) × Nat × Nat->StateT SortSt Sem (Option Nat)),
     (∀ x lo hi,lo < hi->hi<=n->f x (none,lo,hi)=((elem' arr (base + (lo + (hi - lo) / 2)) >>= λ x=>if l=true then lt' x key else lt' key x >>= λ r=>pure (r.map λ y=>!y)) >>= λ r=>match r with
      | some true=>pure (.yield (none,lo + (hi - lo) / 2 + 1,hi))
      | some false=>pure (.yield (none,lo,lo + (hi - lo) / 2))
      | none=>pure (.done (some none,lo,hi))))->(∀ x lo hi,¬ lo < hi->f x (none,lo,hi)=pure (.done (none,lo,hi))) ->
     (∀ lo hi,g (none,lo,hi)=pure (some hi))->wpS (model prog w) A E s (forIn [0:n] (none,lo,hi) f >>= g) Q st:=by
  intro lo hi h1 h2 h3 h4 f g f1 f2 g1
  refine wpS_bind (wpS_mono (tail lo hi h1 h2 h3 h4 f f1 f2) ?_)
  rintro ⟨r,lo,hi⟩ st' ⟨rfl,rfl,a2,a4,a5⟩
  rw [g1]
  exact wpS_pure (h hi a2 a4 a5)
 cases e:B hint with
 | true =>
  refine wpS_bind (wpS_mono (wpS_forRange (λ x (r:Option (Option Nat) × Nat × Nat) st'=>st'=st /\ r.1=none /\ r.2.1 < r.2.2 /\ x + 1<=r.2.2 /\ hint + r.2.1 < n /\ B (hint + r.2.1)=true) (Q:=λ (r:Option (Option Nat) × Nat × Nat) st'=>st'=st /\ r.1=none /\ r.2.1 < r.2.2 /\ hint + r.2.1 < n /\ B (hint + r.2.1)=true /\ (n - hint<=r.2.2 \/ (hint + r.2.2 < n /\ B (hint + r.2.2)=false))) ?_ ?_ ⟨rfl,rfl,by decide,by decide,hh,e⟩) ?_)
  ·rintro x ⟨r,la,of⟩ st' _ hx ⟨rfl,rfl,a1,a2,a3,a4⟩
   dsimp only at a1 a2 a3 a4 ⊢
   by_cases z:of ≥ n - hint
   ·rw [if_pos z]
    exact wpS_pure ⟨rfl,rfl,a1,a3,a4,.inl z⟩
   ·rw [if_neg z]
    have hm:hint + of < n:=by omega
    refine wpS_bind (we1 c b hm o ?_)
    cases e2:B (hint + of) with
    | true=>exact wpS_pure ⟨rfl,rfl,by show of < 2 * of + 1; omega,by show _<=2 * of + 1; omega,hm,e2⟩
    | false=>exact wpS_pure ⟨rfl,rfl,a1,a3,a4,.inr ⟨hm,e2⟩⟩
  ·rintro ⟨r,la,of⟩ st' ⟨rfl,rfl,a1,a2,a3,a4⟩
   exact ⟨rfl,rfl,a1,a3,a4,.inl (by have:max 0 n + 1<=of:=a2; show n - hint<=of; omega)⟩
  ·rintro ⟨r,la,of⟩ st' ⟨rfl,rfl,a1,a3,a4,a5⟩
   dsimp only at a1 a3 a4 a5 ⊢
   refine fin (hint + la + 1) (hint + min of (n - hint)) (by omega) (by omega) (λ i hi=>b.mono i _ (by omega) a3 a4) (λ i h5 h6=>?_) _ _ ?_ ?_ ?_
   ·rcases a5 with z | ⟨z1,z2⟩
    ·omega
    ·exact b.no (by omega) h6 z2
   ·intro x lo hi z _
    dsimp only
    rw [if_neg (by omega)]
    refine congrArg _ (funext λ r=>?_)
    rcases r with _ | _ | _ <;> rfl
   ·intro x lo hi z
    dsimp only
    rw [if_pos (by omega)]
   ·intro lo hi; rfl
 | false =>
  refine wpS_bind (wpS_mono (wpS_forRange (λ x (r:Option (Option Nat) × Nat × Nat) st'=>st'=st /\ r.1=none /\ r.2.1 < r.2.2 /\ x + 1<=r.2.2 /\ r.2.1<=hint /\ B (hint - r.2.1)=false) (Q:=λ (r:Option (Option Nat) × Nat × Nat) st'=>st'=st /\ r.1=none /\ r.2.1 < r.2.2 /\ r.2.1<=hint /\ B (hint - r.2.1)=false /\ (hint + 1<=r.2.2 \/ (r.2.2<=hint /\ B (hint - r.2.2)=true))) ?_ ?_ ⟨rfl,rfl,by decide,by decide,Nat.zero_le _,e⟩) ?_)
  ·rintro x ⟨r,la,of⟩ st' _ hx ⟨rfl,rfl,a1,a2,a3,a4⟩
   dsimp only at a1 a2 a3 a4 ⊢
   by_cases z:of ≥ hint + 1
   ·rw [if_pos z]
    exact wpS_pure ⟨rfl,rfl,a1,a3,a4,.inl z⟩
   ·rw [if_neg z]
    have hm:hint - of < n:=by omega
    refine wpS_bind (we1 c b hm o ?_)
    cases e2:B (hint - of) with
    | false=>exact wpS_pure ⟨rfl,rfl,by show of < 2 * of + 1; omega,by show _<=2 * of + 1; omega,by show of<=hint; omega,e2⟩
    | true=>exact wpS_pure ⟨rfl,rfl,a1,a3,a4,.inr ⟨by show of<=hint; omega,e2⟩⟩
  ·rintro ⟨r,la,of⟩ st' ⟨rfl,rfl,a1,a2,a3,a4⟩
   exact ⟨rfl,rfl,a1,a3,a4,.inl (by have:max 0 n + 1<=of:=a2; show hint + 1<=of; omega)⟩
  ·rintro ⟨r,la,of⟩ st' ⟨rfl,rfl,a1,a3,a4,a5⟩
   dsimp only at a1 a3 a4 a5 ⊢
   refine fin (hint + 1 - min of (hint + 1)) (hint - la) (by omega) (by omega) (λ i hi=>?_) (λ i h5 h6=>b.no h5 h6 a4) _ _ ?_ ?_ ?_
   ·rcases a5 with z | ⟨z1,z2⟩
    ·omega
    ·exact b.mono i _ (by omega) (by omega) z2
   ·intro x lo hi z _
    dsimp only
    rw [if_neg (by omega)]
    refine congrArg _ (funext λ r=>?_)
    rcases r with _ | _ | _ <;> rfl
   ·intro x lo hi z
    dsimp only
    rw [if_pos (by omega)]
   ·intro lo hi; rfl
end
end Ts
namespace Ts
open PySem PyProof.Rows
noncomputable def mlo:Array Keyed->Array Keyed->StateT SortSt Sem (Array Keyed):=sortPriv% PySem.Builtin.mergeLo
noncomputable abbrev GR:=Option (Array Keyed) × Array Keyed × Nat × Nat × Nat × Nat × Nat
noncomputable def galC (a b:Array Keyed) (k1 k:Nat) (u:Array Keyed) (i j g:Nat):StateT SortSt Sem (ForInStep GR) :=
 let nx:Array Keyed->Nat->StateT SortSt Sem (ForInStep GR):=λ u j=>elem' a i >>= λ v =>
  if (i + 1 + 1 == a.size)=true then pure (.done (some (u.push v ++ b.extract j b.size ++ a.extract (i + 1) a.size),u.push v,i + 1,j,g,k1,k))
  else if (decide (k1 < 7) && decide (k < 7))=true then pure (.done (none,u.push v,i + 1,j,g,k1,k)) else pure (.yield (none,u.push v,i + 1,j,g,k1,k))
 if k > 0 then (if (j + k == b.size)=true then pure (.done (some (u ++ b.extract j (j + k) ++ a.extract i a.size ++ b.extract (j + k) b.size),u ++ b.extract j (j + k),i,j + k,g,k1,k)) else nx (u ++ b.extract j (j + k)) (j + k)) else nx u j
theorem tf0 {α:Type} {l:List α} {i:Nat} {x:α} (h:l[i]?=some x):l.drop i=x :: l.drop (i + 1):=by
 obtain ⟨h1,h2⟩:=List.getElem?_eq_some_iff.mp h
 rw [List.drop_eq_getElem_cons h1,h2]
section
variable {lt:Keyed->Keyed->Bool}
structure MI (lt:Keyed->Keyed->Bool) (la lb out:List Keyed) (ia ib:Nat):Prop where
 so:out.Pairwise (le lt)
 xa:∀ x ∈ out,∀ y ∈ la.drop ia,le lt x y
 xb:∀ x ∈ out,∀ y ∈ lb.drop ib,le lt x y
 pm:(out ++ (la.drop ia ++ lb.drop ib)).Perm (la ++ lb)
noncomputable def Fin (lt:Keyed->Keyed->Bool) (la lb r:List Keyed):Prop:=r.Perm (la ++ lb) /\ r.Pairwise (le lt)
theorem tx0 {l:List Keyed} (h:l.Pairwise (le lt)) {i:Nat} {x:Keyed} (e:l[i]?=some x):∀ y ∈ l.drop (i + 1),le lt x y:=by
 have h2:(l.drop i).Pairwise (le lt):=h.sublist (List.drop_sublist i l)
 rw [tf0 e] at h2
 exact (List.pairwise_cons.mp h2).1
theorem MI.a {la lb out:List Keyed} {ia ib:Nat} {x:Keyed} (m:MI lt la lb out ia ib) (sa:la.Pairwise (le lt)) (e:la[ia]?=some x) (k:∀ y ∈ lb.drop ib,le lt x y):MI lt la lb (out ++ [x]) (ia + 1) ib:=by
 have d:=tf0 e
 refine ⟨List.pairwise_append.mpr ⟨m.so,List.pairwise_singleton _ _,λ z hz y hy=>?_⟩,λ z hz y hy=>?_,λ z hz y hy=>?_,?_⟩
 ·rw [List.mem_singleton] at hy; subst hy
  exact m.xa z hz y (by rw [d]; exact .head _)
 ·rcases List.mem_append.mp hz with hz | hz
  ·exact m.xa z hz y (by rw [d]; exact .tail _ hy)
  ·rw [List.mem_singleton] at hz; subst hz
   exact tx0 sa e y hy
 ·rcases List.mem_append.mp hz with hz | hz
  ·exact m.xb z hz y hy
  ·rw [List.mem_singleton] at hz; subst hz
   exact k y hy
 ·have p:=m.pm
  rw [d] at p
  rw [List.append_assoc]
  exact p
theorem MI.b {la lb out:List Keyed} {ia ib:Nat} {x:Keyed} (m:MI lt la lb out ia ib) (sb:lb.Pairwise (le lt)) (e:lb[ib]?=some x) (k:∀ y ∈ la.drop ia,le lt x y):MI lt la lb (out ++ [x]) ia (ib + 1):=by
 have d:=tf0 e
 refine ⟨List.pairwise_append.mpr ⟨m.so,List.pairwise_singleton _ _,λ z hz y hy=>?_⟩,λ z hz y hy=>?_,λ z hz y hy=>?_,?_⟩
 ·rw [List.mem_singleton] at hy; subst hy
  exact m.xb z hz y (by rw [d]; exact .head _)
 ·rcases List.mem_append.mp hz with hz | hz
  ·exact m.xa z hz y hy
  ·rw [List.mem_singleton] at hz; subst hz
   exact k y hy
 ·rcases List.mem_append.mp hz with hz | hz
  ·exact m.xb z hz y (by rw [d]; exact .tail _ hy)
  ·rw [List.mem_singleton] at hz; subst hz
   exact tx0 sb e y hy
 ·have p:=m.pm
  rw [d] at p
  rw [List.append_assoc]
  refine .trans (List.Perm.append_left _ ?_) p
  show (x :: (la.drop ia ++ lb.drop (ib + 1))).Perm _
  exact List.perm_middle.symm
theorem yt0 {α:Type} {l:List α} {i k:Nat} {x:α} (e:l[i + k]?=some x):(l.drop i).take (k + 1)=(l.drop i).take k ++ [x]:=by
 rw [List.take_succ,List.getElem?_drop,e]; rfl
theorem MI.as {la lb out:List Keyed} {ia ib:Nat} (m:MI lt la lb out ia ib) (sa:la.Pairwise (le lt)):∀ k,ia + k<=la.length->(∀ i x,i < k->la[ia + i]?=some x->∀ y ∈ lb.drop ib,le lt x y)->MI lt la lb (out ++ (la.drop ia).take k) (ia + k) ib
 | 0,_,_=>by rw [List.take_zero,List.append_nil]; exact m
 | k + 1,h,q=>by
  have e:la[ia + k]?=some la[ia + k]:=List.getElem?_eq_getElem (by omega)
  rw [yt0 e,<- List.append_assoc]
  exact (m.as sa k (by omega) λ i x hi=>q i x (by omega)).a sa e (q k _ (by omega) e)
theorem MI.bs {la lb out:List Keyed} {ia ib:Nat} (m:MI lt la lb out ia ib) (sb:lb.Pairwise (le lt)):∀ k,ib + k<=lb.length->(∀ i x,i < k->lb[ib + i]?=some x->∀ y ∈ la.drop ia,le lt x y)->MI lt la lb (out ++ (lb.drop ib).take k) ia (ib + k)
 | 0,_,_=>by rw [List.take_zero,List.append_nil]; exact m
 | k + 1,h,q=>by
  have e:lb[ib + k]?=some lb[ib + k]:=List.getElem?_eq_getElem (by omega)
  rw [yt0 e,<- List.append_assoc]
  exact (m.bs sb k (by omega) λ i x hi=>q i x (by omega)).b sb e (q k _ (by omega) e)
theorem MI.endB {la lb out:List Keyed} {ia ib:Nat} (m:MI lt la lb out ia ib) (sa:la.Pairwise (le lt)) (h:lb.length<=ib):Fin lt la lb (out ++ la.drop ia ++ lb.drop ib):=by
 have e:lb.drop ib=[]:=List.drop_eq_nil_of_le h
 have p:=m.pm
 rw [e] at p ⊢
 rw [List.append_nil] at p ⊢
 exact ⟨p,List.pairwise_append.mpr ⟨m.so,sa.sublist (List.drop_sublist _ _),m.xa⟩⟩
theorem MI.endA {la lb out:List Keyed} {ia ib:Nat} (m:MI lt la lb out ia ib) (sb:lb.Pairwise (le lt)) (h:la.length<=ia):Fin lt la lb (out ++ la.drop ia ++ lb.drop ib):=by
 have e:la.drop ia=[]:=List.drop_eq_nil_of_le h
 have p:=m.pm
 rw [e] at p ⊢
 rw [List.append_nil]
 exact ⟨p,List.pairwise_append.mpr ⟨m.so,sb.sublist (List.drop_sublist _ _),m.xb⟩⟩
theorem MI.last {la lb out:List Keyed} {ia ib:Nat} (m:MI lt la lb out ia ib) (sb:lb.Pairwise (le lt)) (h:ia + 1=la.length) (k:∀ x,la[la.length - 1]?=some x->∀ y ∈ lb,le lt y x):Fin lt la lb (out ++ lb.drop ib ++ la.drop ia):=by
 have e:la[ia]?=some la[ia]:=List.getElem?_eq_getElem (by omega)
 have d:=tf0 e
 have e2:la.drop (ia + 1)=[]:=List.drop_eq_nil_of_le (by omega)
 rw [e2] at d
 refine ⟨?_,?_⟩
 ·refine .trans ?_ m.pm
  rw [List.append_assoc]
  exact List.Perm.append_left _ List.perm_append_comm
 ·rw [List.append_assoc]
  refine List.pairwise_append.mpr ⟨m.so,List.pairwise_append.mpr ⟨sb.sublist (List.drop_sublist _ _),?_,λ x hx y hy=>?_⟩,λ x hx y hy=>?_⟩
  ·rw [d]; exact List.pairwise_singleton _ _
  ·rw [d,List.mem_singleton] at hy
   subst hy
   exact k _ (by rw [show la.length - 1=ia by omega]; exact e) x (List.mem_of_mem_drop hx)
  ·rcases List.mem_append.mp hy with hy | hy
   ·exact m.xb x hx y hy
   ·exact m.xa x hx y hy
noncomputable def Mid (lt:Keyed->Keyed->Bool) (la lb:List Keyed) (n:Nat) (r:Option (Array Keyed)) (out:Array Keyed) (ia ib:Nat):Prop:=match r with
 | some z=>Fin lt la lb z.toList
 | none=>MI lt la lb out.toList ia ib /\ ia + 1 < la.length /\ ib < lb.length /\ n<=ia + ib
end
structure Same (κ:SortKind) (st0 st:SortSt):Prop where
 ok:Ok κ st
 ar:arrOf st=arrOf st0
 pe:pendingOf st=pendingOf st0
theorem vf0 (a:Array Keyed) (i:Nat):(a.extract i a.size).toList=a.toList.drop i:=by
 rw [Array.toList_extract]
 simp only [List.extract]
 exact List.take_of_length_le (by rw [List.length_drop,Array.length_toList]; omega)
theorem yq2 (a:Array Keyed) (i k:Nat):(a.extract i (i + k)).toList=(a.toList.drop i).take k:=by
 rw [Array.toList_extract]
 simp [List.extract]
section
variable {prog:Program} {w:World} {A:Around} {E:Value->Shared->Prop} {s:Shared} {κ:SortKind}
variable {lt:Keyed->Keyed->Bool} {M:Keyed->Prop}
theorem yd0 {a:Array Keyed} {i:Nat} (h:i < a.toList.length):∃ x,a[i]?=some x /\ a.toList[i]?=some x /\ x ∈ a.toList:=by
 refine ⟨a.toList[i],?_,List.getElem?_eq_getElem h,List.getElem_mem h⟩
 rw [<- Array.getElem?_toList,List.getElem?_eq_getElem h]
theorem getD_some {l:List Keyed} {i:Nat} {x d:Keyed} (h:l[i]?=some x):l.getD i d=x:=by rw [List.getD_eq_getElem?_getD,h]; rfl
theorem vk0 {l:List Keyed} (h:l.Pairwise (le lt)) {i j:Nat} {x y:Keyed} (hij:i < j) (ex:l[i]?=some x) (ey:l[j]?=some y):le lt x y:=by
 obtain ⟨h1,rfl⟩:=List.getElem?_eq_some_iff.mp ex
 obtain ⟨h2,rfl⟩:=List.getElem?_eq_some_iff.mp ey
 exact List.pairwise_iff_getElem.mp h i j h1 h2 hij
theorem byF (c:Cm prog w A s κ lt M) {a:Array Keyed} (ma:∀ x ∈ a.toList,M x) {key:Keyed} {ia n:Nat} (hn:ia + n<=a.size) (mk:M key) (sa:a.toList.Pairwise (le lt)):By lt M false key a ia n (λ i=>!lt key (a.toList.getD (ia + i) key)) where
 ky:=mk
 it:=λ i hi=>by
  obtain ⟨x,e1,e2,e3⟩:=yd0 (a:=a) (i:=ia + i) (by rw [Array.length_toList]; omega)
  exact ⟨x,e1,ma x e3,by rw [getD_some e2,if_neg (by simp)]⟩
 mono:=λ i j hij hj h=>by
  by_cases z:i=j
  ·subst z; exact h
  obtain ⟨x,_,e2,_⟩:=yd0 (a:=a) (i:=ia + i) (by rw [Array.length_toList]; omega)
  obtain ⟨y,_,e5,_⟩:=yd0 (a:=a) (i:=ia + j) (by rw [Array.length_toList]; omega)
  have l:=vk0 sa (show ia + i < ia + j by omega) e2 e5
  rw [getD_some e5] at h
  rw [getD_some e2]
  have h':le lt y key:=(by simpa using h:lt key y=false)
  have q:lt key x=false:=c.le_tr l h'
  simpa using q
theorem byT (c:Cm prog w A s κ lt M) {a:Array Keyed} (ma:∀ x ∈ a.toList,M x) {key:Keyed} {ia n:Nat} (hn:ia + n<=a.size) (mk:M key) (sa:a.toList.Pairwise (le lt)):By lt M true key a ia n (λ i=>lt (a.toList.getD (ia + i) key) key) where
 ky:=mk
 it:=λ i hi=>by
  obtain ⟨x,e1,e2,e3⟩:=yd0 (a:=a) (i:=ia + i) (by rw [Array.length_toList]; omega)
  exact ⟨x,e1,ma x e3,by rw [getD_some e2,if_pos rfl]⟩
 mono:=λ i j hij hj h=>by
  by_cases z:i=j
  ·subst z; exact h
  obtain ⟨x,_,e2,_⟩:=yd0 (a:=a) (i:=ia + i) (by rw [Array.length_toList]; omega)
  obtain ⟨y,_,e5,_⟩:=yd0 (a:=a) (i:=ia + j) (by rw [Array.length_toList]; omega)
  have l:=vk0 sa (show ia + i < ia + j by omega) e2 e5
  rw [getD_some e5] at h
  rw [getD_some e2]
  rcases c.ng y x key h with q | q
  ·rw [show lt y x=false from l] at q; cases q
  ·exact q
noncomputable def Pst (κ:SortKind) (lt:Keyed->Keyed->Bool) (a b:Array Keyed) (st:SortSt) (x:Nat):ForInStep GR->SortSt->Prop:=λ r st'=>match r with
 | .done c'=>Same κ st st' /\ Mid lt a.toList b.toList (x + 2) c'.1 c'.2.1 c'.2.2.1 c'.2.2.2.1
 | .yield c'=>Same κ st st' /\ c'.1=none /\ Mid lt a.toList b.toList (x + 2) none c'.2.1 c'.2.2.1 c'.2.2.2.1
theorem td2 {α:Type} {Md:Model} {A:Around} {E:Value->Shared->Prop} {s:Shared} {C:Nat->Prop} [I:∀ g,Decidable (C g)] {t e:Nat->StateT SortSt Sem α} {Q:α->SortSt->Prop} {st:SortSt} (ht:∀ g,t g=e (g - 1)) (h:∀ g,wpS Md A E s (e g) Q st) (g:Nat):wpS Md A E s (@ite _ (C g) (I g) (t g) (e g)) Q st:=by
 by_cases q:C g
 ·rw [if_pos q,ht]; exact h _
 ·rw [if_neg q]; exact h _
theorem zi3 (c:Cm prog w A s κ lt M) {a b:Array Keyed} {st:SortSt} {Q:Array Keyed->SortSt->Prop} (o:Ok κ st) (ma:∀ x ∈ a.toList,M x) (mb:∀ x ∈ b.toList,M x) (sa:a.toList.Pairwise (le lt)) (sb:b.toList.Pairwise (le lt))
    (na:0 < a.toList.length) (nb:0 < b.toList.length) (h0:∀ x y,b.toList[0]?=some x->a.toList[0]?=some y->le lt x y) (hl:∀ x,a.toList[a.toList.length - 1]?=some x->∀ y ∈ b.toList,le lt y x)
    (h:∀ r st',Same κ st st'->Fin lt a.toList b.toList r.toList->Q r st'):wpS (model prog w) A E s (mlo a b) Q st:=by
 refine wpS_bind (wpS_lift (wpAny_rule ⟨rfl,?_⟩))
 obtain ⟨b0,eb,eb',hb0⟩:=yd0 (a:=b) nb
 refine wpS_bind (wc0 eb ?_)
 dsimp only
 obtain ⟨a0,ea,ea',ha0⟩:=yd0 (a:=a) na
 have dn:∀ {l:List Keyed} {x:Keyed} {i:Nat},l.Pairwise (le lt)->l[i]?=some x->∀ z,le lt z x->∀ y ∈ l.drop i,le lt z y:=by
  intro l x i sl e z hz y hy
  rw [tf0 e] at hy
  rcases List.mem_cons.mp hy with rfl | hy
  ·exact hz
  ·exact c.le_tr hz (tx0 sl e y hy)
 have m0:MI lt a.toList b.toList #[b0].toList 0 1:=by
  have m:MI lt a.toList b.toList [] 0 0:=⟨List.Pairwise.nil,λ _ h=>(nomatch h),λ _ h=>(nomatch h),.refl _⟩
  exact m.b sb eb' (dn sa ea' b0 (h0 _ _ eb' ea'))
 have doneB:∀ {out:Array Keyed} {ia ib:Nat},MI lt a.toList b.toList out.toList ia ib->b.size<=ib->Fin lt a.toList b.toList (out ++ a.extract ia a.size ++ b.extract ib b.size).toList:=by
  intro out ia ib m hi
  rw [Array.toList_append,Array.toList_append,vf0,vf0]
  exact m.endB sa hi
 have doneA:∀ {out:Array Keyed} {ia ib:Nat},MI lt a.toList b.toList out.toList ia ib->a.size<=ia->Fin lt a.toList b.toList (out ++ a.extract ia a.size ++ b.extract ib b.size).toList:=by
  intro out ia ib m hi
  rw [Array.toList_append,Array.toList_append,vf0,vf0]
  exact m.endA sb hi
 have lastA:∀ {out:Array Keyed} {ia ib:Nat},MI lt a.toList b.toList out.toList ia ib->ia + 1=a.size->Fin lt a.toList b.toList (out ++ b.extract ib b.size ++ a.extract ia a.size).toList:=by
  intro out ia ib m hi
  rw [Array.toList_append,Array.toList_append,vf0,vf0]
  exact m.last sb hi hl
 have sza:a.toList.length=a.size:=Array.length_toList
 have szb:b.toList.length=b.size:=Array.length_toList
 have nxA:∀ (x k1 k2 g:Nat) (out:Array Keyed) (i j:Nat) (st3:SortSt),Same κ st st3->MI lt a.toList b.toList out.toList i j->i + 1 < a.size->j < b.size->x + 2<=i + j + 1->(∀ v,a.toList[i]?=some v->∀ y ∈ b.toList.drop j,le lt v y) ->
     wpS (model prog w) A E s (elem' a i >>= λ v=>if (i + 1 + 1 == a.size)=true then pure (.done (some (out.push v ++ b.extract j b.size ++ a.extract (i + 1) a.size),out.push v,i + 1,j,g,k1,k2))
      else if (decide (k1 < 7) && decide (k2 < 7))=true then pure (.done (none,out.push v,i + 1,j,g,k1,k2)) else pure (.yield (none,out.push v,i + 1,j,g,k1,k2))) (Pst κ lt a b st x) st3:=by
  intro x k1 k2 g out i j st3 s3 m h1 h2 h3 hle
  obtain ⟨va,e4,e5,e6⟩:=yd0 (a:=a) (i:=i) (by omega)
  refine wpS_bind (wc0 e4 ?_)
  have m':=m.a sa e5 (hle va e5)
  rw [<- Array.toList_push] at m'
  by_cases z:(i + 1 + 1 == a.size)=true
  ·rw [if_pos z]
   exact wpS_pure ⟨s3,lastA m' (eq_of_beq z)⟩
  ·rw [if_neg z]
   have z':i + 1 + 1 ≠ a.size:=λ e=>z (beq_iff_eq.mpr e)
   by_cases y1:(decide (k1 < 7) && decide (k2 < 7))=true
   ·rw [if_pos y1]
    exact wpS_pure ⟨s3,m',by show i + 1 + 1 < _; omega,by show j < _; omega,by show _<=i + 1 + j; omega⟩
   ·rw [if_neg y1]
    exact wpS_pure ⟨s3,rfl,m',by show i + 1 + 1 < _; omega,by show j < _; omega,by show _<=i + 1 + j; omega⟩
 have nxB:∀ (x k bc g:Nat) (out:Array Keyed) {i j:Nat} {st3:SortSt} {vb:Keyed},Same κ st st3->MI lt a.toList b.toList out.toList i j->i + 1 < a.size->j < b.toList.length->x + 2<=i + j->b[j]?=some vb->b.toList[j]?=some vb->(∀ y ∈ a.toList.drop i,le lt vb y) ->
     ∀ (G:Keyed->Keyed->Option Nat->StateT SortSt Sem (ForInStep GR)),(∀ v y k2,G v y (some k2)=galC a b k k2 (out.push v) i (j + 1) g) ->
     wpS (model prog w) A E s (elem' b j >>= λ v=>if (j + 1 == b.size)=true then pure (.done (some (out.push v ++ a.extract i a.size ++ b.extract (j + 1) b.size),out.push v,i,j + 1,g,k,bc))
      else elem' a i >>= λ y=>gal true y b (j + 1) (b.size - (j + 1)) 0 >>= G v y) (Pst κ lt a b st x) st3:=by
  intro x k bc g out i j st3 vb s3 m h1 h2 h3 e1 e2 lo G hG
  refine wpS_bind (wc0 e1 ?_)
  have m':=m.b sb e2 lo
  rw [<- Array.toList_push] at m'
  by_cases z:(j + 1 == b.size)=true
  ·rw [if_pos z]
   exact wpS_pure ⟨s3,doneB m' (Nat.le_of_eq (eq_of_beq z).symm)⟩
  ·rw [if_neg z]
   have z':j + 1 ≠ b.size:=λ e=>z (beq_iff_eq.mpr e)
   obtain ⟨va,e4,e5,e6⟩:=yd0 (a:=a) (i:=i) (by omega)
   refine wpS_bind (wc0 e4 ?_)
   refine wpS_bind (vq0 c s3.ok (byT c mb (by omega) (ma _ e6) sb) (by omega) λ k2 q1 q2 q3=>?_)
   rw [hG]
   unfold galC
   dsimp only
   have mk:=m'.bs sb k2 (by omega) λ i y hi ey=>dn sa e5 y (by
    have q:=q2 i hi
    rw [getD_some ey] at q
    exact c.lt_le q)
   have lo2:∀ v,a.toList[i]?=some v->∀ y ∈ b.toList.drop (j + 1 + k2),le lt v y:=by
    intro v ev y hy
    rw [e5] at ev
    cases ev
    obtain ⟨n,hn,ey⟩:=List.mem_drop_iff_getElem.mp hy
    have q:=q3 (k2 + n) (by omega) (by omega)
    rw [getD_some (x:=y) (by rw [show j + 1 + (k2 + n)=j + 1 + k2 + n by omega,List.getElem?_eq_getElem (by omega)]; exact congrArg some ey)] at q
    exact q
   by_cases kp:k2 > 0
   ·rw [if_pos kp]
    rw [<- yq2,<- Array.toList_append] at mk
    by_cases zz:(j + 1 + k2 == b.size)=true
    ·rw [if_pos zz]
     exact wpS_pure ⟨s3,doneB mk (Nat.le_of_eq (eq_of_beq zz).symm)⟩
    ·rw [if_neg zz]
     have zz':j + 1 + k2 ≠ b.size:=λ e=>zz (beq_iff_eq.mpr e)
     exact nxA x _ _ _ _ _ _ _ s3 mk h1 (by omega) (by omega) lo2
   ·rw [if_neg kp]
    have k0:k2=0:=by omega
    subst k0
    exact nxA x _ _ _ _ _ _ _ s3 m' h1 (by omega) (by omega) lo2
 by_cases z1:(1 == b.size)=true
 ·rw [if_pos z1]
  exact wpS_pure (h _ _ ⟨o,rfl,rfl⟩ (doneB m0 (by have:=eq_of_beq z1; omega)))
 rw [if_neg z1]
 by_cases z2:(0 + 1 == a.size)=true
 ·rw [if_pos z2]
  exact wpS_pure (h _ _ ⟨o,rfl,rfl⟩ (lastA m0 (eq_of_beq z2)))
 rw [if_neg z2]
 have n1:b.size ≠ 1:=λ e=>z1 (beq_iff_eq.mpr e.symm)
 have n2:a.size ≠ 1:=λ e=>z2 (beq_iff_eq.mpr e.symm)
 refine wpS_bind (wpS_get ?_)
 refine wpS_bind (wpS_mono (wpS_forRange (λ x (r:Option (Array Keyed) × Array Keyed × Nat × Nat × Nat) st'=>Same κ st st' /\ r.1=none /\ Mid lt a.toList b.toList (x + 1) none r.2.1 r.2.2.1 r.2.2.2.1)
  (Q:=λ (r:Option (Array Keyed) × Array Keyed × Nat × Nat × Nat) st'=>Same κ st st' /\ ∃ z,r.1=some z /\ Fin lt a.toList b.toList z.toList) ?_ ?_ ⟨⟨o,rfl,rfl⟩,rfl,m0,by show 0 + 1 < _; omega,by show 1 < _; omega,Nat.le_refl 1⟩) ?_)
 ·rintro x ⟨r,out,ia,ib,mg⟩ st1 _ hx ⟨s1,rfl,mi⟩
  dsimp only at mi ⊢
  refine wpS_bind (wpS_mono (wpS_forRange (λ y (r:Option (Array Keyed) × Array Keyed × Nat × Nat × Nat × Nat) st'=>Same κ st st' /\ r.1=none /\ Mid lt a.toList b.toList (x + 1 + y) none r.2.1 r.2.2.1 r.2.2.2.1)
   (Q:=λ (r:Option (Array Keyed) × Array Keyed × Nat × Nat × Nat × Nat) st'=>Same κ st st' /\ Mid lt a.toList b.toList (x + 2) r.1 r.2.1 r.2.2.1 r.2.2.2.1) ?_ ?_ ⟨s1,rfl,mi⟩) ?_)
  ·rintro y ⟨r,out,ia,ib,ac,bc⟩ st2 _ hy ⟨s2,rfl,m,i1,i2,i3⟩
   dsimp only at m i1 i2 i3 ⊢
   obtain ⟨vb,e1,e2,e3⟩:=yd0 (a:=b) i2
   obtain ⟨va,e4,e5,e6⟩:=yd0 (a:=a) (i:=ia) (by omega)
   refine wpS_bind (wc0 e1 (wpS_bind (wc0 e4 (wpS_bind (sp1 c s2.ok (mb _ e3) (ma _ e6) ?_)))))
   cases q:lt vb va with
   | true =>
    dsimp only
    rw [if_pos rfl]
    refine wpS_bind (wc0 e1 ?_)
    have m':=m.b sb e2 (dn sa e5 vb (c.lt_le q))
    rw [<- Array.toList_push] at m'
    by_cases z:(ib + 1 == b.size)=true
    ·rw [if_pos z]
     exact wpS_pure ⟨s2,doneB m' (Nat.le_of_eq (eq_of_beq z).symm)⟩
    ·rw [if_neg z]
     have z':ib + 1 ≠ b.size:=λ e=>z (beq_iff_eq.mpr e)
     by_cases y1:bc + 1 ≥ mg
     ·rw [if_pos y1]
      exact wpS_pure ⟨s2,m',i1,by show ib + 1 < _; omega,by show _<=ia + (ib + 1); omega⟩
     ·rw [if_neg y1]
      exact wpS_pure ⟨s2,rfl,m',i1,by show ib + 1 < _; omega,by show _<=ia + (ib + 1); omega⟩
   | false =>
    dsimp only
    rw [if_neg (by simp)]
    refine wpS_bind (wc0 e4 ?_)
    have m':=m.a sa e5 (dn sb e2 va q)
    rw [<- Array.toList_push] at m'
    by_cases z:(ia + 1 + 1 == a.size)=true
    ·rw [if_pos z]
     exact wpS_pure ⟨s2,lastA m' (eq_of_beq z)⟩
    ·rw [if_neg z]
     have z':ia + 1 + 1 ≠ a.size:=λ e=>z (beq_iff_eq.mpr e)
     by_cases y1:ac + 1 ≥ mg
     ·rw [if_pos y1]
      exact wpS_pure ⟨s2,m',by show ia + 1 + 1 < _; omega,i2,by show _<=ia + 1 + ib; omega⟩
     ·rw [if_neg y1]
      exact wpS_pure ⟨s2,rfl,m',by show ia + 1 + 1 < _; omega,i2,by show _<=ia + 1 + ib; omega⟩
  ·rintro ⟨r,out,ia,ib,ac,bc⟩ st2 ⟨s2,rfl,m,i1,i2,i3⟩
   exact ⟨s2,m,i1,i2,by omega⟩
  ·rintro ⟨r,out,ia,ib,ac,bc⟩ st2 ⟨s2,mm⟩
   dsimp only at mm ⊢
   cases r with
   | some z=>exact wpS_pure ⟨s2,z,rfl,mm⟩
   | none =>
    dsimp only
    refine wpS_bind (wpS_lift (wpAny_rule ⟨rfl,?_⟩))
    refine wpS_bind (wpS_mono (wpS_forRange (λ y (r:Option (Array Keyed) × Array Keyed × Nat × Nat × Nat × Nat × Nat) st'=>Same κ st st' /\ r.1=none /\ Mid lt a.toList b.toList (x + 2) none r.2.1 r.2.2.1 r.2.2.2.1)
     (Q:=λ (r:Option (Array Keyed) × Array Keyed × Nat × Nat × Nat × Nat × Nat) st'=>Same κ st st' /\ Mid lt a.toList b.toList (x + 2) r.1 r.2.1 r.2.2.1 r.2.2.2.1) ?_ ?_ ⟨s2,rfl,mm⟩) ?_)
    ·rintro y ⟨r,out,ia,ib,mg,ac,bc⟩ st3 _ hy ⟨s3,rfl,m,i1,i2,i3⟩
     dsimp only at m i1 i2 i3 ⊢
     have s3':∀ g:Nat,Same κ st (SortSt.mk' (kindOf st3) (arrOf st3) (pendingOf st3) g (failedOf st3)):=λ g=>⟨⟨s3.ok.kd,s3.ok.fl⟩,s3.ar,s3.pe⟩
     obtain ⟨vb,e1,e2,e3⟩:=yd0 (a:=b) i2
     revert mg
     refine td2 (λ _=>rfl) λ mg=>?_
     refine wpS_bind (wpS_modify ?_)
     refine wpS_bind (wc0 e1 ?_)
     refine wpS_bind (vq0 c (s3' _).ok (byF c ma (by omega) (mb _ e3) sa) (by omega) λ k k1 k2 k3=>?_)
     dsimp only
     have mk:=m.as sa k (by omega) λ i y hi ey=>dn sb e2 y (by
      have q:=k2 i hi
      rw [getD_some ey] at q
      exact (by simpa using q:lt vb y=false))
     have lo:∀ y ∈ a.toList.drop (ia + k),le lt vb y:=by
      intro y hy
      obtain ⟨i,hi,ey⟩:=List.mem_drop_iff_getElem.mp hy
      have q:=k3 (k + i) (by omega) (by omega)
      rw [getD_some (x:=y) (by rw [show ia + (k + i)=ia + k + i by omega,List.getElem?_eq_getElem (by omega)]; exact congrArg some ey)] at q
      exact c.lt_le (by simpa using q)
     by_cases kp:k > 0
     ·rw [if_pos kp]
      have mk':=mk
      rw [<- yq2,<- Array.toList_append] at mk'
      by_cases z:(ia + k + 1 == a.size)=true
      ·rw [if_pos z]
       exact wpS_pure ⟨s3' _,lastA mk' (eq_of_beq z)⟩
      ·rw [if_neg z]
       have z':ia + k + 1 ≠ a.size:=λ e=>z (beq_iff_eq.mpr e)
       by_cases zz:(ia + k == a.size)=true
       ·rw [if_pos zz]
        exact wpS_pure ⟨s3' _,doneA mk' (Nat.le_of_eq (eq_of_beq zz).symm)⟩
       ·rw [if_neg zz]
        have zz':ia + k ≠ a.size:=λ e=>zz (beq_iff_eq.mpr e)
        refine wpS_mono (nxB x k bc _ _ (s3' _) mk' (by omega) i2 (by omega) e1 e2 lo _ ?_) ?_
        ·intro _ _ _; rfl
        ·intro r st' q; cases r <;> exact q
     ·rw [if_neg kp]
      have k0:k=0:=by omega
      subst k0
      rw [List.take_zero,List.append_nil] at mk
      refine wpS_mono (nxB x 0 bc _ _ (s3' _) m (by omega) i2 (by omega) e1 e2 lo _ ?_) ?_
      ·intro _ _ _; rfl
      ·intro r st' q; cases r <;> exact q
    ·rintro ⟨r,out,ia,ib,mg,ac,bc⟩ st3 ⟨s3,rfl,m,i1,i2,i3⟩
     exact ⟨s3,m,i1,i2,i3⟩
    ·rintro ⟨r,out,ia,ib,mg,ac,bc⟩ st3 ⟨s3,mm⟩
     dsimp only at mm ⊢
     cases r with
     | some z=>exact wpS_pure ⟨s3,z,rfl,mm⟩
     | none =>
      dsimp only
      exact wpS_bind (wpS_modify (wpS_pure ⟨⟨⟨s3.ok.kd,s3.ok.fl⟩,s3.ar,s3.pe⟩,rfl,mm⟩))
 ·rintro ⟨r,out,ia,ib,mg⟩ st1 ⟨s1,rfl,m,i1,i2,i3⟩
  exfalso
  dsimp only at i1 i2 i3
  omega
 ·rintro ⟨r,out,ia,ib,mg⟩ st1 ⟨s1,z,e,f⟩
  dsimp only at e ⊢
  subst e
  exact wpS_pure (h z st1 s1 f)
end
end Ts
namespace Ts
open PySem PyProof.Rows
noncomputable def mhi:Array Keyed->Array Keyed->StateT SortSt Sem (Array Keyed):=sortPriv% PySem.Builtin.mergeHi
section
variable {lt:Keyed->Keyed->Bool}
theorem ye0 {α:Type} {l:List α} {i:Nat} {x:α} (h:l[i]?=some x):l.take (i + 1)=l.take i ++ [x]:=by rw [List.take_succ,h]; rfl
theorem tc1 {α:Type} {l:List α} {i n:Nat} {x:α} (h:l[i]?=some x) (hi:i < n):x ∈ l.take n:=List.mem_iff_getElem?.mpr ⟨i,by rw [List.getElem?_take_of_lt hi]; exact h⟩
structure MH (lt:Keyed->Keyed->Bool) (la lb ro:List Keyed) (na nb:Nat):Prop where
 so:ro.Pairwise (le lt)
 xa:∀ x ∈ la.take na,∀ y ∈ ro,le lt x y
 xb:∀ x ∈ lb.take nb,∀ y ∈ ro,le lt x y
 pm:(la.take na ++ (lb.take nb ++ ro)).Perm (la ++ lb)
theorem vi2 {l:List Keyed} (h:l.Pairwise (le lt)) {n:Nat} {x:Keyed} (e:l[n]?=some x):∀ z ∈ l.take n,le lt z x:=by
 intro z hz
 obtain ⟨i,hi,ez⟩:=List.mem_take_iff_getElem.mp hz
 exact vk0 h (by omega) (List.getElem?_eq_some_iff.mpr ⟨by omega,ez⟩) e
theorem MH.a {la lb ro:List Keyed} {n nb:Nat} {x:Keyed} (m:MH lt la lb ro (n + 1) nb) (sa:la.Pairwise (le lt)) (e:la[n]?=some x) (k:∀ y ∈ lb.take nb,le lt y x):MH lt la lb (x :: ro) n nb:=by
 have d:=ye0 e
 refine ⟨List.pairwise_cons.mpr ⟨λ y hy=>m.xa x (tc1 e (by omega)) y hy,m.so⟩,λ z hz y hy=>?_,λ z hz y hy=>?_,?_⟩
 ·rcases List.mem_cons.mp hy with rfl | hy
  ·exact vi2 sa e z hz
  ·exact m.xa z (by rw [d]; exact List.mem_append_left _ hz) y hy
 ·rcases List.mem_cons.mp hy with rfl | hy
  ·exact k z hz
  ·exact m.xb z hz y hy
 ·refine .trans ?_ m.pm
  rw [d,List.append_assoc]
  refine List.Perm.append_left _ ?_
  exact List.perm_middle
theorem MH.b {la lb ro:List Keyed} {na n:Nat} {x:Keyed} (m:MH lt la lb ro na (n + 1)) (sb:lb.Pairwise (le lt)) (e:lb[n]?=some x) (k:∀ y ∈ la.take na,le lt y x):MH lt la lb (x :: ro) na n:=by
 have d:=ye0 e
 refine ⟨List.pairwise_cons.mpr ⟨λ y hy=>m.xb x (tc1 e (by omega)) y hy,m.so⟩,λ z hz y hy=>?_,λ z hz y hy=>?_,?_⟩
 ·rcases List.mem_cons.mp hy with rfl | hy
  ·exact k z hz
  ·exact m.xa z hz y hy
 ·rcases List.mem_cons.mp hy with rfl | hy
  ·exact vi2 sb e z hz
  ·exact m.xb z (by rw [d]; exact List.mem_append_left _ hz) y hy
 ·have p:=m.pm
  rw [d,List.append_assoc] at p
  exact p
theorem MH.as {la lb:List Keyed} {nb:Nat} (sa:la.Pairwise (le lt)) {at_:Nat}:∀ (k:Nat) {ro:List Keyed},MH lt la lb ro (at_ + k) nb->at_ + k<=la.length->(∀ i x,at_<=i->i < at_ + k->la[i]?=some x->∀ y ∈ lb.take nb,le lt y x)->MH lt la lb ((la.take (at_ + k)).drop at_ ++ ro) at_ nb
 | 0,ro,m,_,_=>by
  have e:(la.take (at_ + 0)).drop at_=[]:=List.drop_eq_nil_of_le (by rw [List.length_take]; omega)
  rw [e]
  exact m
 | k + 1,ro,m,h,q=>by
  have e:la[at_ + k]?=some la[at_ + k]:=List.getElem?_eq_getElem (by omega)
  have m2:=MH.a (n:=at_ + k) m sa e (q _ _ (by omega) (by omega) e)
  have r:=MH.as sa k m2 (by omega) λ i x h1 h2=>q i x h1 (by omega)
  have e2:(la.take (at_ + (k + 1))).drop at_=(la.take (at_ + k)).drop at_ ++ [la[at_ + k]]:=by
   rw [show at_ + (k + 1)=at_ + k + 1 from rfl,ye0 e,List.drop_append_of_le_length (by rw [List.length_take]; omega)]
  rw [e2,List.append_assoc]
  exact r
theorem MH.bs {la lb:List Keyed} {na:Nat} (sb:lb.Pairwise (le lt)) {at_:Nat}:∀ (k:Nat) {ro:List Keyed},MH lt la lb ro na (at_ + k)->at_ + k<=lb.length->(∀ i x,at_<=i->i < at_ + k->lb[i]?=some x->∀ y ∈ la.take na,le lt y x)->MH lt la lb ((lb.take (at_ + k)).drop at_ ++ ro) na at_
 | 0,ro,m,_,_=>by
  have e:(lb.take (at_ + 0)).drop at_=[]:=List.drop_eq_nil_of_le (by rw [List.length_take]; omega)
  rw [e]
  exact m
 | k + 1,ro,m,h,q=>by
  have e:lb[at_ + k]?=some lb[at_ + k]:=List.getElem?_eq_getElem (by omega)
  have m2:=MH.b (n:=at_ + k) m sb e (q _ _ (by omega) (by omega) e)
  have r:=MH.bs sb k m2 (by omega) λ i x h1 h2=>q i x h1 (by omega)
  have e2:(lb.take (at_ + (k + 1))).drop at_=(lb.take (at_ + k)).drop at_ ++ [lb[at_ + k]]:=by
   rw [show at_ + (k + 1)=at_ + k + 1 from rfl,ye0 e,List.drop_append_of_le_length (by rw [List.length_take]; omega)]
  rw [e2,List.append_assoc]
  exact r
theorem MH.endA {la lb ro:List Keyed} {nb:Nat} (m:MH lt la lb ro 0 nb) (sb:lb.Pairwise (le lt)):Fin lt la lb (la.take 0 ++ lb.take nb ++ ro):=by
 have p:=m.pm
 rw [List.take_zero,List.nil_append] at p ⊢
 exact ⟨p,List.pairwise_append.mpr ⟨sb.sublist (List.take_sublist _ _),m.so,m.xb⟩⟩
theorem MH.endB {la lb ro:List Keyed} {na:Nat} (m:MH lt la lb ro na 0) (sa:la.Pairwise (le lt)):Fin lt la lb (la.take na ++ lb.take 0 ++ ro):=by
 have p:=m.pm
 rw [List.take_zero,List.nil_append] at p
 rw [List.take_zero,List.append_nil]
 exact ⟨p,List.pairwise_append.mpr ⟨sa.sublist (List.take_sublist _ _),m.so,m.xa⟩⟩
theorem MH.first {la lb ro:List Keyed} {na:Nat} (m:MH lt la lb ro na 1) (sa:la.Pairwise (le lt)) (hb:0 < lb.length) (k:∀ x,lb[0]?=some x->∀ y ∈ la,le lt x y):Fin lt la lb (lb.take 1 ++ la.take na ++ ro):=by
 have e:lb[0]?=some lb[0]:=List.getElem?_eq_getElem hb
 have d:=ye0 e
 rw [List.take_zero,List.nil_append] at d
 refine ⟨?_,?_⟩
 ·refine .trans ?_ m.pm
  rw [<- List.append_assoc]
  exact List.Perm.append_right _ List.perm_append_comm
 ·refine List.pairwise_append.mpr ⟨List.pairwise_append.mpr ⟨?_,sa.sublist (List.take_sublist _ _),λ x hx y hy=>?_⟩,m.so,λ x hx y hy=>?_⟩
  ·rw [d]; exact List.pairwise_singleton _ _
  ·rw [d,List.mem_singleton] at hx
   subst hx
   exact k _ e y (List.mem_of_mem_take hy)
  ·rcases List.mem_append.mp hx with hx | hx
   ·exact m.xb x hx y hy
   ·exact m.xa x hx y hy
noncomputable def MidH (lt:Keyed->Keyed->Bool) (la lb:List Keyed) (n:Nat) (r:Option (Array Keyed)) (na nb:Nat) (out:Array Keyed):Prop:=match r with
 | some z=>Fin lt la lb z.toList
 | none=>MH lt la lb out.toList.reverse na nb /\ 0 < na /\ na<=la.length /\ 1 < nb /\ nb<=lb.length /\ na + nb + n<=la.length + lb.length
end
theorem ext0 (a:Array Keyed) (n:Nat):(a.extract 0 n).toList=a.toList.take n:=by
 rw [Array.toList_extract]
 simp [List.extract]
theorem xq2 (a:Array Keyed) (i n:Nat):(a.extract i n).toList=(a.toList.take n).drop i:=by
 rw [Array.toList_extract,List.extract_eq_drop_take,List.drop_take]
theorem sl0 (u:Array Keyed) (v:Keyed):(u.push v).toList.reverse=v :: u.toList.reverse:=by simp
theorem tm1 (u t:Array Keyed):(u ++ t.reverse).toList.reverse=t.toList ++ u.toList.reverse:=by simp
noncomputable abbrev GH:=Option (Array Keyed) × Nat × Nat × Array Keyed × Nat × Nat × Nat
noncomputable def PstH (κ:SortKind) (lt:Keyed->Keyed->Bool) (a b:Array Keyed) (st:SortSt) (x:Nat):ForInStep GH->SortSt->Prop:=λ r st'=>match r with
 | .done c'=>Same κ st st' /\ MidH lt a.toList b.toList (x + 2) c'.1 c'.2.1 c'.2.2.1 c'.2.2.2.1
 | .yield c'=>Same κ st st' /\ c'.1=none /\ MidH lt a.toList b.toList (x + 2) none c'.2.1 c'.2.2.1 c'.2.2.2.1
noncomputable def galH (a b:Array Keyed) (k1 t:Nat) (u:Array Keyed) (i j g:Nat):StateT SortSt Sem (ForInStep GH) :=
 let nx:Nat->Array Keyed->StateT SortSt Sem (ForInStep GH):=λ m u=>elem' a (i - 1) >>= λ v =>
  if (i - 1 == 0)=true then pure (.done (some (a.extract 0 (i - 1) ++ b.extract 0 m ++ (u.push v).reverse),i - 1,m,u.push v,g,k1,j - t))
  else if (decide (k1 < 7) && decide (j - t < 7))=true then pure (.done (none,i - 1,m,u.push v,g,k1,j - t)) else pure (.yield (none,i - 1,m,u.push v,g,k1,j - t))
 if j - t > 0 then (if (t == 1)=true then pure (.done (some (b.extract 0 t ++ a.extract 0 i ++ (u ++ (b.extract t j).reverse).reverse),i,t,u ++ (b.extract t j).reverse,g,k1,j - t))
  else if (t == 0)=true then pure (.done (some (a.extract 0 i ++ b.extract 0 t ++ (u ++ (b.extract t j).reverse).reverse),i,t,u ++ (b.extract t j).reverse,g,k1,j - t)) else nx t (u ++ (b.extract t j).reverse)) else nx j u
section
variable {prog:Program} {w:World} {A:Around} {E:Value->Shared->Prop} {s:Shared} {κ:SortKind}
variable {lt:Keyed->Keyed->Bool} {M:Keyed->Prop}
theorem ui3 (c:Cm prog w A s κ lt M) {a b:Array Keyed} {st:SortSt} {Q:Array Keyed->SortSt->Prop} (o:Ok κ st) (ma:∀ x ∈ a.toList,M x) (mb:∀ x ∈ b.toList,M x) (sa:a.toList.Pairwise (le lt)) (sb:b.toList.Pairwise (le lt))
    (na:0 < a.toList.length) (nb:0 < b.toList.length) (h0:∀ x y,b.toList[0]?=some x->a.toList[0]?=some y->le lt x y) (hl:∀ x,a.toList[a.toList.length - 1]?=some x->∀ y ∈ b.toList,le lt y x)
    (h:∀ r st',Same κ st st'->Fin lt a.toList b.toList r.toList->Q r st'):wpS (model prog w) A E s (mhi a b) Q st:=by
 refine wpS_bind (wpS_lift (wpAny_rule ⟨rfl,?_⟩))
 have sza:a.toList.length=a.size:=Array.length_toList
 have szb:b.toList.length=b.size:=Array.length_toList
 obtain ⟨vl,el,el',hvl⟩:=yd0 (a:=a) (i:=a.size - 1) (by omega)
 refine wpS_bind (wc0 el ?_)
 dsimp only
 obtain ⟨a0,ea,ea',ha0⟩:=yd0 (a:=a) na
 have up:∀ {l:List Keyed} {x:Keyed} {n:Nat},l.Pairwise (le lt)->l[n]?=some x->∀ z,le lt x z->∀ y ∈ l.take (n + 1),le lt y z:=by
  intro l x n sl e z hz y hy
  rw [ye0 e] at hy
  rcases List.mem_append.mp hy with hy | hy
  ·exact c.le_tr (vi2 sl e y hy) hz
  ·rw [List.mem_singleton] at hy; subst hy; exact hz
 have fb:∀ x,b.toList[0]?=some x->∀ y ∈ a.toList,le lt x y:=by
  intro x ex y hy
  obtain ⟨i,hi,rfl⟩:=List.mem_iff_getElem.mp hy
  have e:=List.getElem?_eq_getElem hi
  have q:=h0 x a0 ex ea'
  by_cases z:i=0
  ·subst z; rw [ea'] at e; cases e; exact q
  ·exact c.le_tr q (vk0 sa (by omega) ea' e)
 have m0:MH lt a.toList b.toList #[vl].toList.reverse (a.size - 1) b.size:=by
  have m:MH lt a.toList b.toList [] (a.size - 1 + 1) b.size:=⟨List.Pairwise.nil,λ _ _ _ h=>(nomatch h),λ _ _ _ h=>(nomatch h),by
   rw [List.take_of_length_le (by omega),List.take_of_length_le (by omega),List.append_nil]⟩
  exact m.a sa el' λ y hy=>hl vl (by rw [sza]; exact el') y (List.mem_of_mem_take hy)
 have doneA:∀ {out:Array Keyed} {j:Nat} {i:Nat},MH lt a.toList b.toList out.toList.reverse i j->i=0->Fin lt a.toList b.toList (a.extract 0 i ++ b.extract 0 j ++ out.reverse).toList:=by
  intro out j i m hi
  subst hi
  rw [Array.toList_append,Array.toList_append,ext0,ext0,Array.toList_reverse]
  exact m.endA sb
 have doneB:∀ {out:Array Keyed} {j:Nat} {i:Nat},MH lt a.toList b.toList out.toList.reverse i j->j=0->Fin lt a.toList b.toList (a.extract 0 i ++ b.extract 0 j ++ out.reverse).toList:=by
  intro out j i m hi
  subst hi
  rw [Array.toList_append,Array.toList_append,ext0,ext0,Array.toList_reverse]
  exact m.endB sa
 have firstB:∀ {out:Array Keyed} {j:Nat} {i:Nat},MH lt a.toList b.toList out.toList.reverse i j->j=1->Fin lt a.toList b.toList (b.extract 0 j ++ a.extract 0 i ++ out.reverse).toList:=by
  intro out j i m hi
  subst hi
  rw [Array.toList_append,Array.toList_append,ext0,ext0,Array.toList_reverse]
  exact m.first sa nb fb
 have nxA:∀ (x k1 k2 g:Nat) (out:Array Keyed) (i j:Nat) (st3:SortSt),Same κ st st3->MH lt a.toList b.toList out.toList.reverse i j->0 < i->i<=a.size->1 < j->j<=b.size->i + j + (x + 1)<=a.size + b.size->(∀ v,a.toList[i - 1]?=some v->∀ y ∈ b.toList.take j,le lt y v) ->
     wpS (model prog w) A E s (elem' a (i - 1) >>= λ v=>if (i - 1 == 0)=true then pure (.done (some (a.extract 0 (i - 1) ++ b.extract 0 j ++ (out.push v).reverse),i - 1,j,out.push v,g,k1,k2))
      else if (decide (k1 < 7) && decide (k2 < 7))=true then pure (.done (none,i - 1,j,out.push v,g,k1,k2)) else pure (.yield (none,i - 1,j,out.push v,g,k1,k2))) (PstH κ lt a b st x) st3:=by
  intro x k1 k2 g out i j st3 s3 m p1 p2 p3 p4 p5 hle
  obtain ⟨n,rfl⟩:∃ n,i=n + 1:=⟨i - 1,by omega⟩
  rw [Nat.add_sub_cancel] at hle ⊢
  obtain ⟨va,e4,e5,e6⟩:=yd0 (a:=a) (i:=n) (by omega)
  refine wpS_bind (wc0 e4 ?_)
  have m':=m.a sa e5 (hle va e5)
  rw [<- sl0] at m'
  by_cases z:(n == 0)=true
  ·rw [if_pos z]
   exact wpS_pure ⟨s3,doneA m' (eq_of_beq z)⟩
  ·rw [if_neg z]
   have z':n ≠ 0:=λ e=>z (beq_iff_eq.mpr e)
   by_cases y1:(decide (k1 < 7) && decide (k2 < 7))=true
   ·rw [if_pos y1]
    exact wpS_pure ⟨s3,m',by show 0 < n; omega,by show n<=_; omega,p3,by show j<=_; omega,by show n + j + (x + 2)<=_; omega⟩
   ·rw [if_neg y1]
    exact wpS_pure ⟨s3,rfl,m',by show 0 < n; omega,by show n<=_; omega,p3,by show j<=_; omega,by show n + j + (x + 2)<=_; omega⟩
 have nxB:∀ (x k bc g:Nat) (out:Array Keyed) {i j:Nat} {st3:SortSt} {vb:Keyed},Same κ st st3->MH lt a.toList b.toList out.toList.reverse i j->0 < i->i<=a.size->1 < j->j<=b.size->i + j + (x + 2)<=a.size + b.size->b[j - 1]?=some vb->b.toList[j - 1]?=some vb->(∀ y ∈ a.toList.take i,le lt y vb) ->
     ∀ (G:Keyed->Keyed->Option Nat->StateT SortSt Sem (ForInStep GH)),(∀ v y t,G v y (some t)=galH a b k t (out.push v) i (j - 1) g) ->
     wpS (model prog w) A E s (elem' b (j - 1) >>= λ v=>if (j - 1 == 1)=true then pure (.done (some (b.extract 0 (j - 1) ++ a.extract 0 i ++ (out.push v).reverse),i,j - 1,out.push v,g,k,bc))
      else elem' a (i - 1) >>= λ y=>gal true y b 0 (j - 1) (j - 1 - 1) >>= G v y) (PstH κ lt a b st x) st3:=by
  intro x k bc g out i j st3 vb s3 m p1 p2 p3 p4 p5 e1 e2 lo G hG
  obtain ⟨n,rfl⟩:∃ n,j=n + 1:=⟨j - 1,by omega⟩
  rw [Nat.add_sub_cancel] at e1 e2 ⊢
  refine wpS_bind (wc0 e1 ?_)
  have m':=m.b sb e2 lo
  rw [<- sl0] at m'
  by_cases z:(n == 1)=true
  ·rw [if_pos z]
   exact wpS_pure ⟨s3,firstB m' (eq_of_beq z)⟩
  ·rw [if_neg z]
   have z':n ≠ 1:=λ e=>z (beq_iff_eq.mpr e)
   obtain ⟨va,e4,e5,e6⟩:=yd0 (a:=a) (i:=i - 1) (by omega)
   refine wpS_bind (wc0 e4 ?_)
   refine wpS_bind (vq0 c s3.ok (byT c mb (by omega) (ma _ e6) sb) (by omega) λ t q1 q2 q3=>?_)
   rw [hG,Nat.add_sub_cancel]
   unfold galH
   dsimp only
   obtain ⟨k2,rfl⟩:∃ k2,n=t + k2:=⟨n - t,by omega⟩
   have mk:=MH.bs sb k2 m' (by omega) λ ii y h1 h2 ey=>by
    have q:=q3 ii h1 h2
    rw [getD_some (x:=y) (by rw [Nat.zero_add]; exact ey)] at q
    have u:=up sa e5 y q
    rw [show i - 1 + 1=i by omega] at u
    exact u
   have lo2:∀ v,a.toList[i - 1]?=some v->∀ y ∈ b.toList.take t,le lt y v:=by
    intro v ev y hy
    rw [e5] at ev
    cases ev
    obtain ⟨ii,hi,ey⟩:=List.mem_take_iff_getElem.mp hy
    have q:=q2 ii (by omega)
    rw [getD_some (x:=y) (by rw [Nat.zero_add]; exact List.getElem?_eq_some_iff.mpr ⟨by omega,ey⟩)] at q
    exact c.lt_le q
   by_cases kp:t + k2 - t > 0
   ·rw [if_pos kp]
    rw [<- xq2,<- tm1] at mk
    by_cases zz:(t == 1)=true
    ·rw [if_pos zz]
     exact wpS_pure ⟨s3,firstB mk (eq_of_beq zz)⟩
    ·rw [if_neg zz]
     have zz':t ≠ 1:=λ e=>zz (beq_iff_eq.mpr e)
     by_cases zy:(t == 0)=true
     ·rw [if_pos zy]
      exact wpS_pure ⟨s3,doneB mk (eq_of_beq zy)⟩
     ·rw [if_neg zy]
      have zy':t ≠ 0:=λ e=>zy (beq_iff_eq.mpr e)
      exact nxA x _ _ _ _ _ _ _ s3 mk p1 p2 (by omega) (by omega) (by omega) lo2
   ·rw [if_neg kp]
    have k0:k2=0:=by omega
    subst k0
    exact nxA x _ _ _ _ _ _ _ s3 m' p1 p2 (by omega) (by omega) (by omega) lo2
 by_cases z1:(a.size - 1 == 0)=true
 ·rw [if_pos z1]
  exact wpS_pure (h _ _ ⟨o,rfl,rfl⟩ (doneA m0 (eq_of_beq z1)))
 rw [if_neg z1]
 by_cases z2:(b.size == 1)=true
 ·rw [if_pos z2]
  exact wpS_pure (h _ _ ⟨o,rfl,rfl⟩ (firstB m0 (eq_of_beq z2)))
 rw [if_neg z2]
 have n1:b.size ≠ 1:=λ e=>z2 (beq_iff_eq.mpr e)
 have n2:a.size - 1 ≠ 0:=λ e=>z1 (beq_iff_eq.mpr e)
 refine wpS_bind (wpS_get ?_)
 refine wpS_bind (wpS_mono (wpS_forRange (λ x (r:Option (Array Keyed) × Nat × Nat × Array Keyed × Nat) st'=>Same κ st st' /\ r.1=none /\ MidH lt a.toList b.toList (x + 1) none r.2.1 r.2.2.1 r.2.2.2.1)
  (Q:=λ (r:Option (Array Keyed) × Nat × Nat × Array Keyed × Nat) st'=>Same κ st st' /\ ∃ z,r.1=some z /\ Fin lt a.toList b.toList z.toList) ?_ ?_ ⟨⟨o,rfl,rfl⟩,rfl,m0,by show 0 < a.size - 1; omega,by show a.size - 1<=_; omega,by show 1 < b.size; omega,by show b.size<=_; omega,by show a.size - 1 + b.size + (0 + 1)<=_; omega⟩) ?_)
 ·rintro x ⟨r,i,j,out,mg⟩ st1 _ hx ⟨s1,rfl,mi⟩
  dsimp only at mi ⊢
  refine wpS_bind (wpS_mono (wpS_forRange (λ y (r:Option (Array Keyed) × Nat × Nat × Array Keyed × Nat × Nat) st'=>Same κ st st' /\ r.1=none /\ MidH lt a.toList b.toList (x + 1 + y) none r.2.1 r.2.2.1 r.2.2.2.1)
   (Q:=λ (r:Option (Array Keyed) × Nat × Nat × Array Keyed × Nat × Nat) st'=>Same κ st st' /\ MidH lt a.toList b.toList (x + 2) r.1 r.2.1 r.2.2.1 r.2.2.2.1) ?_ ?_ ⟨s1,rfl,mi⟩) ?_)
  ·rintro y ⟨r,i,j,out,ac,bc⟩ st2 _ hy ⟨s2,rfl,m,p1,p2,p3,p4,p5⟩
   dsimp only at m p1 p2 p3 p4 p5 ⊢
   obtain ⟨n,rfl⟩:∃ n,i=n + 1:=⟨i - 1,by omega⟩
   obtain ⟨l,rfl⟩:∃ l,j=l + 1:=⟨j - 1,by omega⟩
   simp only [Nat.add_sub_cancel]
   obtain ⟨vb,e1,e2,e3⟩:=yd0 (a:=b) (i:=l) (by omega)
   obtain ⟨va,e4,e5,e6⟩:=yd0 (a:=a) (i:=n) (by omega)
   refine wpS_bind (wc0 e1 (wpS_bind (wc0 e4 (wpS_bind (sp1 c s2.ok (mb _ e3) (ma _ e6) ?_)))))
   cases q:lt vb va with
   | true =>
    dsimp only
    rw [if_pos rfl]
    refine wpS_bind (wc0 e4 ?_)
    have m':=m.a sa e5 (up sb e2 va (c.lt_le q))
    rw [<- sl0] at m'
    by_cases z:(n == 0)=true
    ·rw [if_pos z]
     exact wpS_pure ⟨s2,doneA m' (eq_of_beq z)⟩
    ·rw [if_neg z]
     have z':n ≠ 0:=λ e=>z (beq_iff_eq.mpr e)
     by_cases y1:ac + 1 ≥ mg
     ·rw [if_pos y1]
      exact wpS_pure ⟨s2,m',by show 0 < n; omega,by show n<=_; omega,p3,p4,by show n + (l + 1) + (x + 2)<=_; omega⟩
     ·rw [if_neg y1]
      exact wpS_pure ⟨s2,rfl,m',by show 0 < n; omega,by show n<=_; omega,p3,p4,by show n + (l + 1) + (x + 1 + (y + 1))<=_; omega⟩
   | false =>
    dsimp only
    rw [if_neg (by simp)]
    refine wpS_bind (wc0 e1 ?_)
    have m':=m.b sb e2 (up sa e5 vb q)
    rw [<- sl0] at m'
    by_cases z:(l == 1)=true
    ·rw [if_pos z]
     exact wpS_pure ⟨s2,firstB m' (eq_of_beq z)⟩
    ·rw [if_neg z]
     have z':l ≠ 1:=λ e=>z (beq_iff_eq.mpr e)
     by_cases y1:bc + 1 ≥ mg
     ·rw [if_pos y1]
      exact wpS_pure ⟨s2,m',p1,p2,by show 1 < l; omega,by show l<=_; omega,by show n + 1 + l + (x + 2)<=_; omega⟩
     ·rw [if_neg y1]
      exact wpS_pure ⟨s2,rfl,m',p1,p2,by show 1 < l; omega,by show l<=_; omega,by show n + 1 + l + (x + 1 + (y + 1))<=_; omega⟩
  ·rintro ⟨r,i,j,out,ac,bc⟩ st2 ⟨s2,rfl,m,p1,p2,p3,p4,p5⟩
   exact ⟨s2,m,p1,p2,p3,p4,by dsimp only at p5 ⊢; omega⟩
  ·rintro ⟨r,i,j,out,ac,bc⟩ st2 ⟨s2,mm⟩
   dsimp only at mm ⊢
   cases r with
   | some z=>exact wpS_pure ⟨s2,z,rfl,mm⟩
   | none =>
    dsimp only
    refine wpS_bind (wpS_lift (wpAny_rule ⟨rfl,?_⟩))
    refine wpS_bind (wpS_mono (wpS_forRange (λ y (r:Option (Array Keyed) × Nat × Nat × Array Keyed × Nat × Nat × Nat) st'=>Same κ st st' /\ r.1=none /\ MidH lt a.toList b.toList (x + 2) none r.2.1 r.2.2.1 r.2.2.2.1)
     (Q:=λ (r:Option (Array Keyed) × Nat × Nat × Array Keyed × Nat × Nat × Nat) st'=>Same κ st st' /\ MidH lt a.toList b.toList (x + 2) r.1 r.2.1 r.2.2.1 r.2.2.2.1) ?_ ?_ ⟨s2,rfl,mm⟩) ?_)
    ·rintro y ⟨r,i,j,out,mg,ac,bc⟩ st3 _ hy ⟨s3,rfl,m,p1,p2,p3,p4,p5⟩
     dsimp only at m p1 p2 p3 p4 p5 ⊢
     have s3':∀ g:Nat,Same κ st (SortSt.mk' (kindOf st3) (arrOf st3) (pendingOf st3) g (failedOf st3)):=λ g=>⟨⟨s3.ok.kd,s3.ok.fl⟩,s3.ar,s3.pe⟩
     obtain ⟨vb,e1,e2,e3⟩:=yd0 (a:=b) (i:=j - 1) (by omega)
     revert mg
     refine td2 (λ _=>rfl) λ mg=>?_
     refine wpS_bind (wpS_modify ?_)
     refine wpS_bind (wc0 e1 ?_)
     refine wpS_bind (vq0 c (s3' _).ok (byF c ma (by omega) (mb _ e3) sa) (by omega) λ t k1 k2 k3=>?_)
     dsimp only
     obtain ⟨k,rfl⟩:∃ k,i=t + k:=⟨i - t,by omega⟩
     have mk:=MH.as sa k m (by omega) λ ii y h1 h2 ey=>by
      have q:=k3 ii h1 h2
      rw [getD_some (x:=y) (by rw [Nat.zero_add]; exact ey)] at q
      have u:=up sb e2 y (c.lt_le (by simpa using q))
      rw [show j - 1 + 1=j by omega] at u
      exact u
     have lo:∀ y ∈ a.toList.take t,le lt y vb:=by
      intro y hy
      obtain ⟨ii,hi,ey⟩:=List.mem_take_iff_getElem.mp hy
      have q:=k2 ii (by omega)
      rw [getD_some (x:=y) (by rw [Nat.zero_add]; exact List.getElem?_eq_some_iff.mpr ⟨by omega,ey⟩)] at q
      exact (by simpa using q:lt vb y=false)
     by_cases kp:t + k - t > 0
     ·rw [if_pos kp]
      rw [<- xq2,<- tm1] at mk
      by_cases z:(t == 0)=true
      ·rw [if_pos z]
       exact wpS_pure ⟨s3' _,doneA mk (eq_of_beq z)⟩
      ·rw [if_neg z]
       have z':t ≠ 0:=λ e=>z (beq_iff_eq.mpr e)
       refine wpS_mono (nxB x _ bc _ _ (s3' _) mk (by omega) (by omega) p3 (by omega) (by omega) e1 e2 lo _ ?_) ?_
       ·intro _ _ _; rfl
       ·intro r st' q; cases r <;> exact q
     ·rw [if_neg kp]
      have k0:k=0:=by omega
      subst k0
      refine wpS_mono (nxB x _ bc _ _ (s3' _) m (by omega) (by omega) p3 (by omega) (by omega) e1 e2 lo _ ?_) ?_
      ·intro _ _ _; rfl
      ·intro r st' q; cases r <;> exact q
    ·rintro ⟨r,i,j,out,mg,ac,bc⟩ st3 ⟨s3,rfl,m,p1,p2,p3,p4,p5⟩
     exact ⟨s3,m,p1,p2,p3,p4,p5⟩
    ·rintro ⟨r,i,j,out,mg,ac,bc⟩ st3 ⟨s3,mm⟩
     dsimp only at mm ⊢
     cases r with
     | some z=>exact wpS_pure ⟨s3,z,rfl,mm⟩
     | none =>
      dsimp only
      exact wpS_bind (wpS_modify (wpS_pure ⟨⟨⟨s3.ok.kd,s3.ok.fl⟩,s3.ar,s3.pe⟩,rfl,mm⟩))
 ·rintro ⟨r,i,j,out,mg⟩ st1 ⟨s1,rfl,m,p1,p2,p3,p4,p5⟩
  exfalso
  dsimp only at p1 p2 p3 p4 p5
  omega
 ·rintro ⟨r,i,j,out,mg⟩ st1 ⟨s1,z,e,f⟩
  dsimp only at e ⊢
  subst e
  exact wpS_pure (h z st1 s1 f)
end
end Ts
namespace Ts
open PySem PyProof.Rows
theorem uz1 {xs:Array Keyed} {U V W:List Keyed} {i j:Nat} (h:xs.toList=U ++ (V ++ W)) (hi:i=U.length) (hj:j=U.length + V.length):(mirror xs i j ((j - i) / 2)).toList=U ++ (V.reverse ++ W):=by
 have hs:xs.size=U.length + (V.length + W.length):=by rw [<- Array.length_toList,h]; simp
 apply List.ext_getElem?
 intro k
 rw [Array.getElem?_toList,getElem?_mirror_all (by omega)]
 simp only [<- Array.getElem?_toList,h]
 by_cases c:i<=k /\ k < j
 ·rw [if_pos c,List.getElem?_append_right (by omega),List.getElem?_append_left (by omega),List.getElem?_append_right (by omega),List.getElem?_append_left (by rw [List.length_reverse]; omega),List.getElem?_reverse (by omega)]
  congr 1
  omega
 ·rw [if_neg c]
  by_cases d:k < i
  ·rw [List.getElem?_append_left (by omega),List.getElem?_append_left (by omega)]
  ·rw [List.getElem?_append_right (by omega),List.getElem?_append_right (by omega),List.getElem?_append_right (by omega),List.getElem?_append_right (by rw [List.length_reverse]; omega),List.length_reverse]
theorem yd2 {xs:Array Keyed} {U V W:List Keyed} {x:Keyed} {i j:Nat} (h:xs.toList=U ++ (V ++ x :: W)) (hi:i=U.length + V.length) (hj:j=U.length):(bubble xs i (i - j)).toList=U ++ x :: (V ++ W):=by
 have hs:xs.size=U.length + (V.length + (W.length + 1)):=by rw [<- Array.length_toList,h]; simp
 apply List.ext_getElem?
 intro k
 rw [Array.getElem?_toList,getElem?_bubble (by omega) (i - j) (by omega),show i - (i - j)=j by omega]
 simp only [<- Array.getElem?_toList,h]
 by_cases c:k=j
 ·rw [if_pos c,List.getElem?_append_right (by omega),List.getElem?_append_right (by omega),List.getElem?_append_right (by omega),show i - U.length - V.length=0 by omega,show k - U.length=0 by omega]
  rfl
 ·rw [if_neg c]
  by_cases d:j < k /\ k<=i
  ·rw [if_pos d,List.getElem?_append_right (by omega),List.getElem?_append_left (by omega),List.getElem?_append_right (by omega),show k - U.length=(k - 1 - U.length) + 1 by omega,List.getElem?_cons_succ,List.getElem?_append_left (by omega)]
  ·rw [if_neg d]
   by_cases f:k < j
   ·rw [List.getElem?_append_left (by omega),List.getElem?_append_left (by omega)]
   ·rw [List.getElem?_append_right (by omega),List.getElem?_append_right (by omega),List.getElem?_append_right (by omega),show k - U.length=(k - 1 - U.length) + 1 by omega,List.getElem?_cons_succ,List.getElem?_append_right (by omega),show k - 1 - U.length + 1 - V.length=(k - 1 - U.length - V.length) + 1 by omega,List.getElem?_cons_succ]
structure At (κ:SortKind) (p:Array (Nat × Nat × Nat)) (st:SortSt) (L:List Keyed):Prop where
 ok:Ok κ st
 pe:pendingOf st=p
 ls:(arrOf st).toList=L
section
variable {prog:Program} {w:World} {A:Around} {E:Value->Shared->Prop} {s:Shared} {κ:SortKind} {p:Array (Nat × Nat × Nat)}
variable {lt:Keyed->Keyed->Bool} {M:Keyed->Prop}
theorem sw0 (c:Cm prog w A s κ lt M) {st:SortSt} {L:List Keyed} {i j:Nat} {x y:Keyed} {Q:Option Bool->SortSt->Prop} (a:At κ p st L) (hM:∀ x ∈ L,M x) (ex:L[i]?=some x) (ey:L[j]?=some y) (h:Q (some (lt x y)) st):wpS (model prog w) A E s (ltAt' i j) Q st:=by
 rw [ltAt'_eq]
 refine wpS_bind (wpS_get ?_)
 refine wpS_bind (wc0 (x:=x) (by rw [<- Array.getElem?_toList,a.ls]; exact ex) (wpS_bind (wc0 (x:=y) (by rw [<- Array.getElem?_toList,a.ls]; exact ey) ?_)))
 exact sp1 c a.ok (hM x (List.mem_of_getElem? ex)) (hM y (List.mem_of_getElem? ey)) h
theorem ub1 {st:SortSt} {U V W:List Keyed} {i j:Nat} {Q:Unit->SortSt->Prop} (a:At κ p st (U ++ (V ++ W))) (hi:i=U.length) (hj:j=U.length + V.length) (h:∀ st',At κ p st' (U ++ (V.reverse ++ W))->Q () st'):wpS (model prog w) A E s (reverseSlice' i j) Q st:=by
 rw [reverseSlice'_eq]
 exact wpS_modify (h _ ⟨⟨a.ok.kd,a.ok.fl⟩,a.pe,uz1 a.ls hi hj⟩)
theorem yi3 {st:SortSt} {U V W:List Keyed} {x:Keyed} {i j:Nat} {Q:Unit->SortSt->Prop} (a:At κ p st (U ++ (V ++ x :: W))) (hi:i=U.length + V.length) (hj:j=U.length) (h:∀ st',At κ p st' (U ++ x :: (V ++ W))->Q () st'):wpS (model prog w) A E s (moveDown' i j) Q st:=by
 rw [moveDown'_eq]
 exact wpS_modify (h _ ⟨⟨a.ok.kd,a.ok.fl⟩,a.pe,yd2 a.ls hi hj⟩)
noncomputable abbrev FA:=Nat->Option (Option Nat) × Nat->StateT SortSt Sem (ForInStep (Option (Option Nat) × Nat))
noncomputable def isA (lo:Nat) (f:FA):Prop:=∀ x n,f x (none,n)=(ltAt' (lo + n) (lo + n - 1) >>= λ r=>match r with
 | some true=>pure (.done (none,n))
 | some false=>pure (.yield (none,n + 1))
 | none=>pure (.done (some none,n)))
theorem xl2 (c:Cm prog w A s κ lt M) {l:List Keyed} {n:Nat} {x y:Keyed} (h:(l.take (n + 1)).Pairwise (le lt)) (ex:l[n]?=some x) (ey:l[n + 1]?=some y) (k:le lt x y):(l.take (n + 2)).Pairwise (le lt):=by
 rw [ye0 ey]
 refine List.pairwise_append.mpr ⟨h,List.pairwise_singleton _ _,λ z hz v hv=>?_⟩
 rw [List.mem_singleton] at hv
 subst hv
 rw [ye0 ex] at h hz
 rcases List.mem_append.mp hz with hz | hz
 ·exact c.le_tr ((List.pairwise_append.mp h).2.2 z hz x (List.mem_singleton.mpr rfl)) k
 ·rw [List.mem_singleton] at hz; subst hz; exact k
theorem ve1 (c:Cm prog w A s κ lt M) {st:SortSt} {P R:List Keyed} {n0 lo:Nat} {f:FA} (hf:isA lo f) (a:At κ p st (P ++ R)) (hM:∀ x ∈ P ++ R,M x) (hlo:lo=P.length) (h1:1<=n0) (h2:n0<=R.length) (so:(R.take n0).Pairwise (le lt)) :
    wpS (model prog w) A E s (forIn [n0:R.length] (none,n0) f) (λ r st'=>st'=st /\ r.1=none /\ n0<=r.2 /\ r.2<=R.length /\ (R.take r.2).Pairwise (le lt) /\ (r.2=R.length \/ ∃ x y,R[r.2]?=some y /\ R[r.2 - 1]?=some x /\ lt y x=true)) st:=by
 refine wpS_forRange (λ x (r:Option (Option Nat) × Nat) st'=>st'=st /\ r=(none,x) /\ n0<=x /\ x<=R.length /\ (R.take x).Pairwise (le lt)) ?_ ?_ ⟨rfl,rfl,Nat.le_refl _,h2,so⟩
 ·rintro x r st' _ hx ⟨rfl,rfl,a1,a2,a3⟩
  rw [hf]
  obtain ⟨n,rfl⟩:∃ n,x=n + 1:=⟨x - 1,by omega⟩
  have ey:R[n + 1]?=some R[n + 1]:=List.getElem?_eq_getElem hx
  have ex:R[n]?=some R[n]:=List.getElem?_eq_getElem (by omega)
  refine wpS_bind (sw0 c a hM (x:=R[n + 1]) (y:=R[n]) (by rw [List.getElem?_append_right (by omega),show lo + (n + 1) - P.length=n + 1 by omega]; exact ey) (by rw [List.getElem?_append_right (by omega),show lo + (n + 1) - 1 - P.length=n by omega]; exact ex) ?_)
  cases q:lt R[n + 1] R[n] with
  | true=>exact wpS_pure ⟨rfl,rfl,a1,a2,a3,.inr ⟨R[n],R[n + 1],ey,ex,q⟩⟩
  | false=>exact wpS_pure ⟨rfl,rfl,by omega,by omega,xl2 c a3 ex ey q⟩
 ·rintro r st' ⟨rfl,rfl,a1,a2,a3⟩
  exact ⟨rfl,rfl,a1,a2,a3,.inl (by show max n0 R.length=_; omega)⟩
theorem fin3 (c:Cm prog w A s κ lt M) {st:SortSt} {P V W:List Keyed} {n N lo:Nat} {f:FA} {g:Option (Option Nat) × Nat->StateT SortSt Sem (Option Nat)} {Q:Option Nat->SortSt->Prop} (hf:isA lo f) (hg:∀ n,g (none,n)=pure (some n)) (a:At κ p st (P ++ (V ++ W))) (hM:∀ x ∈ P ++ (V ++ W),M x) (hlo:lo=P.length)
    (hn:n=V.length) (hN:N=V.length + W.length) (h1:1<=n) (so:V.Pairwise λ x y=>le lt y x) (h:∀ m st' R,At κ p st' (P ++ R)->R.Perm (V ++ W)->1<=m->m<=N->(R.take m).Pairwise (le lt)->Q (some m) st') :
    wpS (model prog w) A E s (reverseSlice' lo (lo + n) >>= λ _=>forIn [n:N] (none,n) f >>= g) Q st:=by
 refine wpS_bind (ub1 a hlo (by omega) λ st1 a1=>?_)
 have e:N=(V.reverse ++ W).length:=by rw [List.length_append,List.length_reverse]; exact hN
 have pm:(V.reverse ++ W).Perm (V ++ W):=List.Perm.append_right _ (List.reverse_perm V)
 subst e
 refine wpS_bind (wpS_mono (ve1 c hf a1 (λ x hx=>hM x (by
  rcases List.mem_append.mp hx with q | q
  ·exact List.mem_append_left _ q
  ·exact List.mem_append_right _ (pm.mem_iff.mp q))) hlo h1 (by rw [List.length_append,List.length_reverse]; omega) ?_) ?_)
 ·rw [hn,List.take_append_of_le_length (by rw [List.length_reverse]; omega),List.take_of_length_le (by rw [List.length_reverse]; omega)]
  exact List.pairwise_reverse.mpr so
 ·rintro ⟨r,m⟩ st2 ⟨rfl,rfl,b1,b2,b3,_⟩
  dsimp only at b1 b2 b3 ⊢
  rw [hg]
  exact wpS_pure (h m _ _ a1 pm (by omega) b2 b3)
noncomputable abbrev FD:=Nat->Option (Option Nat) × Nat × Nat->StateT SortSt Sem (ForInStep (Option (Option Nat) × Nat × Nat))
noncomputable def isD (lo:Nat) (f:FD):Prop:=∀ x n q,f x (none,n,q)=(ltAt' (lo + n) (lo + n - 1) >>= λ r=>match r with
 | some true=>if q > 0 then reverseSlice' (lo + n - (q + 1)) (lo + n) >>= λ _=>pure (.yield (none,n + 1,0)) else pure (.yield (none,n + 1,0))
 | some false=>ltAt' (lo + n - 1) (lo + n) >>= λ r=>match r with
  | some true=>pure (.done (none,n,q))
  | some false=>pure (.yield (none,n + 1,q + 1))
  | none=>pure (.done (some none,n,q))
 | none=>pure (.done (some none,n,q)))
structure Fall (κ:SortKind) (p:Array (Nat × Nat × Nat)) (lt:Keyed->Keyed->Bool) (P R:List Keyed) (st:SortSt) (n q:Nat) (X B W:List Keyed) (b:Keyed):Prop where
 at_:At κ p st (P ++ (X ++ (B ++ b :: W)))
 hn:n=X.length + B.length + 1
 hq:q=B.length
 pm:(X ++ (B ++ b :: W)).Perm R
 dn:(X ++ (B ++ [b])).Pairwise λ x y=>le lt y x
 eq:∀ x ∈ B,le lt x b /\ le lt b x
theorem Fall.low {P R X B W:List Keyed} {st:SortSt} {n q:Nat} {b:Keyed} (F:Fall κ p lt P R st n q X B W b):∀ z ∈ X ++ B,le lt b z:=by
 have d:=F.dn
 rw [<- List.append_assoc] at d
 exact λ z hz=>(List.pairwise_append.mp d).2.2 z hz b (List.mem_singleton.mpr rfl)
theorem Fall.rest {P R X B W:List Keyed} {st:SortSt} {n q:Nat} {b:Keyed} (F:Fall κ p lt P R st n q X B W b) (hx:n < R.length):∃ y W',W=y :: W':=by
 cases W with
 | cons y W'=>exact ⟨y,W',rfl⟩
 | nil =>
  have:=F.pm.length_eq
  rw [List.length_append,List.length_append,List.length_cons,List.length_nil] at this
  have:=F.hn
  omega
theorem xm3 (c:Cm prog w A s κ lt M) {P R X B W:List Keyed} {st:SortSt} {n q:Nat} {b:Keyed} (F:Fall κ p lt P R st n q X B W b):(X ++ (B ++ [b]).reverse).Pairwise λ x y=>le lt y x:=by
 obtain ⟨d1,d2,d3⟩:=List.pairwise_append.mp F.dn
 refine List.pairwise_append.mpr ⟨d1,?_,λ x hx y hy=>d3 x hx y (List.mem_reverse.mp hy)⟩
 have all:∀ x ∈ B ++ [b],le lt x b /\ le lt b x:=λ x hx=>by
  rcases List.mem_append.mp hx with h | h
  ·exact F.eq x h
  ·rw [List.mem_singleton] at h; subst h; exact ⟨c.rf x,c.rf x⟩
 rw [List.pairwise_reverse]
 exact List.Pairwise.imp_of_mem (λ {x y} hx hy _=>c.le_tr (all x hx).1 (all y hy).2) d2
theorem vi3 (c:Cm prog w A s κ lt M) {st:SortSt} {P R X W:List Keyed} {y:Keyed} {n1 lo N:Nat} {f:FD} {g:Option (Option Nat) × Nat × Nat->StateT SortSt Sem (Option Nat)} {Q:Option Nat->SortSt->Prop} (hf:isD lo f)
    (hg:∀ n q,∃ J,g (none,n,q)=(if q > 0 then reverseSlice' (lo + n - (q + 1)) (lo + n) >>= λ _=>J else J) /\ ∀ st' V W,At κ p st' (P ++ (V ++ W))->(V ++ W).Perm R->n=V.length->1<=n->V.Pairwise (λ x y=>le lt y x)->wpS (model prog w) A E s J Q st') (hlo:lo=P.length) (hN:N=R.length) (hR:∀ x ∈ P,M x) (hM:∀ x ∈ R,M x) (hn:n1=X.length) (a:At κ p st (P ++ (X ++ y :: W))) (pm:(X ++ y :: W).Perm R) (dn:(X ++ [y]).Pairwise λ x y=>le lt y x) :
    wpS (model prog w) A E s (forIn [n1 + 1:N] (none,n1 + 1,0) f >>= g) Q st:=by
 have mem:∀ {L:List Keyed},L.Perm R->∀ x ∈ P ++ L,M x:=λ e x hx=>by
  rcases List.mem_append.mp hx with h | h
  ·exact hR x h
  ·exact hM x (e.mem_iff.mp h)
 refine wpS_bind (wpS_mono (wpS_forRange (λ x (r:Option (Option Nat) × Nat × Nat) st'=>∃ q X B W b,r=(none,x,q) /\ Fall κ p lt P R st' x q X B W b) (Q:=λ (r:Option (Option Nat) × Nat × Nat) st'=>∃ n q X B W b,r=(none,n,q) /\ Fall κ p lt P R st' n q X B W b) ?_ ?_ ⟨0,X,[],W,y,rfl,⟨a,by simp [hn],rfl,pm,dn,λ _ h=>nomatch h⟩⟩) ?_)
 ·rintro x r st1 _ hx ⟨q,X,B,W,b,rfl,F⟩
  obtain ⟨v,W',rfl⟩:=F.rest (by omega)
  rw [hf]
  have L:=F.at_
  have hn':=F.hn
  have hq':=F.hq
  have e1:(P ++ (X ++ (B ++ b :: v :: W')))[lo + x]?=some v:=by
   rw [List.getElem?_append_right (by omega),List.getElem?_append_right (by omega),List.getElem?_append_right (by omega),show lo + x - P.length - X.length - B.length=1 by omega]; rfl
  have e2:(P ++ (X ++ (B ++ b :: v :: W')))[lo + x - 1]?=some b:=by
   rw [List.getElem?_append_right (by omega),List.getElem?_append_right (by omega),List.getElem?_append_right (by omega),show lo + x - 1 - P.length - X.length - B.length=0 by omega]; rfl
  refine wpS_bind (sw0 c L (mem F.pm) e1 e2 ?_)
  cases s1:lt v b with
  | true =>
   dsimp only
   have low:∀ z ∈ X ++ (B ++ [b]),le lt v z:=λ z hz=>by
    rw [<- List.append_assoc] at hz
    rcases List.mem_append.mp hz with h | h
    ·exact c.le_tr (c.lt_le s1) (F.low z h)
    ·rw [List.mem_singleton] at h; subst h; exact c.lt_le s1
   by_cases z:q > 0
   ·rw [if_pos z]
    refine wpS_bind (ub1 (U:=P ++ X) (V:=B ++ [b]) (W:=v :: W') (by rw [List.append_assoc,List.append_assoc]; exact L) (by rw [List.length_append]; omega) (by simp only [List.length_append,List.length_cons,List.length_nil]; omega) λ st2 a2=>wpS_pure ⟨0,X ++ (B ++ [b]).reverse,[],W',v,rfl,?_⟩)
    refine ⟨by rw [List.append_assoc] at a2; simpa [List.append_assoc] using a2,by simp only [List.length_append,List.length_reverse,List.length_cons,List.length_nil]; omega,rfl,?_,?_,λ _ h=>nomatch h⟩
    ·refine .trans ?_ F.pm
     rw [List.nil_append,List.append_assoc]
     refine List.Perm.append_left _ (.trans (List.Perm.append_right _ (List.reverse_perm _)) ?_)
     rw [List.append_assoc]
     exact .refl _
    ·rw [List.nil_append]
     refine List.pairwise_append.mpr ⟨xm3 c F,List.pairwise_singleton _ _,λ z1 hz1 y1 hy1=>?_⟩
     rw [List.mem_singleton] at hy1; subst hy1
     refine low z1 ?_
     rcases List.mem_append.mp hz1 with h | h
     ·exact List.mem_append_left _ h
     ·exact List.mem_append_right _ (List.mem_reverse.mp h)
   ·rw [if_neg z]
    have b0:B=[]:=List.eq_nil_of_length_eq_zero (by omega)
    subst b0
    refine wpS_pure ⟨0,X ++ [b],[],W',v,rfl,⟨by simpa [List.append_assoc] using L,by simp only [List.length_append,List.length_cons,List.length_nil] at hn' ⊢; omega,rfl,by simpa [List.append_assoc] using F.pm,?_,λ _ h=>nomatch h⟩⟩
    refine List.pairwise_append.mpr ⟨F.dn,List.pairwise_singleton _ _,λ z1 hz1 y1 hy1=>?_⟩
    rw [List.nil_append,List.mem_singleton] at hy1; subst hy1
    exact low z1 hz1
  | false =>
   dsimp only
   refine wpS_bind (sw0 c L (mem F.pm) e2 e1 ?_)
   cases s2:lt b v with
   | true=>exact wpS_pure ⟨x,q,X,B,v :: W',b,rfl,F⟩
   | false =>
    refine wpS_pure ⟨q + 1,X,B ++ [b],W',v,rfl,⟨by simpa [List.append_assoc] using L,by simp only [List.length_append,List.length_cons,List.length_nil]; omega,by simp only [List.length_append,List.length_cons,List.length_nil]; omega,by simpa [List.append_assoc] using F.pm,?_,?_⟩⟩
    ·rw [<- List.append_assoc]
     refine List.pairwise_append.mpr ⟨F.dn,List.pairwise_singleton _ _,λ z1 hz1 y1 hy1=>?_⟩
     rw [List.mem_singleton] at hy1; subst hy1
     rw [<- List.append_assoc] at hz1
     rcases List.mem_append.mp hz1 with h | h
     ·exact c.le_tr s2 (F.low z1 h)
     ·rw [List.mem_singleton] at h; subst h; exact s2
    ·intro z hz
     rcases List.mem_append.mp hz with h | h
     ·exact ⟨c.le_tr (F.eq z h).1 s1,c.le_tr s2 (F.eq z h).2⟩
     ·rw [List.mem_singleton] at h; subst h; exact ⟨s1,s2⟩
 ·rintro r st1 ⟨q,X,B,W,b,rfl,F⟩
  exact ⟨_,q,X,B,W,b,rfl,F⟩
 ·rintro r st1 ⟨n,q,X,B,W,b,rfl,F⟩
  obtain ⟨J,eJ,hJ⟩:=hg n q
  rw [eJ]
  have hn':=F.hn
  have hq':=F.hq
  by_cases z:q > 0
  ·rw [if_pos z]
   refine wpS_bind (ub1 (U:=P ++ X) (V:=B ++ [b]) (W:=W) (by simpa [List.append_assoc] using F.at_) (by rw [List.length_append]; omega) (by simp only [List.length_append,List.length_cons,List.length_nil]; omega) λ st2 a2=>?_)
   refine hJ st2 (X ++ (B ++ [b]).reverse) W (by rw [List.append_assoc] at a2; rw [List.append_assoc]; exact a2) ?_ (by simp only [List.length_append,List.length_reverse,List.length_cons,List.length_nil]; omega) (by omega) (xm3 c F)
   refine .trans ?_ F.pm
   rw [List.append_assoc]
   refine List.Perm.append_left _ (.trans (List.Perm.append_right _ (List.reverse_perm _)) ?_)
   rw [List.append_assoc]
   exact .refl _
  ·rw [if_neg z]
   exact hJ st1 (X ++ (B ++ [b])) W (by simpa [List.append_assoc] using F.at_) (by simpa [List.append_assoc] using F.pm) (by simp only [List.length_append,List.length_cons,List.length_nil]; omega) (by omega) F.dn
theorem tm3 (c:Cm prog w A s κ lt M) {st:SortSt} {P R:List Keyed} {lo:Nat} {Q:Option Nat->SortSt->Prop} (a:At κ p st (P ++ R)) (hM:∀ x ∈ P ++ R,M x) (hlo:lo=P.length) (h1:1<=R.length)
    (h:∀ m st' R',At κ p st' (P ++ R')->R'.Perm R->1<=m->m<=R.length->(R'.take m).Pairwise (le lt)->Q (some m) st'):wpS (model prog w) A E s (countRun' lo R.length) Q st:=by
 have isa:∀ {f:FA},f=(λ x __s=>(ltAt' (lo + __s.2) (lo + __s.2 - 1) >>= λ r=>match r with
  | some b=>if b=true then pure (.done (none,__s.2)) else pure (.yield (none,__s.2 + 1))
  | x=>pure (.done (some none,__s.2))))->isA lo f:=by
  rintro f rfl x n
  refine congrArg _ (funext λ r=>?_)
  rcases r with _ | _ | _ <;> rfl
 have r0:R[0]?=some R[0]:=List.getElem?_eq_getElem h1
 have fall:∀ {st1:SortSt} {X W:List Keyed} {y:Keyed},At κ p st1 (P ++ (X ++ y :: W))->(X ++ y :: W).Perm R->(X ++ [y]).Pairwise (λ x y=>le lt y x)->∀ {n1:Nat},n1=X.length->∀ {f:FD} {g:Option (Option Nat) × Nat × Nat->StateT SortSt Sem (Option Nat)},isD lo f ->
     (∀ n q,∃ (J:StateT SortSt Sem (Option Nat)) (f:FA) (g':Option (Option Nat) × Nat->StateT SortSt Sem (Option Nat)),g (none,n,q)=(if q > 0 then reverseSlice' (lo + n - (q + 1)) (lo + n) >>= λ _=>J else J) /\ isA lo f /\ (∀ n,g' (none,n)=pure (some n)) /\ J=(reverseSlice' lo (lo + n) >>= λ _=>forIn [n:R.length] (none,n) f >>= g')) ->
     wpS (model prog w) A E s (forIn [n1 + 1:R.length] (none,n1 + 1,0) f >>= g) Q st1:=by
  intro st1 X W y a1 pm dn n1 hn f g hf hg
  refine vi3 c hf (λ n q=>?_) hlo rfl (λ x hx=>hM x (List.mem_append_left _ hx)) (λ x hx=>hM x (List.mem_append_right _ hx)) hn a1 pm dn
  obtain ⟨J,f,g',e1,hf,hg,e⟩:=hg n q
  refine ⟨J,e1,?_⟩
  intro st2 V W a2 pm2 hn2 h2 so
  rw [e]
  have ll:=pm2.length_eq
  rw [List.length_append] at ll
  refine fin3 c hf hg a2 (λ x hx=>?_) hlo hn2 ll.symm h2 so λ m st' R' a3 pm3 m1 m2 so3=>h m st' R' a3 (pm3.trans pm2) m1 m2 so3
  rcases List.mem_append.mp hx with q | q
  ·exact hM x (List.mem_append_left _ q)
  ·exact hM x (List.mem_append_right _ (pm2.mem_iff.mp q))
 refine wpS_bind (wpS_mono (ve1 c (f:=_) (isa rfl) a hM hlo (Nat.le_refl 1) h1 (by rw [ye0 r0]; exact List.pairwise_singleton _ _)) ?_)
 rintro ⟨r,n⟩ st1 ⟨rfl,rfl,b1,b2,b3,b4⟩
 dsimp only at b1 b2 b3 b4 ⊢
 by_cases z:(n == R.length)=true
 ·rw [if_pos z]
  exact wpS_pure (h n _ R a (.refl _) b1 b2 b3)
 rw [if_neg z]
 have z':n ≠ R.length:=λ e=>z (beq_iff_eq.mpr e)
 rcases b4 with b4 | ⟨x,y,ey,ex,q⟩
 ·exact absurd b4 z'
 have d:R=R.take n ++ y :: R.drop (n + 1):=by
  have:=List.take_append_drop n R
  rw [tf0 ey] at this
  exact this.symm
 by_cases n1:n > 1
 ·rw [if_pos n1]
  refine wpS_bind (sw0 c a hM (x:=R[0]) (y:=x) (by rw [List.getElem?_append_right (by omega),show lo - P.length=0 by omega]; exact r0) (by rw [List.getElem?_append_right (by omega),show lo + n - 1 - P.length=n - 1 by omega]; exact ex) ?_)
  cases q2:lt R[0] x with
  | true=>exact wpS_pure (h n _ R a (.refl _) b1 b2 b3)
  | false =>
   dsimp only
   rw [if_neg (by simp)]
   have all:∀ u ∈ R.take n,le lt u x /\ le lt x u:=by
    have e0:(R.take n)[0]?=some R[0]:=by rw [List.getElem?_take_of_lt (by omega)]; exact r0
    have el:(R.take n)[n - 1]?=some x:=by rw [List.getElem?_take_of_lt (by omega)]; exact ex
    intro u hu
    obtain ⟨i,hi⟩:=List.mem_iff_getElem?.mp hu
    have li:i < n:=by
     have:=(List.getElem?_eq_some_iff.mp hi).1
     rw [List.length_take] at this
     omega
    constructor
    ·by_cases e:i=n - 1
     ·subst e; rw [el] at hi; cases hi; exact c.rf _
     ·exact vk0 b3 (by omega) hi el
    ·by_cases e:i=0
     ·subst e; rw [e0] at hi; cases hi; exact q2
     ·exact c.le_tr q2 (vk0 b3 (by omega) e0 hi)
   have lt1:(R.take n).length=n:=by rw [List.length_take]; omega
   refine wpS_bind (ub1 (U:=P) (V:=R.take n) (W:=y :: R.drop (n + 1)) (by rw [<- d]; exact a) hlo (by omega) λ st2 a2=>?_)
   refine wpS_bind (wpS_lift (wpAny_rule ⟨rfl,?_⟩))
   refine fall a2 ?_ ?_ (by rw [List.length_reverse]; exact lt1.symm) ?_ ?_
   ·refine .trans (List.Perm.append_right _ (List.reverse_perm _)) ?_
    rw [<- d]
   ·refine List.pairwise_append.mpr ⟨?_,List.pairwise_singleton _ _,λ u hu v hv=>?_⟩
    ·rw [List.pairwise_reverse]
     exact b3
    ·rw [List.mem_singleton] at hv; subst hv
     exact c.le_tr (c.lt_le q) (all u (List.mem_reverse.mp hu)).2
   ·intro x n q
    refine congrArg _ (funext λ r=>?_)
    rcases r with _ | _ | _
    ·rfl
    ·dsimp only
     rw [if_neg (by simp)]
     refine congrArg _ (funext λ r=>?_)
     rcases r with _ | _ | _ <;> rfl
    ·rfl
   ·intro n q
    exact ⟨_,_,_,rfl,isa rfl,λ _=>rfl,rfl⟩
 ·rw [if_neg n1]
  have e1:n=1:=by omega
  subst e1
  refine wpS_bind (wpS_lift (wpAny_rule ⟨rfl,?_⟩))
  have t1:=ye0 r0
  rw [List.take_zero,List.nil_append] at t1
  have ex0:x=R[0]:=by rw [show 1 - 1=0 from rfl,r0] at ex; cases ex; rfl
  rw [show (0:Nat) + 1=1 from rfl] at t1
  rw [t1] at d
  refine fall (X:=[R[0]]) (y:=y) (W:=R.drop (1 + 1)) (by rw [<- d]; exact a) (by rw [<- d]) ?_ rfl ?_ ?_
  ·refine List.pairwise_append.mpr ⟨List.pairwise_singleton _ _,List.pairwise_singleton _ _,λ u hu v hv=>?_⟩
   rw [List.mem_singleton] at hu hv
   subst hu hv
   rw [<- ex0]
   exact c.lt_le q
  ·intro x n q
   refine congrArg _ (funext λ r=>?_)
   rcases r with _ | _ | _
   ·rfl
   ·dsimp only
    rw [if_neg (by simp)]
    refine congrArg _ (funext λ r=>?_)
    rcases r with _ | _ | _ <;> rfl
   ·rfl
  ·intro n q
   exact ⟨_,_,_,rfl,isa rfl,λ _=>rfl,rfl⟩
end
end Ts
namespace Ts
open PySem PyProof.Rows
section
variable {prog:Program} {w:World} {A:Around} {E:Value->Shared->Prop} {s:Shared} {κ:SortKind} {p:Array (Nat × Nat × Nat)}
variable {lt:Keyed->Keyed->Bool} {M:Keyed->Prop}
theorem vv1 (c:Cm prog w A s κ lt M) {st:SortSt} {P R:List Keyed} {lo n ok:Nat} {Q:Bool->SortSt->Prop} (a:At κ p st (P ++ R)) (hM:∀ x ∈ P ++ R,M x) (hlo:lo=P.length) (h1:1<=ok) (h2:ok<=n) (h3:n<=R.length) (so:(R.take ok).Pairwise (le lt))
    (h:∀ st' R',At κ p st' (P ++ R')->R'.Perm R->(R'.take n).Pairwise (le lt)->Q true st'):wpS (model prog w) A E s (binarySort' lo n ok) Q st:=by
 refine wpS_bind (wpS_mono (wpS_forRange (λ x (r:Option Bool × Unit) st'=>r=(none,()) /\ ∃ R',At κ p st' (P ++ R') /\ R'.Perm R /\ (R'.take x).Pairwise (le lt)) (Q:=λ (r:Option Bool × Unit) st'=>r=(none,()) /\ ∃ R',At κ p st' (P ++ R') /\ R'.Perm R /\ (R'.take n).Pairwise (le lt)) ?_ ?_ ⟨rfl,R,a,.refl _,by rw [show max ok 1=ok by omega]; exact so⟩) ?_)
 ·rintro k r st1 hk0 hk ⟨rfl,R',a1,pm,so1⟩
  have ll:=pm.length_eq
  have hM1:∀ x ∈ P ++ R',M x:=λ x hx=>by
   rcases List.mem_append.mp hx with q | q
   ·exact hM x (List.mem_append_left _ q)
   ·exact hM x (List.mem_append_right _ (pm.mem_iff.mp q))
  have ev:R'[k]?=some R'[k]:=List.getElem?_eq_getElem (by omega)
  have at':∀ {m:Nat} {x:Keyed},R'[m]?=some x->m < k->(R'.take k)[m]?=some x:=λ e l=>by rw [List.getElem?_take_of_lt l]; exact e
  dsimp only
  refine wpS_bind (wpS_mono (wpS_forRange (λ y (r:Option Bool × Nat × Nat) st'=>st'=st1 /\ r.1=none /\ r.2.1<=r.2.2 /\ r.2.2<=k /\ r.2.2 - r.2.1<=k - y /\ (∀ i x,i < r.2.1->R'[i]?=some x->le lt x R'[k]) /\ ∀ i x,r.2.2<=i->i < k->R'[i]?=some x->le lt R'[k] x)
   (Q:=λ (r:Option Bool × Nat × Nat) st'=>st'=st1 /\ r.1=none /\ r.2.1<=k /\ (∀ i x,i < r.2.1->R'[i]?=some x->le lt x R'[k]) /\ ∀ i x,r.2.1<=i->i < k->R'[i]?=some x->le lt R'[k] x) ?_ ?_ ⟨rfl,rfl,Nat.zero_le _,Nat.le_refl _,Nat.le_refl _,λ i x hi=>absurd hi (Nat.not_lt_zero _),λ i x h1 h2=>absurd h2 (by show ¬ i < k; exact Nat.not_lt.mpr h1)⟩) ?_)
  ·rintro y ⟨r,l,u⟩ st2 _ hy ⟨rfl,rfl,b1,b2,b3,b4,b5⟩
   dsimp only at b1 b2 b3 b4 b5 ⊢
   by_cases z:l ≥ u
   ·rw [if_pos z]
    have:l=u:=by omega
    subst this
    exact wpS_pure ⟨rfl,rfl,b2,b4,b5⟩
   ·rw [if_neg z]
    have em:R'[(l + u) / 2]?=some R'[(l + u) / 2]:=List.getElem?_eq_getElem (by omega)
    refine wpS_bind (sw0 c a1 hM1 (x:=R'[k]) (y:=R'[(l + u) / 2]) (by rw [List.getElem?_append_right (by omega),show lo + k - P.length=k by omega]; exact ev) (by rw [List.getElem?_append_right (by omega),show lo + (l + u) / 2 - P.length=(l + u) / 2 by omega]; exact em) ?_)
    cases q:lt R'[k] R'[(l + u) / 2] with
    | true =>
     refine wpS_pure ⟨rfl,rfl,by show l<=(l + u) / 2; omega,by show (l + u) / 2<=k; omega,by show (l + u) / 2 - l<=_; omega,b4,λ i x h1 h2 ex=>?_⟩
     by_cases e:i=(l + u) / 2
     ·subst e; rw [em] at ex; cases ex; exact c.lt_le q
     ·have h1':(l + u) / 2<=i:=h1
      exact c.le_tr (c.lt_le q) (vk0 so1 (show (l + u) / 2 < i by omega) (at' em (by omega)) (at' ex h2))
    | false =>
     refine wpS_pure ⟨rfl,rfl,by show (l + u) / 2 + 1<=u; omega,b2,by show u - ((l + u) / 2 + 1)<=_; omega,λ i x h1 ex=>?_,b5⟩
     have h1':i < (l + u) / 2 + 1:=h1
     by_cases e:i=(l + u) / 2
     ·subst e; rw [em] at ex; cases ex; exact q
     ·exact c.le_tr (vk0 so1 (show i < (l + u) / 2 by omega) (at' ex (by omega)) (at' em (by omega))) q
  ·rintro ⟨r,l,u⟩ st2 ⟨rfl,rfl,b1,b2,b3,b4,b5⟩
   dsimp only at b1 b2 b3 b4 b5 ⊢
   have:l=u:=by have:u - l<=k - max 0 k:=b3; omega
   subst this
   exact ⟨rfl,rfl,b2,b4,b5⟩
  ·rintro ⟨r,l,u⟩ st2 ⟨rfl,rfl,b2,b4,b5⟩
   dsimp only at b2 b4 b5 ⊢
   have d:R'=R'.take l ++ ((R'.take k).drop l ++ R'[k] :: R'.drop (k + 1)):=by
    have e1:=List.take_append_drop k R'
    rw [tf0 ev] at e1
    have e2:=List.take_append_drop l (R'.take k)
    rw [List.take_take,show min l k=l by omega] at e2
    rw [<- List.append_assoc,e2]
    exact e1.symm
   have t1:(R'.take l).length=l:=by rw [List.length_take]; omega
   have t2:((R'.take k).drop l).length=k - l:=by rw [List.length_drop,List.length_take]; omega
   refine wpS_bind (yi3 (U:=P ++ R'.take l) (V:=(R'.take k).drop l) (x:=R'[k]) (W:=R'.drop (k + 1)) (by rw [List.append_assoc,<- d]; exact a1) (by rw [List.length_append]; omega) (by rw [List.length_append]; omega) λ st3 a3=>wpS_pure ⟨rfl,R'.take l ++ R'[k] :: ((R'.take k).drop l ++ R'.drop (k + 1)),by rw [List.append_assoc] at a3; exact a3,?_,?_⟩)
   ·refine .trans ?_ pm
    conv=>rhs; rw [d]
    exact List.Perm.append_left _ List.perm_middle.symm
   ·have e:(R'.take l ++ R'[k] :: ((R'.take k).drop l ++ R'.drop (k + 1))).take (k + 1)=R'.take l ++ R'[k] :: (R'.take k).drop l:=by
      rw [<- List.cons_append,<- List.append_assoc]
      exact List.take_left' (by simp only [List.length_append,List.length_cons]; omega)
    rw [e]
    have m1:∀ z ∈ R'.take l,le lt z R'[k]:=λ z hz=>by
     obtain ⟨i,hi,ez⟩:=List.mem_take_iff_getElem.mp hz
     exact b4 i z (by omega) (List.getElem?_eq_some_iff.mpr ⟨by omega,ez⟩)
    have m2:∀ z ∈ (R'.take k).drop l,le lt R'[k] z:=λ z hz=>by
     obtain ⟨i,hi,ez⟩:=List.mem_drop_iff_getElem.mp hz
     have hi':i + l < k:=by rw [List.length_take] at hi; omega
     rw [List.getElem_take] at ez
     exact b5 (l + i) z (by omega) (by omega) (List.getElem?_eq_some_iff.mpr ⟨by omega,ez⟩)
    have so2:=so1
    have e2:=List.take_append_drop l (R'.take k)
    rw [List.take_take,show min l k=l by omega] at e2
    rw [<- e2] at so2
    obtain ⟨p1,p2,p3⟩:=List.pairwise_append.mp so2
    refine List.pairwise_append.mpr ⟨p1,List.pairwise_cons.mpr ⟨m2,p2⟩,λ z hz v hv=>?_⟩
    rcases List.mem_cons.mp hv with rfl | hv
    ·exact m1 z hz
    ·exact p3 z hz v hv
 ·rintro r st1 ⟨rfl,R',a1,pm,so1⟩
  exact ⟨rfl,R',a1,pm,by rw [show max (max ok 1) n=n by omega] at so1; exact so1⟩
 ·rintro r st1 ⟨rfl,R',a1,pm,so1⟩
  exact wpS_pure (h st1 R' a1 pm so1)
end
end Ts
namespace Ts
open PySem PyProof.Rows
theorem wb (s:Nat):∀ (m V U W:List Keyed) (arr:Array Keyed) (o:Nat),arr.toList=U ++ (V ++ W)->V.length=m.length->U.length=s + o ->
    ((m.zipIdx o).foldl (λ (a:Array Keyed) (x:Keyed × Nat)=>match x with | (q,j)=>a.setIfInBounds (s + j) q) arr).toList=U ++ (m ++ W)
 | [],V,U,W,arr,o,h,l,_=>by
  have e:V=[]:=List.eq_nil_of_length_eq_zero l
  subst e
  exact h
 | v :: m,V,U,W,arr,o,h,l,hu=>by
  cases V with
  | nil=>simp at l
  | cons u V =>
   rw [List.zipIdx_cons,List.foldl_cons]
   have:=wb s m V (U ++ [v]) W (arr.setIfInBounds (s + o) v) (o + 1) (by
    rw [Array.toList_setIfInBounds,h,List.set_append_right _ _ (by omega),show s + o - U.length=0 by omega]
    simp) (by simpa using l) (by simp; omega)
   rw [List.append_assoc] at this
   exact this
section
variable {prog:Program} {w:World} {A:Around} {E:Value->Shared->Prop} {s:Shared} {κ:SortKind} {p:Array (Nat × Nat × Nat)}
variable {lt:Keyed->Keyed->Bool} {M:Keyed->Prop}
theorem zi2 {σ:Type} {Md:Model} {s':σ} {Q:PUnit->σ->Prop} {st:σ} (h:Q ⟨⟩ s'):wpS Md A E s (set s':StateT σ Sem PUnit) Q st:=by
 unfold wpS; rw [StateT.run_set]; exact wpAny_pure ⟨rfl,h⟩
theorem yb1 {arr:Array Keyed} {P r S:List Keyed} {b i:Nat} (h:arr.toList=P ++ (r ++ S)) (hb:b=P.length) (hi:i < r.length):arr[b + i]?=some r[i]:=by
 rw [<- Array.getElem?_toList,h,List.getElem?_append_right (by omega),List.getElem?_append_left (by omega),show b + i - P.length=i by omega]
 exact List.getElem?_eq_getElem hi
theorem bsF (c:Cm prog w A s κ lt M) {arr:Array Keyed} {P r S:List Keyed} {b:Nat} {key:Keyed} (h:arr.toList=P ++ (r ++ S)) (hb:b=P.length) (hM:∀ x ∈ r,M x) (mk:M key) (so:r.Pairwise (le lt)):By lt M false key arr b r.length (λ i=>!lt key (r.getD i key)) where
 ky:=mk
 it:=λ i hi=>⟨r[i],yb1 h hb hi,hM _ (List.getElem_mem hi),by rw [getD_some (List.getElem?_eq_getElem hi),if_neg (by simp)]⟩
 mono:=λ i j hij hj q=>by
  by_cases z:i=j
  ·subst z; exact q
  have e1:=List.getElem?_eq_getElem (l:=r) (i:=i) (by omega)
  have e2:=List.getElem?_eq_getElem hj
  have l:=vk0 so (show i < j by omega) e1 e2
  rw [getD_some e2] at q
  rw [getD_some e1]
  have h':le lt r[j] key:=(by simpa using q:lt key r[j]=false)
  have z:lt key r[i]=false:=c.le_tr l h'
  simpa using z
theorem bsT (c:Cm prog w A s κ lt M) {arr:Array Keyed} {P r S:List Keyed} {b:Nat} {key:Keyed} (h:arr.toList=P ++ (r ++ S)) (hb:b=P.length) (hM:∀ x ∈ r,M x) (mk:M key) (so:r.Pairwise (le lt)):By lt M true key arr b r.length (λ i=>lt (r.getD i key) key) where
 ky:=mk
 it:=λ i hi=>⟨r[i],yb1 h hb hi,hM _ (List.getElem_mem hi),by rw [getD_some (List.getElem?_eq_getElem hi),if_pos rfl]⟩
 mono:=λ i j hij hj q=>by
  by_cases z:i=j
  ·subst z; exact q
  have e1:=List.getElem?_eq_getElem (l:=r) (i:=i) (by omega)
  have e2:=List.getElem?_eq_getElem hj
  have l:=vk0 so (show i < j by omega) e1 e2
  rw [getD_some e2] at q
  rw [getD_some e1]
  rcases c.ng r[j] r[i] key q with z | z
  ·rw [show lt r[j] r[i]=false from l] at z; cases z
  ·exact z
theorem si3 (c:Cm prog w A s κ lt M) {st:SortSt} {P r1 r2 S:List Keyed} {i sa na pw sb nb pw2:Nat} {Q:Bool->SortSt->Prop} (a:At κ p st (P ++ (r1 ++ (r2 ++ S)))) (hM:∀ x ∈ r1 ++ r2,M x) (e1:p[i]?=some (sa,na,pw)) (e2:p[i + 1]?=some (sb,nb,pw2)) (hsa:sa=P.length) (hna:na=r1.length) (hsb:sb=P.length + r1.length) (hnb:nb=r2.length)
    (n1:0 < r1.length) (n2:0 < r2.length) (s1:r1.Pairwise (le lt)) (s2:r2.Pairwise (le lt)) (h:∀ st' m,At κ ((p.setIfInBounds i (sa,na + nb,pw)).eraseIdxIfInBounds (i + 1)) st' (P ++ (m ++ S))->m.Perm (r1 ++ r2)->m.Pairwise (le lt)->Q true st') :
    wpS (model prog w) A E s (mergeAt' i) Q st:=by
 refine wpS_bind (wpS_get ?_)
 obtain rfl:=a.pe
 have ls:=a.ls
 rw [e1,e2]
 dsimp only
 have M1:∀ x ∈ r1,M x:=λ x hx=>hM x (List.mem_append_left _ hx)
 have M2:∀ x ∈ r2,M x:=λ x hx=>hM x (List.mem_append_right _ hx)
 have ls2:(arrOf st).toList=(P ++ r1) ++ (r2 ++ S):=by rw [List.append_assoc]; exact ls
 have hsb':sb=(P ++ r1).length:=by rw [List.length_append]; exact hsb
 have k0:r2[0]?=some r2[0]:=List.getElem?_eq_getElem n2
 have kl:r1[r1.length - 1]?=some r1[r1.length - 1]:=List.getElem?_eq_getElem (by omega)
 have fin:∀ {st':SortSt},Ok κ st'->arrOf st'=arrOf st->pendingOf st'=((pendingOf st).setIfInBounds i (sa,na + nb,pw)).eraseIdxIfInBounds (i + 1)->(∀ x ∈ r1,∀ y ∈ r2,le lt x y)->Q true st':=λ o ea ep hx =>
  h _ (r1 ++ r2) ⟨o,ep,by rw [ea,ls,List.append_assoc]⟩ (.refl _) (List.pairwise_append.mpr ⟨s1,s2,hx⟩)
 refine wpS_bind (zi2 ?_)
 refine wpS_bind (wc0 (x:=r2[0]) (by have:=yb1 (i:=0) ls2 hsb' n2; exact this) ?_)
 subst hna hnb
 refine wpS_bind (vq0 c ⟨a.ok.kd,a.ok.fl⟩ (bsF c ls hsa M1 (M2 _ (List.getElem_mem n2)) s1) n1 λ k k1 k2 k3=>?_)
 dsimp only
 have lowA:∀ i x,i < k->r1[i]?=some x->le lt x r2[0]:=λ i x hi ex=>by
  have q:=k2 i hi
  rw [getD_some ex] at q
  exact (by simpa using q:lt r2[0] x=false)
 have highA:∀ i x,k<=i->r1[i]?=some x->le lt r2[0] x:=λ i x hi ex=>by
  have q:=k3 i hi (List.getElem?_eq_some_iff.mp ex).1
  rw [getD_some ex] at q
  exact c.lt_le (by simpa using q)
 have first2:∀ y ∈ r2,le lt r2[0] y:=λ y hy=>by
  obtain ⟨j,hj,rfl⟩:=List.mem_iff_getElem.mp hy
  by_cases z:j=0
  ·subst z; exact c.rf _
  ·exact vk0 s2 (by omega) k0 (List.getElem?_eq_getElem hj)
 have last1:∀ x ∈ r1,le lt x r1[r1.length - 1]:=λ x hx=>by
  obtain ⟨j,hj,rfl⟩:=List.mem_iff_getElem.mp hx
  by_cases z:j=r1.length - 1
  ·subst z; exact c.rf _
  ·exact vk0 s1 (by omega) (List.getElem?_eq_getElem hj) kl
 by_cases z:(r1.length - k == 0)=true
 ·rw [if_pos z]
  have z':r1.length - k=0:=eq_of_beq z
  refine wpS_pure (fin ⟨a.ok.kd,a.ok.fl⟩ rfl rfl λ x hx y hy=>?_)
  obtain ⟨j,hj,rfl⟩:=List.mem_iff_getElem.mp hx
  exact c.le_tr (lowA j _ (by omega) (List.getElem?_eq_getElem hj)) (first2 y hy)
 rw [if_neg z]
 have z':r1.length - k ≠ 0:=λ e=>z (beq_iff_eq.mpr e)
 refine wpS_bind (wc0 (x:=r1[r1.length - 1]) (by
  have:=yb1 (i:=r1.length - 1) ls hsa (by omega)
  rw [show sa + k + (r1.length - k) - 1=sa + (r1.length - 1) by omega]
  exact this) ?_)
 refine wpS_bind (vq0 c ⟨a.ok.kd,a.ok.fl⟩ (bsT c ls2 hsb' M2 (M1 _ (List.getElem_mem _)) s2) (by omega) λ t t1 t2 t3=>?_)
 dsimp only
 have lowB:∀ i y,i < t->r2[i]?=some y->le lt y r1[r1.length - 1]:=λ i y hi ey=>by
  have q:=t2 i hi
  rw [getD_some ey] at q
  exact c.lt_le q
 have highB:∀ i y,t<=i->r2[i]?=some y->le lt r1[r1.length - 1] y:=λ i y hi ey=>by
  have q:=t3 i hi (List.getElem?_eq_some_iff.mp ey).1
  rw [getD_some ey] at q
  exact q
 by_cases zt:(t == 0)=true
 ·rw [if_pos zt]
  have zt':t=0:=eq_of_beq zt
  refine wpS_pure (fin ⟨a.ok.kd,a.ok.fl⟩ rfl rfl λ x hx y hy=>?_)
  obtain ⟨j,hj,rfl⟩:=List.mem_iff_getElem.mp hy
  exact c.le_tr (last1 x hx) (highB j _ (by omega) (List.getElem?_eq_getElem hj))
 rw [if_neg zt]
 have zt':t ≠ 0:=λ e=>zt (beq_iff_eq.mpr e)
 have xs:((arrOf st).extract (sa + k) sb).toList=r1.drop k:=by
  rw [xq2,ls2,List.take_append_of_le_length (by omega),List.take_of_length_le (by omega),List.drop_append,show sa + k - P.length=k by omega,List.drop_eq_nil_of_le (by omega),List.nil_append]
 have ys:((arrOf st).extract sb (sb + t)).toList=r2.take t:=by
  rw [yq2,ls2,List.drop_left' hsb'.symm,List.take_append_of_le_length (by omega)]
 have dx:∀ x ∈ r1.drop k,∃ j,k<=j /\ r1[j]?=some x:=λ x hx=>by
  obtain ⟨j,hj,rfl⟩:=List.mem_drop_iff_getElem.mp hx
  exact ⟨k + j,by omega,List.getElem?_eq_getElem (by omega)⟩
 have dy:∀ y ∈ r2.take t,∃ j,j < t /\ r2[j]?=some y:=λ y hy=>by
  obtain ⟨j,hj,rfl⟩:=List.mem_take_iff_getElem.mp hy
  exact ⟨j,by omega,List.getElem?_eq_getElem (by omega)⟩
 have done:∀ (mg:Array Keyed) (st2:SortSt),Same κ (SortSt.mk' (kindOf st) (arrOf st) (((pendingOf st).setIfInBounds i (sa,r1.length + r2.length,pw)).eraseIdxIfInBounds (i + 1)) (gallopOf st) (failedOf st)) st2->Fin lt (r1.drop k) (r2.take t) mg.toList ->
     ∀ (f:SortSt->SortSt),(∀ u,f u=setArr u (mg.toList.zipIdx.foldl (λ (a:Array Keyed) (x:Keyed × Nat)=>match x with | (q,j)=>a.setIfInBounds (sa + k + j) q) (arrOf u)))->wpS (model prog w) A E s (modify f >>= λ _=>get >>= λ u=>pure (failedOf u).isNone) Q st2:=by
  intro mg st2 sm F f hf
  refine wpS_bind (wpS_modify (wpS_bind (wpS_get ?_)))
  rw [hf]
  have e:(failedOf (setArr st2 (mg.toList.zipIdx.foldl (λ (a:Array Keyed) (x:Keyed × Nat)=>match x with | (q,j)=>a.setIfInBounds (sa + k + j) q) (arrOf st2)))).isNone=true:=by
   show (failedOf st2).isNone=true
   rw [sm.ok.fl]; rfl
  rw [e]
  have l1:(r1.take k).length=k:=by rw [List.length_take]; omega
  have l2:mg.toList.length=(r1.drop k ++ r2.take t).length:=F.1.length_eq
  have wbk:=wb (sa + k) mg.toList (r1.drop k ++ r2.take t) (P ++ r1.take k) (r2.drop t ++ S) (arrOf st2) 0 (by
   rw [sm.ar]
   show (arrOf st).toList=_
   rw [ls]
   simp only [List.append_assoc]
   rw [<- List.append_assoc (r1.take k),List.take_append_drop,<- List.append_assoc (r2.take t),List.take_append_drop]) l2.symm (by rw [List.length_append]; omega)
  refine wpS_pure (h _ (r1.take k ++ mg.toList ++ r2.drop t) ⟨⟨sm.ok.kd,sm.ok.fl⟩,sm.pe,?_⟩ ?_ ?_)
  ·refine wbk.trans ?_
   simp only [List.append_assoc]
  ·have q:=F.1
   refine .trans (List.Perm.append_right _ (List.Perm.append_left _ q)) ?_
   rw [<- List.append_assoc (r1.take k),List.take_append_drop,List.append_assoc,List.take_append_drop]
  ·have mem:∀ v ∈ mg.toList,v ∈ r1.drop k \/ v ∈ r2.take t:=λ v hv=>List.mem_append.mp (F.1.mem_iff.mp hv)
   have lowk:∀ x ∈ r1.take k,le lt x r2[0]:=λ x hx=>by
    obtain ⟨j,hj,rfl⟩:=List.mem_take_iff_getElem.mp hx
    exact lowA j _ (by omega) (List.getElem?_eq_getElem (by omega))
   have s1':=s1
   rw [<- List.take_append_drop k r1] at s1'
   have s2':=s2
   rw [<- List.take_append_drop t r2] at s2'
   have hd:∀ y ∈ r2.drop t,le lt r1[r1.length - 1] y:=λ y hy=>by
    obtain ⟨j,hj,rfl⟩:=List.mem_drop_iff_getElem.mp hy
    exact highB (t + j) _ (by omega) (List.getElem?_eq_getElem (by omega))
   refine List.pairwise_append.mpr ⟨List.pairwise_append.mpr ⟨(List.pairwise_append.mp s1').1,F.2,λ x hx v hv=>?_⟩,(List.pairwise_append.mp s2').2.1,λ x hx y hy=>?_⟩
   ·rcases mem v hv with q | q
    ·exact (List.pairwise_append.mp s1').2.2 x hx v q
    ·exact c.le_tr (lowk x hx) (first2 v (List.mem_of_mem_take q))
   ·rcases List.mem_append.mp hx with q | q
    ·exact c.le_tr (lowk x q) (first2 y (List.mem_of_mem_drop hy))
    ·rcases mem x q with q | q
     ·exact c.le_tr (last1 x (List.mem_of_mem_drop q)) (hd y hy)
     ·exact (List.pairwise_append.mp s2').2.2 x q y hy
 have pre1:∀ x ∈ ((arrOf st).extract (sa + k) sb).toList,M x:=λ x hx=>M1 x (by rw [xs] at hx; exact List.mem_of_mem_drop hx)
 have pre2:∀ x ∈ ((arrOf st).extract sb (sb + t)).toList,M x:=λ x hx=>M2 x (by rw [ys] at hx; exact List.mem_of_mem_take hx)
 have pre3:((arrOf st).extract (sa + k) sb).toList.Pairwise (le lt):=by rw [xs]; exact s1.sublist (List.drop_sublist _ _)
 have pre4:((arrOf st).extract sb (sb + t)).toList.Pairwise (le lt):=by rw [ys]; exact s2.sublist (List.take_sublist _ _)
 have pre5:0 < ((arrOf st).extract (sa + k) sb).toList.length:=by rw [xs,List.length_drop]; omega
 have pre6:0 < ((arrOf st).extract sb (sb + t)).toList.length:=by rw [ys,List.length_take]; omega
 have pre7:∀ x y,((arrOf st).extract sb (sb + t)).toList[0]?=some x->((arrOf st).extract (sa + k) sb).toList[0]?=some y->le lt x y:=λ x y hx hy=>by
  rw [ys,List.getElem?_take_of_lt (by omega),k0] at hx
  cases hx
  rw [xs] at hy
  obtain ⟨j,hj,ej⟩:=dx y (List.mem_of_getElem? hy)
  exact highA j y hj ej
 have pre8:∀ x,((arrOf st).extract (sa + k) sb).toList[((arrOf st).extract (sa + k) sb).toList.length - 1]?=some x->∀ y ∈ ((arrOf st).extract sb (sb + t)).toList,le lt y x:=λ x hx y hy=>by
  rw [xs,List.length_drop,List.getElem?_drop,show k + (r1.length - k - 1)=r1.length - 1 by omega,kl] at hx
  cases hx
  rw [ys] at hy
  obtain ⟨j,hj,ej⟩:=dy y hy
  exact lowB j y hj ej
 by_cases g:r1.length - k<=t
 ·rw [if_pos g]
  refine wpS_bind (zi3 c ⟨a.ok.kd,a.ok.fl⟩ pre1 pre2 pre3 pre4 pre5 pre6 pre7 pre8 λ mg st2 sm F=>?_)
  rw [xs,ys] at F
  refine done mg st2 sm F _ ?_
  intro u; rfl
 ·rw [if_neg g]
  refine wpS_bind (ui3 c ⟨a.ok.kd,a.ok.fl⟩ pre1 pre2 pre3 pre4 pre5 pre6 pre7 pre8 λ mg st2 sm F=>?_)
  rw [xs,ys] at F
  refine done mg st2 sm F _ ?_
  intro u; rfl
end
end Ts
namespace Ts
open PySem PyProof.Rows
noncomputable def pos:Nat->List (List Keyed)->List (Nat × Nat)
 | _,[]=>[]
 | o,r :: rs=>(o,r.length) :: pos (o + r.length) rs
theorem tr0:∀ (o:Nat) (X Y:List (List Keyed)),pos o (X ++ Y)=pos o X ++ pos (o + X.flatten.length) Y
 | o,[],Y=>by simp [pos]
 | o,r :: X,Y=>by
  show (o,r.length) :: pos (o + r.length) (X ++ Y)=_
  rw [tr0]
  simp [pos,Nat.add_assoc]
theorem sx0:∀ (o:Nat) (X:List (List Keyed)),(pos o X).length=X.length
 | _,[]=>rfl
 | o,r :: X=>by show (pos _ X).length + 1=X.length + 1; rw [sx0]
noncomputable abbrev pn (t:Nat × Nat × Nat):Nat × Nat:=(t.1,t.2.1)
structure Lay (κ:SortKind) (lt:Keyed->Keyed->Bool) (L0:List Keyed) (p:Array (Nat × Nat × Nat)) (st:SortSt) (rs:List (List Keyed)) (rest:List Keyed):Prop where
 at_:At κ p st (rs.flatten ++ rest)
 po:p.toList.map pn=pos 0 rs
 so:∀ r ∈ rs,0 < r.length /\ r.Pairwise (le lt)
 pm:(rs.flatten ++ rest).Perm L0
theorem Lay.size {κ:SortKind} {lt:Keyed->Keyed->Bool} {L0:List Keyed} {p:Array (Nat × Nat × Nat)} {st:SortSt} {rs:List (List Keyed)} {rest:List Keyed} (l:Lay κ lt L0 p st rs rest):p.size=rs.length:=by
 have:=congrArg List.length l.po
 rw [List.length_map,sx0] at this
 exact this
theorem Lay.many {κ:SortKind} {lt:Keyed->Keyed->Bool} {L0:List Keyed} {p:Array (Nat × Nat × Nat)} {st:SortSt} {rs:List (List Keyed)} {rest:List Keyed} (l:Lay κ lt L0 p st rs rest):rs.length<=rs.flatten.length:=by
 have h:=l.so
 clear l
 induction rs with
 | nil=>simp
 | cons r rs ih =>
  have a:=(h r (.head _)).1
  have b:=ih λ x hx=>h x (.tail _ hx)
  simp only [List.length_cons,List.flatten_cons,List.length_append]
  omega
section
variable {prog:Program} {w:World} {A:Around} {E:Value->Shared->Prop} {s:Shared} {κ:SortKind} {p:Array (Nat × Nat × Nat)}
variable {lt:Keyed->Keyed->Bool} {M:Keyed->Prop}
theorem Lay.merge (c:Cm prog w A s κ lt M) {L0:List Keyed} {st:SortSt} {rs:List (List Keyed)} {rest:List Keyed} {i:Nat} {Q:Bool->SortSt->Prop} (hM:∀ x ∈ L0,M x) (l:Lay κ lt L0 p st rs rest) (hi:i + 1 < rs.length)
    (h:∀ st' p' rs',Lay κ lt L0 p' st' rs' rest->rs'.length + 1=rs.length->rs'.flatten.length=rs.flatten.length->Q true st'):wpS (model prog w) A E s (mergeAt' i) Q st:=by
 obtain ⟨X,r1,r2,Y,rfl,hX⟩:∃ X r1 r2 Y,rs=X ++ r1 :: r2 :: Y /\ X.length=i:=by
  refine ⟨rs.take i,rs[i],rs[i + 1],rs.drop (i + 2),?_,by rw [List.length_take]; omega⟩
  rw [<- List.drop_eq_getElem_cons,<- List.drop_eq_getElem_cons,List.take_append_drop]
 have po:=l.po
 rw [tr0] at po
 obtain ⟨px,pr,e1,e2,e3⟩:=List.map_eq_append_iff.mp po
 obtain ⟨t1,pr1,e4,e5,e6⟩:=List.map_eq_cons_iff.mp e3
 obtain ⟨t2,py,e7,e8,e9⟩:=List.map_eq_cons_iff.mp e6
 subst e4 e7
 obtain ⟨sa,na,pw⟩:=t1
 obtain ⟨sb,nb,pw2⟩:=t2
 have lp:px.length=i:=by have:=congrArg List.length e2; rw [List.length_map,sx0] at this; omega
 injection e5 with f1 f2
 injection e8 with f3 f4
 dsimp only at f1 f2 f3 f4
 rw [Nat.zero_add] at f1 f3 e9
 have g1:p[i]?=some (sa,na,pw):=by rw [<- Array.getElem?_toList,e1,List.getElem?_append_right (by omega),show i - px.length=0 by omega]; rfl
 have g2:p[i + 1]?=some (sb,nb,pw2):=by rw [<- Array.getElem?_toList,e1,List.getElem?_append_right (by omega),show i + 1 - px.length=1 by omega]; rfl
 have a:=l.at_
 have fl:(X ++ r1 :: r2 :: Y).flatten ++ rest=X.flatten ++ (r1 ++ (r2 ++ (Y.flatten ++ rest))):=by simp
 rw [fl] at a
 have pm:=l.pm
 rw [fl] at pm
 have s1:=l.so r1 (by simp)
 have s2:=l.so r2 (by simp)
 refine si3 c a (λ x hx=>hM x (pm.mem_iff.mp ?_)) g1 g2 f1 f2 f3 f4 s1.1 s2.1 s1.2 s2.2 λ st' m a' pm' so'=>?_
 ·rcases List.mem_append.mp hx with q | q
  ·exact List.mem_append_right _ (List.mem_append_left _ q)
  ·exact List.mem_append_right _ (List.mem_append_right _ (List.mem_append_left _ q))
 ·have lm:=pm'.length_eq
  rw [List.length_append] at lm
  refine h st' ((p.setIfInBounds i (sa,na + nb,pw)).eraseIdxIfInBounds (i + 1)) (X ++ m :: Y) ⟨?_,?_,?_,?_⟩ (by simp; omega) (by simp only [List.flatten_append,List.flatten_cons,List.length_append]; omega)
  ·have fl2:(X ++ m :: Y).flatten ++ rest=X.flatten ++ (m ++ (Y.flatten ++ rest)):=by simp
   rw [fl2]
   exact a'
  ·have pl:((p.setIfInBounds i (sa,na + nb,pw)).eraseIdxIfInBounds (i + 1)).toList=px ++ (sa,na + nb,pw) :: py:=by
     rw [Array.toList_eraseIdxIfInBounds,Array.toList_setIfInBounds,e1,List.set_append_right _ _ (by omega),show i - px.length=0 by omega,List.set_cons_zero,List.eraseIdx_append_of_length_le (by omega),show i + 1 - px.length=1 by omega]
     rfl
   rw [pl,List.map_append,e2,tr0,List.map_cons]
   refine congrArg _ ?_
   show (sa,na + nb) :: _=(0 + X.flatten.length,m.length) :: pos _ Y
   rw [Nat.zero_add,f1,show na + nb=m.length by omega,e9,show X.flatten.length + m.length=X.flatten.length + r1.length + r2.length by omega]
  ·intro r hr
   rcases List.mem_append.mp hr with q | q
   ·exact l.so r (List.mem_append_left _ q)
   ·rcases List.mem_cons.mp q with rfl | q
    ·exact ⟨by omega,so'⟩
    ·exact l.so r (List.mem_append_right _ (.tail _ (.tail _ q)))
  ·refine .trans ?_ pm
   have fl2:(X ++ m :: Y).flatten ++ rest=X.flatten ++ (m ++ (Y.flatten ++ rest)):=by simp
   rw [fl2]
   refine List.Perm.append_left _ ?_
   rw [<- List.append_assoc r1]
   exact List.Perm.append_right _ pm'
theorem yw2 (c:Cm prog w A s κ lt M) {st:SortSt} {L0:List Keyed} {Q:Unit->SortSt->Prop} (a:At κ #[] st L0) (hM:∀ x ∈ L0,M x) (h2:2<=L0.length) (h:∀ st' p L,At κ p st' L->L.Perm L0->L.Pairwise (le lt)->Q () st') :
    wpS (model prog w) A E s sortRuns' Q st:=by
 refine wpS_bind (wpS_get ?_)
 dsimp only
 have sz:(arrOf st).size=L0.length:=by rw [<- Array.length_toList,a.ls]
 generalize hsz:(arrOf st).size=size at *
 have hs:size=L0.length:=sz
 generalize ((sortPriv% PySem.Builtin.minRun):Nat->Nat->Nat->Nat) size size 0=mr
 have st0:Lay κ lt L0 #[] st [] L0:=⟨by simpa using a,rfl,λ _ h=>(nomatch h),by simp⟩
 have llen:∀ {p:Array (Nat × Nat × Nat)} {st':SortSt} {rs:List (List Keyed)} {rest:List Keyed},Lay κ lt L0 p st' rs rest->rs.flatten.length + rest.length=size:=λ l=>by
  have:=l.pm.length_eq
  rw [List.length_append] at this
  omega
 have push:∀ {p:Array (Nat × Nat × Nat)} {st':SortSt} {rs:List (List Keyed)} {rest:List Keyed} {lo n:Nat},Lay κ lt L0 p st' rs rest->lo=rs.flatten.length->1<=n->n<=rest.length->(rest.take n).Pairwise (le lt) ->
     Lay κ lt L0 (p.push (lo,n,0)) (setPending st' ((pendingOf st').push (lo,n,0))) (rs ++ [rest.take n]) (rest.drop n):=by
  intro p st' rs rest lo n l hlo h1 h2 so
  have e:(rs ++ [rest.take n]).flatten ++ rest.drop n=rs.flatten ++ rest:=by simp
  have lt1:(rest.take n).length=n:=by rw [List.length_take]; omega
  refine ⟨by rw [e]; exact ⟨⟨l.at_.ok.kd,l.at_.ok.fl⟩,by show (pendingOf st').push _=_; rw [l.at_.pe],l.at_.ls⟩,?_,?_,by rw [e]; exact l.pm⟩
  ·rw [Array.toList_push,List.map_append,l.po,tr0]
   refine congrArg _ ?_
   show [(lo,n)]=[(0 + rs.flatten.length,(rest.take n).length)]
   rw [Nat.zero_add,lt1,hlo]
  ·intro r hr
   rcases List.mem_append.mp hr with q | q
   ·exact l.so r q
   ·rw [List.mem_singleton] at q; subst q; exact ⟨by omega,so⟩
 refine wpS_bind (wpS_mono (wpS_forRange (λ x (r:Option Unit × Nat) st'=>r.1=none /\ x<=r.2 /\ ∃ p rs rest,Lay κ lt L0 p st' rs rest /\ r.2=rs.flatten.length) (Q:=λ (r:Option Unit × Nat) st'=>r.1=none /\ ∃ p rs,Lay κ lt L0 p st' rs []) ?_ ?_ ⟨rfl,Nat.zero_le _,#[],[],L0,st0,rfl⟩) ?_)
 ·rintro x ⟨r,lo⟩ st1 _ hx ⟨rfl,b1,p1,rs,rest,l,hlo⟩
  dsimp only at b1 hlo ⊢
  have ln:=llen l
  by_cases z:lo ≥ size
  ·rw [if_pos z]
   have e:rest=[]:=List.eq_nil_of_length_eq_zero (by omega)
   subst e
   exact wpS_pure ⟨rfl,p1,rs,l⟩
  ·rw [if_neg z]
   have hr:size - lo=rest.length:=by omega
   rw [hr]
   refine wpS_bind (tm3 c l.at_ (λ x hx=>hM x (l.pm.mem_iff.mp hx)) hlo (by omega) λ m st2 R2 a2 pm2 m1 m2 so2=>?_)
   have l2:Lay κ lt L0 p1 st2 rs R2:=⟨a2,l.po,l.so,(List.Perm.append_left _ pm2).trans l.pm⟩
   have r2l:=pm2.length_eq
   have jp:∀ (n:Nat) (st3:SortSt) (R3:List Keyed),Lay κ lt L0 p1 st3 rs R3->1<=n->n<=R3.length->(R3.take n).Pairwise (le lt)->∀ (G:SortSt->StateT SortSt Sem (ForInStep (Option Unit × Nat))) (J:StateT SortSt Sem (ForInStep (Option Unit × Nat))),
       (∀ (q:Array (Nat × Nat × Nat)) (st4:SortSt) rs4,Lay κ lt L0 q st4 rs4 R3->rs4.flatten.length=lo->wpS (model prog w) A E s J (λ r st'=>match r with
        | .done c'=>c'.1=none /\ ∃ p rs,Lay κ lt L0 p st' rs []
        | .yield c'=>c'.1=none /\ x + 1<=c'.2 /\ ∃ p rs rest,Lay κ lt L0 p st' rs rest /\ c'.2=rs.flatten.length) st4) ->
       ((pendingOf st3).back?=none->G st3=J)->(∀ s1 n1 o1,(pendingOf st3).back?=some (s1,n1,o1)->∃ (pw:Nat) (f:Nat->Option Unit × Unit->StateT SortSt Sem (ForInStep (Option Unit × Unit))) (g:Option Unit × Unit->StateT SortSt Sem (ForInStep (Option Unit × Nat))),G st3=(forIn [0:size] (none,()) f >>= g) ∧
        (∀ y,f y (none,())=(get >>= λ u=>match (if (pendingOf u).size > 1 then (pendingOf u)[(pendingOf u).size - 2]? else none) with
         | some (_,_,older)=>if older<=pw then pure (.done (none,())) else mergeAt' ((pendingOf u).size - 2) >>= λ b=>if (!b)=true then pure (.done (some (),())) else pure (.yield (none,()))
         | none=>pure (.done (none,())))) ∧
        g (none,())=(modify (λ u=>setPending u ((pendingOf u).modify ((pendingOf u).size - 1) λ t=>(t.1,t.2.1,pw))) >>= λ _=>J)) ->
       wpS (model prog w) A E s (get >>= G) (λ r st'=>match r with
        | .done c'=>c'.1=none /\ ∃ p rs,Lay κ lt L0 p st' rs []
        | .yield c'=>c'.1=none /\ x + 1<=c'.2 /\ ∃ p rs rest,Lay κ lt L0 p st' rs rest /\ c'.2=rs.flatten.length) st3:=by
    intro n st3 R3 l3 h1 h2 so3 G J hJ hG1 hG2
    refine wpS_bind (wpS_get ?_)
    cases hb:(pendingOf st3).back? with
    | none =>
     rw [hG1 hb]
     exact hJ _ st3 rs l3 hlo.symm
    | some t =>
     obtain ⟨s1,n1,o1⟩:=t
     obtain ⟨pw,f,g,e1,e2,e3⟩:=hG2 s1 n1 o1 hb
     rw [e1]
     refine wpS_bind (wpS_mono (wpS_forRange (λ y (r:Option Unit × Unit) st'=>r=(none,()) /\ ∃ q rs4,Lay κ lt L0 q st' rs4 R3 /\ rs4.flatten.length=lo) (Q:=λ (r:Option Unit × Unit) st'=>r=(none,()) /\ ∃ q rs4,Lay κ lt L0 q st' rs4 R3 /\ rs4.flatten.length=lo) ?_ (λ _ _ q=>q) ⟨rfl,p1,rs,l3,hlo.symm⟩) ?_)
     ·rintro y r st4 _ _ ⟨rfl,q,rs4,l4,hl4⟩
      rw [e2]
      refine wpS_bind (wpS_get ?_)
      have pe:=l4.at_.pe
      have ps:=l4.size
      by_cases c1:(pendingOf st4).size > 1
      ·rw [if_pos c1]
       cases c2:(pendingOf st4)[(pendingOf st4).size - 2]? with
       | none=>exact wpS_pure ⟨rfl,q,rs4,l4,hl4⟩
       | some t =>
        obtain ⟨_,_,older⟩:=t
        dsimp only
        by_cases c3:older<=pw
        ·rw [if_pos c3]
         exact wpS_pure ⟨rfl,q,rs4,l4,hl4⟩
        ·rw [if_neg c3]
         refine wpS_bind (l4.merge c hM (by rw [pe] at c1 ⊢; omega) λ st5 p5 rs5 l5 _ hl5=>?_)
         rw [if_neg (by simp)]
         exact wpS_pure ⟨rfl,p5,rs5,l5,by omega⟩
      ·rw [if_neg c1]
       exact wpS_pure ⟨rfl,q,rs4,l4,hl4⟩
     ·rintro r st4 ⟨rfl,q,rs4,l4,hl4⟩
      rw [e3]
      refine wpS_bind (wpS_modify (hJ (q.modify (q.size - 1) λ t=>(t.1,t.2.1,pw)) _ rs4 ⟨⟨⟨l4.at_.ok.kd,l4.at_.ok.fl⟩,?_,l4.at_.ls⟩,?_,l4.so,l4.pm⟩ hl4))
      ·have pe4:=l4.at_.pe
       subst pe4
       rfl
      ·rw [<- l4.po,Array.toList_modify]
       apply List.ext_getElem?
       intro k
       rw [List.getElem?_map,List.getElem?_map,List.getElem?_modify]
       split
       ·cases q.toList[k]? <;> rfl
       ·cases q.toList[k]? <;> rfl
   have end_:∀ {n:Nat} {R3:List Keyed},1<=n->n<=R3.length->(R3.take n).Pairwise (le lt)->∀ (q:Array (Nat × Nat × Nat)) (st4:SortSt) rs4,Lay κ lt L0 q st4 rs4 R3->rs4.flatten.length=lo->∀ (f:SortSt->SortSt),(∀ u,f u=setPending u ((pendingOf u).push (lo,n,0)))->wpS (model prog w) A E s (modify f >>= λ _=>pure (ForInStep.yield ((none,lo + n):Option Unit × Nat))) (λ r st'=>match r with
         | .done c'=>c'.1=none /\ ∃ p rs,Lay κ lt L0 p st' rs []
         | .yield c'=>c'.1=none /\ x + 1<=c'.2 /\ ∃ p rs rest,Lay κ lt L0 p st' rs rest /\ c'.2=rs.flatten.length) st4:=by
    intro n R3 h1 h2 so3 q st4 rs4 l4 hl4 f hf
    refine wpS_bind (wpS_modify (wpS_pure ?_))
    rw [hf]
    refine ⟨rfl,by show x + 1<=lo + n; omega,_,_,_,push l4 hl4.symm h1 h2 so3,?_⟩
    show lo + n=_
    rw [List.flatten_append,List.length_append]
    simp only [List.flatten_cons,List.flatten_nil,List.append_nil,List.length_take]
    omega
   dsimp only
   by_cases g:m < mr
   ·rw [if_pos g]
    refine wpS_bind (wpS_lift (wpAny_rule ⟨rfl,?_⟩))
    refine wpS_bind (vv1 c a2 (λ x hx=>hM x (l2.pm.mem_iff.mp hx)) hlo m1 (show m<=min rest.length mr by omega) (by omega) so2 λ st3 R3 a3 pm3 so3=>?_)
    rw [if_neg (by simp)]
    have l3:Lay κ lt L0 p1 st3 rs R3:=⟨a3,l.po,l.so,(List.Perm.append_left _ pm3).trans l2.pm⟩
    have r3l:=pm3.length_eq
    refine wpS_mono (jp _ st3 R3 l3 (show 1<=min rest.length mr by omega) (by omega) so3 _ _ (λ q st4 rs4 l4 hl4=>end_ (by omega) (by omega) so3 q st4 rs4 l4 hl4 _ λ _=>rfl) ?_ ?_) ?_
    ·intro hb; rw [hb]
    ·intro s1 n1 o1 hb
     rw [hb]
     refine ⟨_,_,_,rfl,λ y=>?_,rfl⟩
     refine congrArg _ (funext λ u=>?_)
     generalize (if (pendingOf u).size > 1 then (pendingOf u)[(pendingOf u).size - 2]? else none)=o
     rcases o with _ | ⟨_,_,_⟩ <;> rfl
    ·intro r st' q; cases r <;> exact q
   ·rw [if_neg g]
    refine wpS_mono (jp m st2 R2 l2 m1 (by omega) so2 _ _ (λ q st4 rs4 l4 hl4=>end_ m1 (by omega) so2 q st4 rs4 l4 hl4 _ λ _=>rfl) ?_ ?_) ?_
    ·intro hb; rw [hb]
    ·intro s1 n1 o1 hb
     rw [hb]
     refine ⟨_,_,_,rfl,λ y=>?_,rfl⟩
     refine congrArg _ (funext λ u=>?_)
     generalize (if (pendingOf u).size > 1 then (pendingOf u)[(pendingOf u).size - 2]? else none)=o
     rcases o with _ | ⟨_,_,_⟩ <;> rfl
    ·intro r st' q; cases r <;> exact q
 ·rintro ⟨r,lo⟩ st1 ⟨rfl,b1,p1,rs,rest,l,hlo⟩
  dsimp only at b1 hlo
  have ln:=llen l
  have b1':max 0 size<=lo:=b1
  have e:rest=[]:=List.eq_nil_of_length_eq_zero (by omega)
  subst e
  exact ⟨rfl,p1,rs,l⟩
 ·rintro ⟨r,lo⟩ st1 ⟨rfl,p1,rs,l⟩
  dsimp only
  have ln:=llen l
  have mn:=l.many
  refine wpS_bind (wpS_mono (wpS_forRange (λ x (r:Option Unit × Unit) st'=>r=(none,()) /\ ∃ p rs,Lay κ lt L0 p st' rs [] /\ rs.length + x<=size + 1 + (if rs.length<=1 then x else 0)) (Q:=λ (r:Option Unit × Unit) st'=>r=(none,()) /\ ∃ p rs,Lay κ lt L0 p st' rs [] /\ rs.length<=1) ?_ ?_ ⟨rfl,p1,rs,l,by rw [List.length_nil] at ln; omega⟩) ?_)
  ·rintro x r st2 _ hx ⟨rfl,p2,rs2,l2,b⟩
   refine wpS_bind (wpS_get ?_)
   have pe:=l2.at_.pe
   have ps:=l2.size
   have ps':(pendingOf st2).size=rs2.length:=by rw [pe]; exact ps
   by_cases z:(pendingOf st2).size<=1
   ·rw [if_pos z]
    exact wpS_pure ⟨rfl,p2,rs2,l2,by omega⟩
   ·rw [if_neg z]
    refine wpS_bind (l2.merge c hM ?_ λ st3 p3 rs3 l3 hl3 _=>?_)
    ·exact (show ∀ (P:Prop) [Decidable P] (n m:Nat),2<=n->n=m->(if P then n - 2 - 1 else n - 2) + 1 < m by intro P _ n m h1 h2; split <;> omega) _ _ _ (show 2<=(pendingOf st2).size by omega) ps'
    ·rw [if_neg (by simp)]
     refine wpS_pure ⟨rfl,p3,rs3,l3,?_⟩
     rw [if_neg (by omega)] at b
     split <;> omega
  ·rintro r st2 ⟨rfl,p2,rs2,l2,b⟩
   refine ⟨rfl,p2,rs2,l2,?_⟩
   by_cases z:rs2.length<=1
   ·exact z
   ·rw [if_neg z] at b
    omega
  ·rintro r st2 ⟨rfl,p2,rs2,l2,b⟩
   dsimp only
   have pm:=l2.pm
   have a2:=l2.at_
   rw [List.append_nil] at pm a2
   refine wpS_pure (h st2 p2 _ a2 pm ?_)
   match rs2,b,l2.so with
   | [],_,_=>exact List.Pairwise.nil
   | [r],_,so=>simpa using (so r (.head _)).2
   | _ :: _ :: _,b,_=>simp at b
end
end Ts
namespace Ts
open PySem PyProof.Rows PySem.W
theorem vo1 {α β:Type} {f:α->β} {L N:List β} (h:L.Perm N):∀ l:List α,N=l.map f->∃ l':List α,l'.Perm l /\ L=l'.map f:=by
 induction h with
 | nil=>intro l e; exact ⟨l,.refl _,e⟩
 | cons x _ ih =>
  intro l e
  obtain ⟨a,l1,rfl,rfl,e3⟩:=List.map_eq_cons_iff.mp e.symm
  obtain ⟨l',p,e4⟩:=ih l1 e3.symm
  exact ⟨a :: l',p.cons a,by rw [e4]; rfl⟩
 | swap x y t =>
  intro l e
  obtain ⟨a,l1,rfl,rfl,e3⟩:=List.map_eq_cons_iff.mp e.symm
  obtain ⟨b,l2,rfl,rfl,e5⟩:=List.map_eq_cons_iff.mp e3
  exact ⟨b :: a :: l2,.swap a b l2,by rw [<- e5]; rfl⟩
 | trans _ _ ih1 ih2 =>
  intro l e
  obtain ⟨l2,p2,e2⟩:=ih2 l e
  obtain ⟨l1,p1,e1⟩:=ih1 l2 e2
  exact ⟨l1,p1.trans p2,e1⟩
open Classical in
noncomputable def idx (vs:List Value) (x:Keyed):Nat:=if h:∃ i:Nat,vs[i]?=some x.1 then Classical.choose h else 0
theorem ud1 {vs:List Value} {x:Keyed} (h:∃ i:Nat,vs[i]?=some x.1):vs[idx vs x]?=some x.1:=by
 unfold idx
 rw [dif_pos h]
 exact Classical.choose_spec h
section
variable {prog:Program} {w:World} {A:Around} {E:Value->Shared->Prop} {s:Shared} {κ:SortKind}
theorem run_idx {vs:List Value} {lt:Nat->Nat->Bool} (O:Ms.Ord lt) (h2:2<=vs.length) (sm:∀ (i j:Nat) v,vs[i]?=some v->vs[j]?=some v->∀ k,lt i k=lt j k /\ lt k i=lt k j)
    (ask:∀ (i j:Nat) x y,vs[i]?=some x->vs[j]?=some y->∀ C:Bool->Shared->Prop,C (lt i j) s->wpAny (model prog w) A (keyLt' κ x y) C (λ _ _=>False) s) :
    wpS (model prog w) A E s sortRuns' (λ _ st'=>∃ p:Array Nat,p.Perm (List.toArray (List.range vs.length)) /\ Ms.Up lt p vs.length /\ arrOf st'=p.map (kas_item (vs.toArray.zip vs.toArray)) /\ failedOf st'=none) (SortSt.mk' κ (vs.toArray.zip vs.toArray) #[] 7 none):=by
 let M:Keyed->Prop:=λ x=>∃ i:Nat,vs[i]?=some x.1
 let lk:Keyed->Keyed->Bool:=λ x y=>lt (idx vs x) (idx vs y)
 have c:Cm prog w A s κ lk M:=⟨λ x y hx hy C h=>ask _ _ _ _ (ud1 hx) (ud1 hy) C h,λ x=>O.ir _,λ x y z=>O.tr _ _ _,λ x y z=>O.ng _ _ _⟩
 have it:(vs.toArray.zip vs.toArray).toList=(List.range vs.length).map (kas_item (vs.toArray.zip vs.toArray)):=by
  have:=kas_range (vs.toArray.zip vs.toArray)
  have sz:(vs.toArray.zip vs.toArray).size=vs.length:=by simp
  rw [sz] at this
  have e:=congrArg Array.toList this
  simpa using e.symm
 have ki:∀ i,i < vs.length->(kas_item (vs.toArray.zip vs.toArray) i).1=vs.getD i .none:=λ i hi=>by
  show ((vs.toArray.zip vs.toArray).getD i _).1=_
  simp [Array.getD,hi,List.getD_eq_getElem?_getD]
 refine yw2 c (L0:=(vs.toArray.zip vs.toArray).toList) ⟨⟨rfl,rfl⟩,rfl,rfl⟩ (λ x hx=>?_) (by simp; exact h2) λ st' p L a pm so=>?_
 ·rw [it] at hx
  obtain ⟨i,hi,rfl⟩:=List.mem_map.mp hx
  have hi':=List.mem_range.mp hi
  exact ⟨i,by rw [ki i hi',List.getD_eq_getElem?_getD,List.getElem?_eq_getElem hi']; rfl⟩
 ·obtain ⟨l,pl,el⟩:=vo1 pm _ it
  subst el
  refine ⟨l.toArray,Array.perm_iff_toList_perm.mpr pl,?_,Array.toList_inj.mp (by rw [a.ls]; simp),a.ok.fl⟩
  have ll:l.length=vs.length:=by have:=pl.length_eq; simpa using this
  intro x y hxy hy
  show lt (l.toArray.getD y 0) (l.toArray.getD x 0)=false
  have gx:∀ z,z < l.length->l.toArray.getD z 0=l.getD z 0:=λ z hz=>by simp [Array.getD,hz,List.getD_eq_getElem?_getD]
  rw [gx y (by omega),gx x (by omega)]
  by_cases e:x=y
  ·subst e; exact O.ir _
  have ex:l[x]?=some l[x]:=List.getElem?_eq_getElem (by omega)
  have ey:l[y]?=some l[y]:=List.getElem?_eq_getElem (by omega)
  have q:=vk0 so (show x < y by omega) (by rw [List.getElem?_map,ex]; rfl) (by rw [List.getElem?_map,ey]; rfl)
  have rx:l[x] < vs.length:=List.mem_range.mp (pl.mem_iff.mp (List.getElem_mem _))
  have ry:l[y] < vs.length:=List.mem_range.mp (pl.mem_iff.mp (List.getElem_mem _))
  have vx:vs[l[x]]?=some (kas_item (vs.toArray.zip vs.toArray) l[x]).1:=by rw [ki _ rx,List.getD_eq_getElem?_getD,List.getElem?_eq_getElem rx]; rfl
  have vy:vs[l[y]]?=some (kas_item (vs.toArray.zip vs.toArray) l[y]).1:=by rw [ki _ ry,List.getD_eq_getElem?_getD,List.getElem?_eq_getElem ry]; rfl
  have jx:=ud1 (vs:=vs) (x:=kas_item (vs.toArray.zip vs.toArray) l[x]) ⟨_,vx⟩
  have jy:=ud1 (vs:=vs) (x:=kas_item (vs.toArray.zip vs.toArray) l[y]) ⟨_,vy⟩
  have q':lt (idx vs (kas_item (vs.toArray.zip vs.toArray) l[y])) (idx vs (kas_item (vs.toArray.zip vs.toArray) l[x]))=false:=q
  rw [(sm _ _ _ jy vy _).1,(sm _ _ _ jx vx _).2] at q'
  simpa [List.getD_eq_getElem?_getD,ex,ey] using q'
end
end Ts
namespace Pv
open PySem PySem.Spec PySem.W PyProof.Rows L2
noncomputable abbrev T3:=Int × Int × Int
noncomputable def lt3 (a b:T3):Bool:=decide (a.1 < b.1) || (a.1 == b.1 && (decide (a.2.1 < b.2.1) || (a.2.1 == b.2.1 && decide (a.2.2 < b.2.2))))
noncomputable def IsT3 (h:Heap) (v:Value) (t:T3):Prop:=∃ a o t1 t2 t3 n,v=.ref a /\ h.get? a=some o /\ o.cls=.type "tuple" /\ o.data=.seq #[.int t.1 t1,.int t.2.1 t2,.int t.2.2 t3] n
theorem IsT3.one {h:Heap} {v:Value} {t u:T3} (i:IsT3 h v t) (k:IsT3 h v u):t=u:=by
 obtain ⟨a,o,t1,t2,t3,n,rfl,e2,_,e4⟩:=i
 obtain ⟨b,q,u1,u2,u3,m,f1,f2,_,f4⟩:=k
 cases f1
 rw [e2] at f2
 cases f2
 rw [e4] at f4
 obtain ⟨x,y,z⟩:=t
 obtain ⟨x',y',z'⟩:=u
 simp only [Data.seq.injEq,Array.mk.injEq,List.cons.injEq,Value.int.injEq] at f4
 obtain ⟨⟨⟨h1,_⟩,⟨h2,_⟩,⟨h3,_⟩,_⟩,_⟩:=f4
 rw [h1,h2,h3]
theorem xq1 (ts:List T3):Ms.Ord λ i j=>lt3 (ts.getD i (0,0,0)) (ts.getD j (0,0,0)) where
 ir:=λ a=>by simp [lt3]
 tr:=λ a b c h k=>by
  simp only [lt3,Bool.or_eq_true,Bool.and_eq_true,decide_eq_true_eq,beq_iff_eq] at h k ⊢
  omega
 ng:=λ a b c h=>by
  simp only [lt3,Bool.or_eq_true,Bool.and_eq_true,decide_eq_true_eq,beq_iff_eq] at h ⊢
  omega
section
variable {prog:Program} {w:World} {A:Around} {E:Value->Shared->Prop} {s:Shared}
theorem to3 {x y:Value} {a b:T3} {Q:Bool->Shared->Prop} (hx:IsT3 s.heap x a) (hy:IsT3 s.heap y b) (h:Q (lt3 a b) s):wpAny (model prog w) A (keyLt' (tuples' true) x y) Q E s:=by
 obtain ⟨x,ox,t1,t2,t3,n,rfl,ex,_,dx⟩:=hx
 obtain ⟨y,oy,u1,u2,u3,m,rfl,ey,_,dy⟩:=hy
 obtain ⟨a1,a2,a3⟩:=a
 obtain ⟨b1,b2,b3⟩:=b
 refine kat_lt ex dx ey dy ?_
 refine kat_cons (wpAny_eqBool_int ?_)
 by_cases c1:a1=b1
 ·rw [show (a1 == b1)=true from beq_iff_eq.mpr c1]
  refine kat_yes (kat_cons (wpAny_eqBool_int ?_))
  by_cases c2:a2=b2
  ·rw [show (a2 == b2)=true from beq_iff_eq.mpr c2]
   refine kat_yes (kat_cons (wpAny_eqBool_int ?_))
   by_cases c3:a3=b3
   ·rw [show (a3 == b3)=true from beq_iff_eq.mpr c3]
    refine kat_yes (kat_nil ?_)
    have e:lt3 (a1,a2,a3) (b1,b2,b3)=false:=by subst c1 c2 c3; simp [lt3]
    rw [e] at h
    exact h
   ·rw [show (a3 == b3)=false from by simpa using c3]
    have e:lt3 (a1,a2,a3) (b1,b2,b3)=decide (a3 < b3):=by subst c1 c2; simp [lt3]
    rw [e] at h
    exact kat_no (kat_one _ _ (lt_int h))
  ·rw [show (a2 == b2)=false from by simpa using c2]
   have e:lt3 (a1,a2,a3) (b1,b2,b3)=decide (a2 < b2):=by subst c1; simp [lt3,c2]
   rw [e] at h
   exact kat_no (kat_one _ _ (lt_int h))
 ·rw [show (a1 == b1)=false from by simpa using c1]
  have e:lt3 (a1,a2,a3) (b1,b2,b3)=decide (a1 < b1):=by simp [lt3,c1]
  rw [e] at h
  exact kat_no (oneLt_int h)
noncomputable def T3s (h:Heap):List Value->List T3->Prop
 | [],[]=>True
 | v :: vs,t :: ts=>IsT3 h v t /\ T3s h vs ts
 | _,_=>False
theorem T3s.kept {h h':Heap} (k:∀ b o,h.get? b=some o->o.cls=.type "tuple" -> h'.get? b=some o):∀ {vs:List Value} {ts:List T3},T3s h vs ts->T3s h' vs ts
 | [],[],_=>trivial
 | [],_ :: _,i=>i.elim
 | _ :: _,[],i=>i.elim
 | v :: vs,t :: ts,i=>by
  obtain ⟨⟨a,o,t1,t2,t3,n,e1,e2,e3,e4⟩,r⟩:=i
  exact ⟨⟨a,o,t1,t2,t3,n,e1,k _ _ e2 e3,e3,e4⟩,T3s.kept k r⟩
theorem T3s.get {h:Heap}:∀ {vs:List Value} {ts:List T3},T3s h vs ts->∀ i,i < vs.length->IsT3 h (vs.getD i .none) (ts.getD i (0,0,0))
 | [],[],_,i,hi=>absurd hi (Nat.not_lt_zero _)
 | [],_ :: _,z,_,_=>z.elim
 | _ :: _,[],z,_,_=>z.elim
 | v :: vs,t :: ts,z,0,_=>z.1
 | v :: vs,t :: ts,z,i + 1,hi=>T3s.get z.2 i (Nat.lt_of_succ_lt_succ hi)
theorem T3s.firsts {h:Heap}:∀ {vs:List Value} {ts:List T3},T3s h vs ts->∃ fs,KatTups h vs fs /\ fs.length=vs.length /\ ∀ v ∈ fs,∃ i t,v=Value.int i t
 | [],[],_=>⟨[],trivial,rfl,λ _ hv=>nomatch hv⟩
 | [],_ :: _,z=>z.elim
 | _ :: _,[],z=>z.elim
 | v :: vs,t :: ts,z=>by
  obtain ⟨fs,f1,f2,f3⟩:=T3s.firsts z.2
  obtain ⟨a,o,t1,t2,t3,n,rfl,e2,e3,e4⟩:=z.1
  refine ⟨.int t.1 t1 :: fs,KatTups.cons e2 e3 e4 rfl f1,by rw [List.length_cons,List.length_cons,f2],λ x hx=>?_⟩
  rcases List.mem_cons.mp hx with rfl | hx
  ·exact ⟨_,_,rfl⟩
  ·exact f3 x hx
noncomputable abbrev ltI (ts:List T3):Nat->Nat->Bool:=λ i j=>lt3 (ts.getD i (0,0,0)) (ts.getD j (0,0,0))
noncomputable abbrev outV (vs:List Value) (p:Array Nat):List Value:=p.toList.map λ i=>vs.getD i Value.none
theorem xq0 (vs:List Value):outV vs (List.toArray (List.range vs.length))=vs:=by
 apply List.ext_getElem
 ·simp
 ·intro i h1 h2
  simp [List.getD_eq_getElem?_getD,List.getElem?_eq_getElem h2]
theorem xi3 {vs:Array Value} {n:Nat} {C:Prop} (h:(seqObj "list" vs n).cls=Value.type "tuple"):C:=by
 have h':Value.type "list" = Value.type "tuple" := h
 injection h' with e
 exact absurd e (by decide)
theorem sc1 {a:Addr} {vs:List Value} {ts:List T3} {n:Nat} {P:PySem.Fin->Shared->Prop} (ho:s.heap.get? a=some (seqObj "list" vs.toArray n)) (ht:T3s s.heap vs ts) (hz:vs.length<=sizeLine)
    (h:∀ (p:Array Nat) (h':Heap) (c:Nat),p.Perm (List.toArray (List.range vs.length))->Ms.Up (ltI ts) p vs.length->(∀ b o,b ≠ a->s.heap.get? b=some o->h'.get? b=some o) ->
     h'.get? a=some (seqObj "list" (outV vs p).toArray c)->P (.done (.ret .none)) { s with heap:=h' }) :
    wpAny (model prog w) A (Builtin.«list.sort» ⟨[.ref a],[]⟩) P E s:=by
 have ha:a < s.heap.objs.size:=Heap.lt_size ho
 obtain ⟨e1,ho1⟩:∃ e1,(s.heap.update a (Obj.mapSeq λ _=>(#[]:Array Value))).get? a=some (seqObj "list" #[] e1):=⟨_,get?_update_seq ho λ _=>#[]⟩
 have kp:∀ b o,b ≠ a->s.heap.get? b=some o->(((s.heap.update a (Obj.mapSeq λ _=>(#[]:Array Value))).push (seqObj "tuple" vs.toArray 0)).push (seqObj "list" #[] 0)).get? b=some o:=λ b o hb e =>
  Heap.get?_push_of_some _ (Heap.get?_push_of_some _ (by rw [Heap.get?_update_ne _ _ _ _ hb]; exact e))
 have ht3:=T3s.kept (h':=((s.heap.update a (Obj.mapSeq λ _=>(#[]:Array Value))).push (seqObj "tuple" vs.toArray 0)).push (seqObj "list" #[] 0)) (λ b o e ec=>kp b o (by intro z; subst z; rw [ho] at e; cases e; exact xi3 ec) e) ht
 have hoN:=Heap.get?_push_of_some (seqObj "list" #[] 0) (Heap.get?_push_of_some (seqObj "tuple" vs.toArray 0) ho1)
 generalize hN:((s.heap.update a (Obj.mapSeq λ _=>(#[]:Array Value))).push (seqObj "tuple" vs.toArray 0)).push (seqObj "list" #[] 0)=hp3 at kp ht3 hoN
 have fin:∀ (p:Array Nat),p.Perm (List.toArray (List.range vs.length))->Ms.Up (ltI ts) p vs.length->P (.done (.ret .none)) { s with heap:=hp3.update a (Obj.mapSeq λ _=>(outV vs p).toArray) }:=λ p hp hu=>by
  refine h p _ _ hp hu (λ b o hb e=>by rw [Heap.get?_update_ne _ _ _ _ hb]; exact kp b o hb e) (get?_update_seq hoN λ _=>(outV vs p).toArray)
 have szO:∀ p:Array Nat,p.Perm (List.toArray (List.range vs.length))->(outV vs p).toArray.size<=sizeLine + 1:=λ p hp=>by
  have:=hp.size_eq
  simp at this
  simp
  omega
 rw [list_sort_plain]
 refine wpAny_bind (listItems_at ho rfl (wpAny_bind (listUpdate_at ho rfl ?_ (by simpa using hz) (Nat.zero_le _))))
 refine wpAny_bind (seqEpoch_at ho1 rfl (wpAny_bind (wpAny_newTuple ?_ (by simpa using hz))))
 refine wpAny_bind (wpAny_newList (wpAny_holding ?_) (Nat.zero_le _))
 show wpAny (model prog w) A _ P E { s with heap:=((s.heap.update a (Obj.mapSeq λ _=>(#[]:Array Value))).push (seqObj "tuple" vs.toArray 0)).push (seqObj "list" #[] 0) }
 rw [hN]
 dsimp only
 by_cases c:vs.toArray.size < 2
 ·rw [if_pos c,if_pos c]
  refine wpAny_bind (wpAny_pure ?_)
  rw [StateT.run_pure]
  refine wpAny_bind (wpAny_pure ?_)
  have id1:(arrOf (SortSt.mk' general' (vs.toArray.zip vs.toArray) #[] 7 none)).map (·.2)=(outV vs (List.toArray (List.range vs.length))).toArray:=by
   rw [xq0]
   show (vs.toArray.zip vs.toArray).map (·.2)=vs.toArray
   apply Array.toList_inj.mp
   simp [List.map_snd_zip]
  dsimp only
  rw [id1]
  have pr:=Array.Perm.refl (List.toArray (List.range vs.length))
  refine wpAny_bind (seqEpoch_at hoN rfl (wpAny_bind (listUpdate_at hoN rfl ?_ (Nat.zero_le _) (szO _ pr))))
  simp only [bne_self_eq_false,Bool.false_eq_true,if_false]
  refine wpAny_pure (fin _ pr ?_)
  intro x y hxy hy
  have:x=y:=by simp at c; omega
  subst this
  exact Ms.le_rf (xq1 ts) _
 ·rw [if_neg c,if_neg c]
  have c2:2<=vs.length:=by simp at c; omega
  obtain ⟨fs,f1,f2,f3⟩:=ht3.firsts
  refine wpAny_bind (kat_kind f1 (by omega) (T:=.type "int") (λ v hv=>?_) (by decide) ?_)
  ·obtain ⟨i,t,rfl⟩:=f3 v hv
   exact Looks.of_pure rfl
  show wpAny _ _ _ _ _ _
  rw [show (Value.type "int" != Value.type "tuple")=true by decide]
  refine wpAny_bind (wpAny_mono (Ts.run_idx (vs:=vs) (lt:=ltI ts) (s:={ s with heap:=hp3 }) (κ:=tuples' true) (xq1 ts) c2 (λ i j v e1 e2 k=>?_) λ i j x y e1 e2 C hc=>?_) ?_ λ _ _ z=>z)
  ·have l1:=(List.getElem?_eq_some_iff.mp e1).1
   have l2:=(List.getElem?_eq_some_iff.mp e2).1
   have g1:=ht3.get i l1
   have g2:=ht3.get j l2
   rw [List.getD_eq_getElem?_getD,e1] at g1
   rw [List.getD_eq_getElem?_getD,e2] at g2
   have e:=g1.one g2
   show lt3 (ts.getD i _) _=lt3 (ts.getD j _) _ /\ lt3 _ (ts.getD i _)=lt3 _ (ts.getD j _)
   rw [e]
   exact ⟨rfl,rfl⟩
  ·have g1:=ht3.get i (List.getElem?_eq_some_iff.mp e1).1
   have g2:=ht3.get j (List.getElem?_eq_some_iff.mp e2).1
   rw [List.getD_eq_getElem?_getD,e1] at g1
   rw [List.getD_eq_getElem?_getD,e2] at g2
   exact to3 g1 g2 hc
  ·rintro ⟨⟨⟩,st'⟩ s' ⟨rfl,p,pp,pu,hp1,hp2⟩
   dsimp only
   rw [kat_snds rfl hp1]
   refine wpAny_bind (seqEpoch_at hoN rfl (wpAny_bind (listUpdate_at hoN rfl ?_ (Nat.zero_le _) (szO _ pp))))
   rw [hp2]
   simp only [bne_self_eq_false,Bool.false_eq_true,if_false]
   exact wpAny_pure (fin _ pp pu)
end
end Pv
namespace Pv
open PySem PySem.Spec PySem.W PyProof.Rows L2
section
variable {prog:Program} {w:World} {A:Around} {E:Value->Shared->Prop} {s:Shared}
theorem yl1 {l:Addr} {vs:List Value} {ts:List T3} {Q:Value->Shared->Prop} (hl:s.heap.IsList l vs.toArray) (ht:T3s s.heap vs ts) (h64:vs.length<=sizeLine)
    (h:∀ (p:Array Nat) (h':Heap) (c:Nat),p.Perm (List.toArray (List.range vs.length))->Ms.Up (ltI ts) p vs.length->(∀ b o,s.heap.get? b=some o->h'.get? b=some o) ->
     h'.get? (s.heap.objs.size + 1)=some (seqObj "list" (outV vs p).toArray c)->Q (.ref (s.heap.objs.size + 1)) { s with heap:=h' }) :
    wpAny (model prog w) A (call (.builtin "sorted") [.ref l]) Q E s:=by
 have hz:=h64
 refine Calls.call_function_entry kind_sorted plain_sorted entry_sorted (args_sorted1 _) ?_
 unfold Builtin.«sorted»
 refine wpAny_bind (m:=checkCount "sorted" 1 1 _) (wpAny_pure (wpAny_bind (collect_list hl ?_ hz)))
 refine wpAny_bind (wpAny_newList ?_ hz)
 have z1:((s.heap.push (seqObj "list" #[] 0)).update s.heap.objs.size (Obj.mapSeq (· ++ vs.toArray))).objs.size=s.heap.objs.size + 1:=by
  rw [Heap.size_update,size_push']
 have kp:∀ b o,s.heap.get? b=some o->(((s.heap.push (seqObj "list" #[] 0)).update s.heap.objs.size (Obj.mapSeq (· ++ vs.toArray))).push (seqObj "list" vs.toArray 0)).get? b=some o:=λ b o q=>by
  have hb:b < s.heap.objs.size:=Heap.lt_size q
  exact Heap.get?_push_of_some _ (by rw [Heap.get?_update_ne _ _ _ _ (Nat.ne_of_lt hb)]; exact Heap.get?_push_of_some _ q)
 have zo:(((s.heap.push (seqObj "list" #[] 0)).update s.heap.objs.size (Obj.mapSeq (· ++ vs.toArray))).push (seqObj "list" vs.toArray 0)).get? (s.heap.objs.size + 1)=some (seqObj "list" vs.toArray 0):=by
  have q:=Heap.get?_push_size ((s.heap.push (seqObj "list" #[] 0)).update s.heap.objs.size (Obj.mapSeq (· ++ vs.toArray))) (o:=seqObj "list" vs.toArray 0) rfl
  rw [z1] at q
  exact q
 show wpAny _ _ _ _ _ { s with heap:=((s.heap.push (seqObj "list" #[] 0)).update s.heap.objs.size (Obj.mapSeq (· ++ vs.toArray))).push (seqObj "list" vs.toArray 0) }
 rw [z1]
 have tt:=T3s.kept (λ b o e _=>kp b o e) ht
 generalize ((s.heap.push (seqObj "list" #[] 0)).update s.heap.objs.size (Obj.mapSeq (· ++ vs.toArray))).push (seqObj "list" vs.toArray 0)=hp at kp zo tt
 refine wpAny_bind (wpAny_holding (wpAny_call_entry slot_list_sort ⟨_,zo,rfl⟩ entry_list_sort (sc1 (s:={ s with heap:=hp }) zo tt h64 λ p h' c a1 a2 a3 a4=>⟨_,rfl,?_⟩) (args_list_sort _)))
 refine wpAny_pure ⟨_,rfl,h p h' c a1 a2 (λ b o q=>a3 b o (Nat.ne_of_lt (Nat.lt_succ_of_lt (Heap.lt_size q))) (kp b o q)) a4⟩
end
noncomputable def V3s (K:Fg) (H:Hp):List V->List T3->Prop
 | [],[]=>True
 | v :: vs,t :: ts=>(∃ a,v=.ref a /\ H a=some (.tup [.int t.1,.int t.2.1,.int t.2.2])) /\ V3s K H vs ts
 | _,_=>False
section
variable {X:Cx}
theorem tq0 {pins:List (Addr × Obj)} {σ:L2.St} {H:Hp} {s:Shared} (I:Inv X pins σ H s):∀ {vs:List V} {ts:List T3} {us:List Value},V3s X.K H vs ts->Vals vs us->T3s s.heap us ts
 | [],[],_,_,.nil=>trivial
 | [],_ :: _,_,z,_=>z.elim
 | _ :: _,[],_,z,_=>z.elim
 | v :: vs,t :: ts,_,z,.cons r rs=>by
  obtain ⟨⟨a,rfl,hq⟩,z⟩:=z
  refine ⟨?_,tq0 I z rs⟩
  cases r
  obtain ⟨its,rv,⟨o,p1,p2,n,p3⟩,_⟩:=I.tuple (SqT.of hq)
  cases rv with
  | cons r1 rv =>
   cases rv with
   | cons r2 rv =>
    cases rv with
    | cons r3 rv =>
     cases rv
     obtain ⟨t1,rfl⟩:=r1
     obtain ⟨t2,rfl⟩:=r2
     obtain ⟨t3,rfl⟩:=r3
     exact ⟨a,o,t1,t2,t3,n,rfl,p1,p2,p3⟩
theorem ui0 {vs:List V} {us:List Value} (r:Vals vs us):∀ (l:List Nat),(∀ i ∈ l,i < vs.length)->Vals (l.map λ i=>vs.getD i .non) (l.map λ i=>us.getD i Value.none)
 | [],_=>.nil
 | i :: l,h=>by
  refine .cons ?_ (ui0 r l λ j hj=>h j (List.mem_cons_of_mem _ hj))
  have hi:=h i (List.mem_cons_self ..)
  obtain ⟨u,e,z⟩:=Vals.get r (i:=i) (x:=vs.getD i .non) (by rw [List.getD_eq_getElem?_getD,List.getElem?_eq_getElem hi]; rfl)
  dsimp only
  rw [show us.getD i Value.none=u by rw [List.getD_eq_getElem?_getD,e]; rfl]
  exact z
noncomputable def ys3 (K:Fg):List V->Hp->VK->Prop:=λ xs H Q=>∃ p vs ts,xs=[.ref p] /\ SqL K H p vs /\ V3s K H vs ts /\ vs.length<=sizeLine ∧
 ∀ q:Array Nat,q.Perm (List.toArray (List.range vs.length))->Ms.Up (ltI ts) q vs.length->∀ r,H r=none->Q (.ref r) (upd H r (.lst (q.toList.map λ i=>vs.getD i .non)))
theorem zu1:CallR X (.builtin "sorted") (ys3 X.K):=by
 intro pins s σ H xs us Q I r h
 obtain ⟨p,vs,ts,rfl,hq,h3,h64,k⟩:=h
 cases r with
 | cons r rr =>
  cases rr
  cases r
  obtain ⟨its,rv,pl,hz⟩:=I.list hq
  have hl:=rv.length
  refine yl1 pl.isList (tq0 I h3 rv) (by omega) λ q h' c a1 a2 a3 a4=>?_
  have a1':q.Perm (List.toArray (List.range vs.length)):=by rw [hl]; exact a1
  have lt':∀ i ∈ q.toList,i < vs.length:=λ i hi=>by
   have e:i ∈ List.toArray (List.range vs.length):=a1'.mem_iff.mp (by simpa using hi)
   simpa using e
  have sz:q.toList.length=vs.length:=by have:=a1'.size_eq; simpa using this
  have nw:s.heap.objs.size<=s.heap.objs.size + 1:=Nat.le_succ _
  refine ⟨.ref _,_,I.laid (t':=s.toks) a3 nw (show ObjOk X.prog X.w _ h' _ (.lst (q.toList.map λ i=>vs.getD i .non)) from ⟨by rw [List.length_map,sz]; exact hz,_,c,ui0 rv _ lt',a4⟩),rfl,k q a1' (by rw [hl]; exact a2) _ (I.hok.fresh nw)⟩
end
noncomputable def encT (t:T3):D:=.tup [.int t.1,.int t.2.1,.int t.2.2]
noncomputable def t3?:D->Option T3
 | .tup [.int a,.int b,.int c]=>some (a,b,c)
 | _=>none
noncomputable def t3s?:List D->Option (List T3)
 | []=>some []
 | d :: r=>match t3? d with
  | some t=>match t3s? r with
   | some ts=>some (t :: ts)
   | none=>none
  | none=>none
theorem uk1:∀ ts:List T3,t3s? (ts.map encT)=some ts
 | []=>rfl
 | t :: ts=>by simp only [List.map_cons,t3s?,encT,t3?,uk1 ts]
theorem uo3 {d:D} {t:T3} (h:t3? d=some t):d=encT t:=by
 unfold t3? at h
 split at h
 ·cases h; rfl
 ·cases h
theorem we2:∀ {l:List D} {ts:List T3},t3s? l=some ts->l=ts.map encT
 | [],ts,h=>by cases h; rfl
 | d :: r,ts,h=>by
  unfold t3s? at h
  split at h
  ·next t e =>
   split at h
   ·next us e2=>cases h; rw [uo3 e,we2 e2]; rfl
   ·cases h
  ·cases h
theorem ye2 {K:Fg} {H:Hp}:∀ {ts:List T3} {vs:List V},RelDs K H (ts.map encT) vs->V3s K H vs ts
 | [],_,.nil=>trivial
 | t :: ts,_,.cons r rs=>by
  refine ⟨?_,ye2 rs⟩
  cases r with
  | tup hq r2 =>
   cases r2 with
   | cons x r2 =>
    cases r2 with
    | cons y r2 =>
     cases r2 with
     | cons z r2 =>
      cases r2
      cases x
      cases y
      cases z
      exact ⟨_,rfl,hq⟩
theorem zk0 {K:Fg} {H:Hp} {ts:List T3} {vs:List V} (r:RelDs K H (ts.map encT) vs):∀ (l:List Nat),(∀ i ∈ l,i < vs.length)->RelDs K H ((l.map λ i=>ts.getD i (0,0,0)).map encT) (l.map λ i=>vs.getD i .non)
 | [],_=>.nil
 | i :: l,h=>by
  refine .cons ?_ (zk0 r l λ j hj=>h j (List.mem_cons_of_mem _ hj))
  have hi:=h i (List.mem_cons_self ..)
  have hl:=r.length
  rw [List.length_map] at hl
  obtain ⟨v,e,z⟩:=r.get (i:=i) (d:=encT (ts.getD i (0,0,0))) (by rw [List.getElem?_map,List.getD_eq_getElem?_getD,List.getElem?_eq_getElem (by omega)]; rfl)
  dsimp only
  rw [show vs.getD i .non=v by rw [List.getD_eq_getElem?_getD,e]; rfl]
  exact z
noncomputable def le3 (a b:T3):Prop:=lt3 b a=false
theorem vt0 {ts:List T3} {q:Array Nat} (h:q.Perm (List.toArray (List.range ts.length))):(q.toList.map λ i=>ts.getD i (0,0,0)).Perm ts:=by
 have h1:q.toList.Perm (List.range ts.length):=h.toList
 refine (h1.map _).trans (List.Perm.of_eq ?_)
 apply List.ext_getElem
 ·simp
 ·intro i h1 h2
  simp [List.getD_eq_getElem?_getD,List.getElem?_eq_getElem h2]
theorem vl1 {ts:List T3} {q:Array Nat} (h:q.Perm (List.toArray (List.range ts.length))) (u:Ms.Up (ltI ts) q ts.length):(q.toList.map λ i=>ts.getD i (0,0,0)).Pairwise le3:=by
 have sz:q.size=ts.length:=by have:=h.size_eq; simpa using this
 rw [List.pairwise_iff_getElem]
 intro i j hi hj hij
 simp only [List.length_map,Array.length_toList] at hi hj
 have z:=u i j (Nat.le_of_lt hij) (by omega)
 simp only [List.getElem_map,Array.getElem_toList]
 have e1:Ms.at' q i=q[i]:=by show q.getD i 0=_; simp [Array.getD,hi]
 have e2:Ms.at' q j=q[j]:=by show q.getD j 0=_; simp [Array.getD,hj]
 rw [e1,e2] at z
 exact z
noncomputable def srtR:C3:=λ ds μ Q=>match ds with
 | [.ref p]=>match μ p with
  | some (.lst l)=>match t3s? l with
   | some ts=>ts.length<=sizeLine /\ ∀ us:List T3,us.Perm ts->us.Pairwise le3->∀ r,μ r=none->Q (.ref r) (updM μ r (.lst (us.map encT)))
   | none=>False
  | _=>False
 | _=>False
section
variable {X:Cx}
theorem vy1:RC X (.builtin "sorted") srtR:=by
 refine ⟨_,zu1,λ xs vs H Q μ Q3 m r h k=>?_⟩
 unfold srtR at h
 split at h
 ·next p =>
  split at h
  ·next l e =>
   split at h
   ·next ts e2 =>
    cases r with
    | cons r1 r2 =>
     cases r2
     cases r1
     have el:=we2 e2
     subst el
     obtain ⟨us,hv,rv⟩:=m p _ e
     have hl:=rv.length
     rw [List.length_map] at hl
     refine ⟨p,us,ts,rfl,SqL.of hv,ye2 rv,by omega,λ q a1 a2 r hr=>?_⟩
     rw [<- hl] at a1 a2
     have lt':∀ i ∈ q.toList,i < us.length:=λ i hi=>by
      have e:i ∈ List.toArray (List.range ts.length):=a1.mem_iff.mp (by simpa using hi)
      have e':i < ts.length:=by simpa using e
      omega
     exact k _ _ _ _ (h.2 _ (vt0 a1) (vl1 a1 a2) r (m.free hr)) (Kp.new hr) (.ref r) (m.newL hr (zk0 rv _ lt'))
   ·exact h.elim
  ·exact h.elim
 ·exact h.elim
end
end Pv
namespace Pv
open PySem PySem.Spec PySem.W PyProof.Rows L2
noncomputable def DG (h:Heap) (d:Addr) (es:Array DictEntry) (ep:Nat):Prop:=∃ o,h.get? d=some o /\ o.ExactDict /\ o.data=.dict es ep
theorem DG.keep {h h':Heap} {d:Addr} {es:Array DictEntry} {ep:Nat} (x:DG h d es ep) (k:∀ o,h.get? d=some o->h'.get? d=some o):DG h' d es ep:=by
 obtain ⟨o,a,b⟩:=x
 exact ⟨o,k o a,b⟩
theorem DG.ty {s:Shared} {d:Addr} {es:Array DictEntry} {ep:Nat} (x:DG s.heap d es ep):s.TypeIs (.ref d) "dict" := by
 obtain ⟨o,a,b,_⟩:=x
 exact ⟨o,a,b.1⟩
section
variable {prog:Program} {w:World} {A:Around} {E:Value->Shared->Prop} {s:Shared} {d it:Addr} {es:Array DictEntry} {ep i:Nat}
theorem us1 {Q:Value->Shared->Prop} (lo:(d == sysModules)=false) (x:DG s.heap d es ep) (q:Q (.ref s.heap.objs.size) { s with heap:=s.heap.push { cls:=.type "dict_keyiterator",data:=.fields #[.ref d,.int 0 0,.int es.size 0,.int ep 0] } }) :
    wpAny (model prog w) A (pyIter (.ref d)) Q E s:=by
 have ty:=x.ty
 obtain ⟨o,e1,e2,e3⟩:=x
 refine wpAny_pyIter_slot ty F.slot_dict_iter (wpAny_call_entry F.slot_dict_iter ty F.entry_dict_iter ?a (F.args_dict_iter_1 _))
 case a =>
  unfold Builtin.«dict.__iter__»
  refine wpAny_bind ?_; unfold Builtin.Dict.dictSlotNone
  refine wpAny_bind (wpAny_notOrdered_dict ty (show wpAny _ _ (pure (Value.ref d)) _ _ s from wpAny_pure ?_))
  show wpAny _ _ (Builtin.Dict.showsAll d >>= _) _ _ s; unfold Builtin.Dict.showsAll
  rw [if_neg (by rw [lo]; exact Bool.false_ne_true)]
  refine wpAny_bind (wpAny_pure (wpAny_bind (wpAny_dictEntries e1 e3 (wpAny_bind (wpAny_dictEpoch e1 e3 ?_)))))
  refine wpAny_bind (wpAny_newObj_type (wpAny_pure ⟨_,rfl, "dict_keyiterator",_,⟨_,Heap.get?_push_size _ rfl,rfl⟩,F.slot_dict_keyiterator_next.lookup,q⟩))
theorem vs1 {Q:Option Value->Shared->Prop} (hi:s.heap.IsKeyIter it d i es.size ep) (x:DG s.heap d es ep) (lt:i < es.size)
    (q:∀ h',h'.IsKeyIter it d (i + 1) es.size ep->Heap.SameBut it s.heap h'->Q (some es[i].key) { s with heap:=h' }):wpAny (model prog w) A (pyNext (.ref it)) Q E s:=by
 obtain ⟨o,a1,a2,a3⟩:=id hi
 obtain ⟨od,e1,e2,e3⟩:=x
 have ty:=hi.typeIs
 have own0:Builtin.Dict_items.ownsTuple "dict_keyiterator" = false:=by decide
 unfold pyNext
 refine wpAny_bind (wpAny_attempt (wpAny_callSpecial?_slot (name:=Str.ofString "__next__") ty F.slot_dict_keyiterator_next (wpAny_call_entry F.slot_dict_keyiterator_next ty F.entry_dict_keyiterator_next ?a (F.args_dict_keyiterator_next_1 _))))
 case a =>
  refine wpAny_bind (wpAny_pure (wpAny_bind (wpAny_bind ?_)))
  first | refine wpAny_bind (wpAny_typeNameOfWhole_keyiter ty (wpAny_pure ?_)) | refine wpAny_bind (wpAny_typeNameOf_keyiter ty (wpAny_pure ?_))
  refine wpAny_bind (wpAny_fieldsOf a1 a3 ?_); simp only [own0,Bool.false_eq_true,if_false]
  show wpAny _ _ (if (Value.ref d == Value.none)=true then _ else _) _ _ s; rw [if_neg (show ¬ ((Value.ref d == Value.none)=true) from Bool.false_ne_true)]
  refine wpAny_bind (wpAny_pure (wpAny_bind (wpAny_dictEntries e1 e3 ?_))); rw [if_neg (by simp)]
  refine wpAny_bind (wpAny_pure (wpAny_bind (wpAny_dictEpoch e1 e3 ?_))); rw [if_neg (by simp)]
  refine wpAny_pure ?_
  simp only [show ¬ ((i:Int) < 0) from by omega,if_false,Int.toNat_natCast,Array.getElem?_eq_getElem lt]
  refine wpAny_bind ?_
  first | refine wpAny_bind (wpAny_typeNameOfWhole_keyiter ty (wpAny_pure ?_)) | refine wpAny_bind (wpAny_typeNameOf_keyiter ty (wpAny_pure ?_))
  refine wpAny_bind (wpAny_isOneOf_keyiter ty (show wpAny _ _ (setField (.ref it) 1 (rawInt ((i:Int) + 1)) >>= _) _ _ s from wpAny_bind (wpAny_setField a1 a3 (by simp) ?_)))
  have hi':(s.heap.update it (Obj.mapFields (·.setIfInBounds 1 (rawInt ((i:Int) + 1))))).IsKeyIter it d (i + 1) es.size ep:=⟨_,Heap.get?_update_self _ a1 (Obj.isFreed_of_fields (Obj.data_mapFields a3 _)),(Obj.cls_mapFields ..).trans a2,by rw [Obj.data_mapFields a3]; simp [rawInt]⟩
  refine wpAny_bind (wpAny_holding (wpAny_bind (wpAny_isOneOf_keyiter (s:={ s with heap:=s.heap.update it (Obj.mapFields (·.setIfInBounds 1 (rawInt ((i:Int) + 1)))) }) hi'.typeIs ?_)))
  show wpAny _ _ (pure es[i].key) _ _ _
  exact wpAny_pure (wpAny_pure ⟨_,rfl,wpAny_pure (q _ hi' (Heap.SameBut.update ..))⟩)
theorem yh2 {Q:Option Value->Shared->Prop} (hh:A.handled=none) (hi:s.heap.IsKeyIter it d i es.size ep) (x:DG s.heap d es ep) (ge:es.size<=i)
    (q:∀ h',Heap.ExtBut it s.heap h'->Q none { s with heap:=h' }):wpAny (model prog w) A (pyNext (.ref it)) Q E s:=by
 obtain ⟨o,a1,a2,a3⟩:=id hi
 obtain ⟨od,e1,e2,e3⟩:=x
 have ty:=hi.typeIs
 have own0:Builtin.Dict_items.ownsTuple "dict_keyiterator" = false:=by decide
 unfold pyNext
 refine wpAny_bind (wpAny_attempt (wpAny_callSpecial?_slot (name:=Str.ofString "__next__") ty F.slot_dict_keyiterator_next (wpAny_call_entry F.slot_dict_keyiterator_next ty F.entry_dict_keyiterator_next ?a (F.args_dict_keyiterator_next_1 _))))
 case a =>
  refine wpAny_bind (wpAny_pure (wpAny_bind (wpAny_bind ?_)))
  first | refine wpAny_bind (wpAny_typeNameOfWhole_keyiter ty (wpAny_pure ?_)) | refine wpAny_bind (wpAny_typeNameOf_keyiter ty (wpAny_pure ?_))
  refine wpAny_bind (wpAny_fieldsOf a1 a3 ?_); simp only [own0,Bool.false_eq_true,if_false]
  show wpAny _ _ (if (Value.ref d == Value.none)=true then _ else _) _ _ s; rw [if_neg (show ¬ ((Value.ref d == Value.none)=true) from Bool.false_ne_true)]
  refine wpAny_bind (wpAny_pure (wpAny_bind (wpAny_dictEntries e1 e3 ?_))); rw [if_neg (by simp)]
  refine wpAny_bind (wpAny_pure (wpAny_bind (wpAny_dictEpoch e1 e3 ?_))); rw [if_neg (by simp)]
  refine wpAny_pure ?_
  simp only [show ¬ ((i:Int) < 0) from by omega,if_false,Int.toNat_natCast,Array.getElem?_eq_none ge]
  refine wpAny_bind ?_
  first | refine wpAny_bind (wpAny_typeNameOfWhole_keyiter ty (wpAny_pure ?_)) | refine wpAny_bind (wpAny_typeNameOf_keyiter ty (wpAny_pure ?_))
  show wpAny _ _ (setField (.ref it) 0 .none >>= _) _ _ s; refine wpAny_bind (wpAny_setField a1 a3 (by simp) ?_)
  show wpAny _ _ (newExc (.type "StopIteration") [] >>= _) _ _ _; refine wpAny_bind ?_; simp only [newExc,newTuple]
  refine wpAny_bind (wpAny_newObj_type (wpAny_bind (m:=firstArgMember _ _) (wpAny_of_eq (a:=Value.none) (by first | rfl | (simp only [firstArgMember]; rfl)) (wpAny_newObj_type ?_ (by size_fits)))) (by size_fits))
  simp only [raiseNew]; refine wpAny_bind (wpAny_handled ?_); rw [show A.in1.handled=none from hh]
  refine wpAny_bind (wpAny_pure (wpAny_throw ?_)); refine wpAny_bind (wpAny_isInstance (T := "StopIteration") (b:=true) ⟨_,Heap.get?_push_size _ rfl,rfl⟩ isSubtype_stop ?_)
  exact wpAny_pure (q _ (((Heap.SameBut.update ..).extBut.push _).push _))
theorem vc2 (hh:A.handled=none) (I d:Addr) (ne:d ≠ I):Walks prog w A I [I,d] [I] es.size (λ i v=>∃ e,es[i]?=some e /\ v=e.key) (λ i h=>h.IsKeyIter I d i es.size ep /\ DG h d es ep) where
 sub:=λ b hb=>by simp at hb; simp [hb]
 frame:=λ _ _ _ z hk=>⟨z.1.at λ o e=>hk I (by simp) o e,z.2.keep λ o e=>hk d (by simp) o e⟩
 item:=λ i s Q E hi z q=>by
  refine vs1 z.1 z.2 hi λ h' k1 k2=>?_
  exact q _ h' s.toks ⟨es[i],by simp [hi],rfl⟩ ⟨k1,z.2.keep λ o e=>k2.extBut d o ne e⟩ λ b o hb e=>k2.extBut b o (λ y=>hb (by simp [y])) e
 done:=λ s Q E z q=>yh2 hh z.1 z.2 (Nat.le_refl _) λ h' k=>q h' s.toks λ b o hb e=>k b o (λ y=>hb (by simp [y])) e
 self:=λ _ _ _ _ z q=>wpAny_pyIter_keyiter z.1 q
theorem wm3 (lo:(d == sysModules)=false):KdlSrc prog w "dict" d d es.size (λ i v=>∃ e,es[i]?=some e /\ v=e.key) (λ h=>DG h d es ep) where
 type:=λ _ x=>x.ty
 there:=λ _ x=>by obtain ⟨o,a,_⟩:=x; exact ⟨Heap.lt_size a,Heap.lt_size a⟩
 keep:=λ _ _ x k=>x.keep λ o e=>k d (.inl rfl) o e
 notList:=by decide
 notTuple:=by decide
 hint:=λ _ _ _ _ x q=>kdl_hint_dict x.ty q
 iter:=λ _ s hh x=>by
  have hl:d < s.heap.objs.size:=by obtain ⟨o,a,_⟩:=x; exact Heap.lt_size a
  exact ⟨_,_,(λ _ _ q=>us1 lo x q),vc2 hh _ d (Nat.ne_of_lt hl),⟨⟨_,Heap.get?_push_size _ rfl,rfl,rfl⟩,x.keep λ o e=>Heap.get?_push_of_some _ e⟩⟩
end
end Pv
namespace Pv
open PySem PySem.Spec PySem.W PyProof.Rows L2
section
variable {prog:Program} {w:World} {A:Around} {E:Value->Shared->Prop} {s:Shared} {d:Addr} {es:Array DictEntry} {ep:Nat}
theorem wi1 {acc:Array Value} (h:ItemsOf (λ i v=>∃ e,es[i]?=some e /\ v=e.key) acc es.size):acc.toList=es.toList.map (·.key):=by
 obtain ⟨h1,h2⟩:=h
 apply List.ext_getElem?
 intro i
 rw [List.getElem?_map,Array.getElem?_toList,Array.getElem?_toList]
 by_cases c:i < es.size
 ·obtain ⟨e,e1,e2⟩:=h2 i (acc[i]'(by omega)) (by simp)
  rw [e1,Array.getElem?_eq_getElem (by omega),e2]
  rfl
 ·rw [Array.getElem?_eq_none (by omega),Array.getElem?_eq_none (by omega)]
  rfl
theorem wl1 {ts:List T3} {Q:Value->Shared->Prop} (hh:A.handled=none) (lo:(d == sysModules)=false) (x:DG s.heap d es ep) (ht:T3s s.heap (es.toList.map (·.key)) ts) (h64:es.size<=sizeLine)
    (h:∀ (p:Array Nat) (h1 h':Heap) (c tk:Nat),p.Perm (List.toArray (List.range es.size))->Ms.Up (ltI ts) p es.size->(∀ b o,s.heap.get? b=some o->h1.get? b=some o)->(∀ b o,h1.get? b=some o->h'.get? b=some o) ->
     h'.get? h1.objs.size=some (seqObj "list" (outV (es.toList.map (·.key)) p).toArray c)->Q (.ref h1.objs.size) { s with heap:=h',toks:=tk }) :
    wpAny (model prog w) A (call (.builtin "sorted") [.ref d]) Q E s:=by
 have hz:=h64
 refine Calls.call_function_entry kind_sorted plain_sorted entry_sorted (args_sorted1 _) ?_
 unfold Builtin.«sorted»
 refine wpAny_bind (m:=checkCount "sorted" 1 1 _) (wpAny_pure (wpAny_bind (kdu_collect (wm3 lo) hh x hz λ h1 tk acc k1 ia=>?_)))
 rw [wi1 ia]
 have l1:(es.toList.map (·.key)).length=es.size:=by simp
 refine wpAny_bind (wpAny_newList ?_ (by rw [l1]; exact hz))
 have k2:∀ b o,s.heap.get? b=some o->(h1.push (seqObj "list" (es.toList.map (·.key)).toArray 0)).get? b=some o:=λ b o q=>Heap.get?_push_of_some _ (k1 b o q)
 have zo:(h1.push (seqObj "list" (es.toList.map (·.key)).toArray 0)).get? h1.objs.size=some (seqObj "list" (es.toList.map (·.key)).toArray 0):=Heap.get?_push_size _ rfl
 have tt:=T3s.kept (λ b o e _=>k2 b o e) ht
 show wpAny _ _ _ _ _ { s with heap:=h1.push (seqObj "list" (es.toList.map (·.key)).toArray 0),toks:=tk }
 refine wpAny_bind (wpAny_holding (wpAny_call_entry slot_list_sort ⟨_,zo,rfl⟩ entry_list_sort (sc1 (s:={ s with heap:=h1.push (seqObj "list" (es.toList.map (·.key)).toArray 0),toks:=tk }) zo tt (by rw [l1]; exact h64) λ p h' c a1 a2 a3 a4=>⟨_,rfl,?_⟩) (args_list_sort _)))
 rw [l1] at a1 a2
 exact wpAny_pure ⟨_,rfl,h p h1 h' c tk a1 a2 k1 (λ b o q=>a3 b o (Nat.ne_of_lt (Heap.lt_size q)) (Heap.get?_push_of_some _ q)) a4⟩
end
section
variable {X:Cx}
theorem tt1 {P:Program} {w:World} {H:Hp} {h:Heap}:∀ {kvs:List (List Key × V)} {xs:List (List Key × Addr × Value)} {ts:List T3},
    Paired (λ (p:List Key × V) (q:List Key × Addr × Value)=>p.1=q.1 /\ H q.2.1=some (.tup (p.1.map kV)) /\ RelV p.2 q.2.2) kvs xs->kvs.map (·.1)=ts.map kT ->
    V3s X.K H (xs.map λ q=>V.ref q.2.1) ts /\ Vals (xs.map λ q=>V.ref q.2.1) (xs.map λ q=>Value.ref q.2.1)
 | [],_,ts,.nil,e=>by
  cases ts with
  | nil=>exact ⟨trivial,.nil⟩
  | cons _ _=>cases e
 | p :: kvs,q :: xs,ts,.cons r rs,e=>by
  cases ts with
  | nil=>cases e
  | cons t ts =>
   rw [List.map_cons,List.map_cons] at e
   injection e with e1 e2
   obtain ⟨a,b⟩:=tt1 (P:=P) (w:=w) (h:=h) rs e2
   have hq:=r.2.1
   rw [e1] at hq
   exact ⟨⟨⟨_,rfl,hq⟩,a⟩,.cons rfl b⟩
noncomputable def sc3 (K:Fg):List V->Hp->VK->Prop:=λ xs H Q=>∃ d kvs ts,xs=[.ref d] /\ H d=some (.dT kvs) /\ kvs.map (·.1)=ts.map kT /\ kvs.length<=sizeLine ∧
 ∀ vs,V3s K H vs ts->∀ q:Array Nat,q.Perm (List.toArray (List.range ts.length))->Ms.Up (ltI ts) q ts.length->∀ r,H r=none->Q (.ref r) (upd H r (.lst (q.toList.map λ i=>vs.getD i .non)))
theorem V3s.len {K:Fg} {H:Hp}:∀ {vs:List V} {ts:List T3},V3s K H vs ts->vs.length=ts.length
 | [],[],_=>rfl
 | [],_ :: _,z=>z.elim
 | _ :: _,[],z=>z.elim
 | _ :: vs,_ :: ts,z=>by rw [List.length_cons,List.length_cons,V3s.len z.2]
theorem si1 (hc:X.calm=true):CallR X (.builtin "sorted") (sc3 X.K):=by
 intro pins s σ H xs us Q I r h
 obtain ⟨d,kvs,ts,rfl,hd,ek,h64,k⟩:=h
 cases r with
 | cons r rr =>
  cases rr
  cases r
  obtain ⟨hz,lo,ys,pr,o,es,ep,o1,o2,o3,o4,_⟩:=(show ObjOk X.prog X.w H s.heap d (.dT kvs) from I.hok d _ hd)
  obtain ⟨v3,vv⟩:=tt1 (X:=X) (P:=X.prog) (w:=X.w) (h:=s.heap) pr ek
  have ekey:es.toList.map (·.key)=ys.map λ q=>Value.ref q.2.1:=by rw [o4,List.map_map]; rfl
  have l1:kvs.length=ys.length:=pr.length
  have l2:ts.length=kvs.length:=by have:=congrArg List.length ek; simpa using this.symm
  have l3:es.size=ys.length:=by rw [<- Array.length_toList,o4,List.length_map]
  refine wl1 (I.ok.hd hc) lo ⟨o,o1,o2,o3⟩ (by rw [ekey]; exact tq0 I v3 vv) (by omega) λ p h1 h' c tk a1 a2 a3 a4 a5=>?_
  rw [ekey] at a5
  have e0:es.size=ts.length:=by omega
  rw [e0] at a1 a2
  have lt':∀ i ∈ p.toList,i < (ys.map λ q=>V.ref q.2.1).length:=λ i hi=>by
   have e:i ∈ List.toArray (List.range ts.length):=a1.mem_iff.mp (by simpa using hi)
   have e':i < ts.length:=by simpa using e
   rw [List.length_map]
   omega
  have sz:p.toList.length=ts.length:=by have:=a1.size_eq; simpa using this
  have I1:Inv X pins σ H { s with heap:=h1,toks:=tk }:=I.kept a3
  refine ⟨.ref _,_,I1.laid (t':=tk) a4 (Nat.le_refl _) (show ObjOk X.prog X.w _ h' _ (.lst (p.toList.map λ i=>(ys.map λ q=>V.ref q.2.1).getD i .non)) from ⟨by rw [List.length_map,sz]; omega,_,c,ui0 vv _ lt',a5⟩),rfl,k _ v3 p a1 a2 _ (I1.hok.fresh (Nat.le_refl _))⟩
theorem tb1 {K:Fg} {H:Hp}:∀ {ts:List T3} {vs:List V},V3s K H vs ts->RelDs K H (ts.map encT) vs
 | [],[],_=>.nil
 | [],_ :: _,z=>z.elim
 | _ :: _,[],z=>z.elim
 | t :: ts,v :: vs,z=>by
  obtain ⟨⟨a,rfl,hq⟩,z⟩:=z
  exact .cons (.tup hq (.cons (.int _) (.cons (.int _) (.cons (.int _) .nil)))) (tb1 z)
theorem RelKs.keys {K:Fg} {H:Hp} {l:List (T3 × D)} {vs:List (List Key × V)} (r:RelKs K H l vs):vs.map (·.1)=(l.map (·.1)).map kT /\ l.length=vs.length:=by
 induction r with
 | nil=>exact ⟨rfl,rfl⟩
 | cons _ _ ih=>exact ⟨by rw [List.map_cons,ih.1]; rfl,by rw [List.length_cons,List.length_cons,ih.2]⟩
noncomputable def vx1:C3:=λ ds μ Q=>match ds with
 | [.ref p]=>match μ p with
  | some (.dct kvs)=>kvs.length<=sizeLine /\ ∀ us:List T3,us.Perm (kvs.map (·.1))->us.Pairwise le3->∀ r,μ r=none->Q (.ref r) (updM μ r (.lst (us.map encT)))
  | _=>False
 | _=>False
theorem wn1 (hc:X.calm=true):RC X (.builtin "sorted") vx1:=by
 refine ⟨_,si1 hc,λ xs vs H Q μ Q3 m r h k=>?_⟩
 unfold vx1 at h
 split at h
 ·next p =>
  split at h
  ·next kvs e =>
   cases r with
   | cons r1 r2 =>
    cases r2
    cases r1
    obtain ⟨ws,hv,rk⟩:=m.dct p kvs e
    obtain ⟨k1,k2⟩:=rk.keys
    refine ⟨p,ws,kvs.map (·.1),rfl,hv,k1,by omega,λ vs v3 q a1 a2 r hr=>?_⟩
    have lt':∀ i ∈ q.toList,i < vs.length:=λ i hi=>by
     have e:i ∈ List.toArray (List.range (kvs.map (·.1)).length):=a1.mem_iff.mp (by simpa using hi)
     have e':i < (kvs.map (·.1)).length:=by simpa using e
     rw [v3.len]
     exact e'
    exact k _ _ _ _ (h.2 _ (vt0 a1) (vl1 a1 a2) r (m.free hr)) (Kp.new hr) (.ref r) (m.newL hr (zk0 (tb1 v3) _ lt'))
  ·exact h.elim
 ·exact h.elim
noncomputable def sj0:C3:=λ ds μ Q=>srtR ds μ Q \/ vx1 ds μ Q
theorem yn0 (hc:X.calm=true):RC X (.builtin "sorted") sj0:=RC.or vy1 (wn1 hc)
end
end Pv
namespace Pv
open PySem PySem.Spec PySem.W PyProof.Rows L2
open PySem.AutoSeq1 (wpAny_loadPart')
theorem Kp.wrD {H:Hp} {p:Addr} {o:HO} {xs:List (List Key × V)} (h:H p=some (.dT xs)):Kp H (upd H p o) :=
 ⟨λ b ys q=>by rw [wb0 (wh1 q h (by intro z; cases z))]; exact q,λ b o u q=>by rw [wb0 (wh1 q h (by intro z; cases z))]; exact q⟩
theorem RelM.newD {K:Fg} {μ:Mu} {H:Hp} {p:Addr} (h:H p=none) (m:RelM K μ H):RelM K (updM μ p (.dct [])) (upd H p (.dT [])):=by
 have m':=m.newT (o:=.dT []) h
 refine ⟨λ q ys e=>?_,λ q c fs e=>?_,λ q kvs e=>?_,λ q kvs e=>?_,λ q kvs e=>?_⟩
 ·by_cases z:q=p
  ·subst z; rw [za0] at e; cases e
  ·rw [ua0 z] at e; exact m'.lst q ys e
 ·by_cases z:q=p
  ·subst z; rw [za0] at e; cases e
  ·rw [ua0 z] at e; exact m'.ins q c fs e
 ·by_cases z:q=p
  ·subst z; rw [za0] at e; cases e; exact ⟨[],zd0,.nil⟩
  ·rw [ua0 z] at e; exact m'.dct q kvs e
 ·by_cases z:q=p
  ·subst z; rw [za0] at e; cases e
  ·rw [ua0 z] at e; exact m'.dcl q kvs e
 ·by_cases z:q=p
  ·subst z; rw [za0] at e; cases e
  ·rw [ua0 z] at e; exact m'.dck q kvs e
theorem RelM.wrD {K:Fg} {μ:Mu} {H:Hp} {p:Addr} {kvs:List (T3 × D)} {vs ws:List (List Key × V)} (h:H p=some (.dT ws)) (r:RelKs K H kvs vs) (m:RelM K μ H):RelM K (updM μ p (.dct kvs)) (upd H p (.dT vs)):=by
 refine ⟨λ q ys e=>?_,λ q c fs e=>?_,λ q ks e=>?_,λ q ks e=>?_,λ q ks e=>?_⟩
 ·by_cases z:q=p
  ·subst z; rw [za0] at e; cases e
  ·rw [ua0 z] at e
   obtain ⟨us,q1,r1⟩:=m.lst q ys e
   exact ⟨us,by rw [wb0 z]; exact q1,r1.mono (Kp.wrD h)⟩
 ·by_cases z:q=p
  ·subst z; rw [za0] at e; cases e
  ·rw [ua0 z] at e
   obtain ⟨C,dx,us,n,q1,q2,r1⟩:=m.ins q c fs e
   refine ⟨C,dx,us,n,by rw [wb0 z]; exact q1,?_,r1.mono (Kp.wrD h)⟩
   rw [wb0]
   ·exact q2
   ·intro y; subst y; rw [h] at q2; cases q2
 ·by_cases z:q=p
  ·subst z; rw [za0] at e; cases e; exact ⟨vs,zd0,r.mono (Kp.wrD h)⟩
  ·rw [ua0 z] at e
   obtain ⟨us,q1,r1⟩:=m.dct q ks e
   exact ⟨us,by rw [wb0 z]; exact q1,r1.mono (Kp.wrD h)⟩
 ·by_cases z:q=p
  ·subst z; rw [za0] at e; cases e
  ·rw [ua0 z] at e
   obtain ⟨us,q1,r1⟩:=m.dcl q ks e
   exact ⟨us,by rw [wb0 z]; exact q1,r1.mono (Kp.wrD h)⟩
 ·by_cases z:q=p
  ·subst z; rw [za0] at e; cases e
  ·rw [ua0 z] at e
   obtain ⟨us,q1,r1⟩:=m.dck q ks e
   exact ⟨us,by rw [wb0 z]; exact q1,r1.mono (Kp.wrD h)⟩
noncomputable def vq2:TE3:=λ _ μ Q=>∀ p,μ p=none->Q (.ref p) (updM μ p (.dct []))
noncomputable def putT (kvs:List (T3 × D)) (t:T3) (y:D):List (T3 × D):=if (kvs.any λ kv=>decide (kv.1=t))=true then kvs.map (λ kv=>if kv.1=t then (kv.1,y) else kv) else kvs ++ [(t,y)]
noncomputable def wc2 (to:TE3) (tk:TA3) (tv:TE3):TS3:=λ D' ρ μ=>tv ρ μ λ y μ1=>to ρ μ1 λ d μ2=>tk ρ μ2 λ ks μ3=>match d,ks with
 | .ref p,[.int a,.int b,.int c]=>match μ3 p with
  | some (.dct kvs)=>kvs.length < 90000 /\ D'.nx ρ (updM μ3 p (.dct (putT kvs (a,b,c) y)))
  | _=>False
 | _,_=>False
theorem vg2 {a b:T3} (h:kT a=kT b):a=b:=by
 obtain ⟨a1,a2,a3⟩:=a
 obtain ⟨b1,b2,b3⟩:=b
 simp only [kT,List.cons.injEq,Sum.inl.injEq,and_true] at h
 obtain ⟨rfl,rfl,rfl⟩:=h
 rfl
theorem RelKs.any {K:Fg} {H:Hp} {t:T3} {l:List (T3 × D)} {vs:List (List Key × V)} (r:RelKs K H l vs):(vs.any λ kv=>decide (kv.1=kT t))=l.any λ kv=>decide (kv.1=t):=by
 induction r with
 | nil=>rfl
 | cons _ _ ih =>
  rw [List.any_cons,List.any_cons,ih]
  congr 1
  rw [decide_eq_decide]
  exact ⟨vg2,λ h=>congrArg kT h⟩
theorem RelKs.rep {K:Fg} {H:Hp} {t:T3} {y:D} {v:V} (ry:RelD K H y v) {l:List (T3 × D)} {vs:List (List Key × V)} (r:RelKs K H l vs):RelKs K H (l.map λ kv=>if kv.1=t then (kv.1,y) else kv) (vs.map λ kv=>if kv.1=kT t then (kv.1,v) else kv):=by
 induction r with
 | nil=>exact .nil
 | cons h _ ih =>
  rename_i t' d' v' l' vs' _
  rw [List.map_cons,List.map_cons]
  by_cases c:t'=t
  ·rw [if_pos c,if_pos (by rw [c])]; exact .cons ry ih
  ·rw [if_neg c,if_neg (λ z=>c (vg2 z))]; exact .cons h ih
theorem RelKs.snoc {K:Fg} {H:Hp} {t:T3} {y:D} {v:V} (ry:RelD K H y v) {l:List (T3 × D)} {vs:List (List Key × V)} (r:RelKs K H l vs):RelKs K H (l ++ [(t,y)]) (vs ++ [(kT t,v)]):=by
 induction r with
 | nil=>exact .cons ry .nil
 | cons h _ ih=>exact .cons h ih
theorem RelKs.put {K:Fg} {H:Hp} {t:T3} {y:D} {v:V} (ry:RelD K H y v) {l:List (T3 × D)} {vs:List (List Key × V)} (r:RelKs K H l vs):RelKs K H (putT l t y) (putK vs (kT t) v):=by
 unfold putT putK
 rw [r.any]
 split
 ·exact r.rep ry
 ·exact r.snoc ry
section
variable {X:Cx} {pos pos':Pos}
theorem xn1:RE X (.Dict [] [] pos) vq2:=⟨_,wc1,λ σ H Q ρ μ Q3 s m h k p hp=>k _ _ _ _ (h p (m.free hp)) (Kp.new hp) (.ref p) (m.newD hp)⟩
theorem sl1 {o value:Expr} {es:List Expr} {to tv:TE3} {tk:TA3} {x1} {pos2:Pos} (hu:X.A.units + 64 < cLine) (ho:RE X o to) (hk:RA X es tk) (hv:RE X value tv)
    (hs:swapsWith value (some (.Subscript o (.Tuple es x1 pos2) pos')) pos.line X.env=pure false:=by rfl):RS X (.Assign [.Subscript o (.Tuple es x1 pos2) pos'] value pos) (wc2 to tk tv):=by
 obtain ⟨vo,po,ro⟩:=ho
 obtain ⟨vk,pk,rk⟩:=hk
 obtain ⟨vv,pv,rv⟩:=hv
 refine ⟨_,tn1 (by omega) po (tf2 pk) pv hs,λ σ H D ρ μ D3 s m h k=>rv σ H _ ρ μ _ s m h λ y μ1 v H1 h1 k1 r1 m1=>ro σ H1 _ ρ μ1 _ (s.mono k1) m1 h1 λ d μ2 x H2 h2 k2 r2 m2 =>
  rk σ H2 _ ρ μ2 _ (s.mono (k1.trans k2)) m2 h2 λ ks μ3 xs H3 h3 k3 r3 m3=>?_⟩
 split at h3
 ·next p a b c =>
  split at h3
  ·next kvs e =>
   cases r2
   cases r3 with
   | cons x1 r3 =>
    cases r3 with
    | cons x2 r3 =>
     cases r3 with
     | cons x3 r3 =>
      cases r3
      cases x1
      cases x2
      cases x3
      obtain ⟨ws,hw,rw'⟩:=m3.dct p kvs e
      refine ⟨show 3<=sizeLine by decide,λ t ht=>?_⟩
      have hpt:p ≠ t:=by intro z; subst z; rw [hw] at ht; cases ht
      have hw2:upd H3 t (.tup [.int a,.int b,.int c]) p=some (.dT ws):=by rw [wb0 hpt]; exact hw
      have m4:=m3.newT (o:=.tup [.int a,.int b,.int c]) ht
      have kt:=Kp.new (o:=.tup [.int a,.int b,.int c]) ht
      have ry:=r1.mono (k2.trans (k3.trans kt))
      have hl:=rw'.keys.2
      have hz:(90000:Nat) < sizeLine:=by decide
      refine ⟨p,_,rfl,DPut.t (k:=kT (a,b,c)) hw2 zd0 (by omega),?_⟩
      exact k.nx _ _ _ _ h3.2 (k1.trans (k2.trans (k3.trans (kt.trans (Kp.wrD hw2))))) (s.mono (k1.trans (k2.trans (k3.trans (kt.trans (Kp.wrD hw2)))))) (m4.wrD hw2 ((rw'.mono kt).put ry))
  ·exact h3.elim
 ·exact h3.elim
end
end Pv
namespace Pv
open PySem PySem.Spec PyProof.Rows L2
open PySem.AutoSeq1 (wpAny_loadPart')
theorem ndlt (x y:Int):(!decide (x < y))=decide (y<=x):=by
 by_cases h:x < y
 ·rw [decide_eq_true h,decide_eq_false (by omega)]; rfl
 ·rw [decide_eq_false h,decide_eq_true (by omega)]; rfl
theorem tp2 (p q:Addr) (a b:T3) (t1 t2 t3 u1 u2 u3:Tok) (n m:Nat) (dd dd2:Option Addr) (sl sl2:Array (Option Value)) :
    Meets (Builtin.«tuple.__ge__» ⟨[.ref p,.ref q],[]⟩) (λ A R s=>s.heap.get? p=some { cls:=.type "tuple",dict:=dd,data:=.seq #[.int a.1 t1,.int a.2.1 t2,.int a.2.2 t3] n,slots:=sl } /\ s.heap.get? q=some { cls:=.type "tuple",dict:=dd2,data:=.seq #[.int b.1 u1,.int b.2.1 u2,.int b.2.2 u3] m,slots:=sl2 } ∧
     R (.ok (.ret (.bool (!lt3 a b)))) s) :=
 .of_wp λ prog w A R s h=>by
  obtain ⟨hp,g,dr,tk,os⟩:=s; obtain ⟨hl,hb,h⟩:=h
  obtain ⟨a1,a2,a3⟩:=a
  obtain ⟨b1,b2,b3⟩:=b
  have f2:=AutoSeq1.sub_tuple_tuple
  have ge:∀ (x y:Int) (tx ty:Tok) {Q:Value->Shared->Prop} {E:Value->Shared->Prop} {A:Around} {s:Shared},Q (.bool (decide (y<=x))) s->wpAny (model prog w) A (richCompare .GtE (.int x tx) (.int y ty)) Q E s:=λ x y tx ty Q E A s hq=>ge_int hq
  have eqb:∀ (x y:Int) (tx ty:Tok) {Q:Bool->Shared->Prop} {E:Value->Shared->Prop} {A:Around} {s:Shared},Q (x == y) s->wpAny (model prog w) A (eqBool (.int x tx) (.int y ty)) Q E s:=λ x y tx ty Q E A s hq=>wpAny_eqBool_int hq
  wp_walk using wpAny_loadPart' hl,wpAny_loadPart' hb,eqb a1 b1 t1 u1
  by_cases h1:a1=b1
  ·rw [show (a1 == b1)=true by simpa using h1]
   wp_walk using eqb a2 b2 t2 u2
   by_cases h2:a2=b2
   ·rw [show (a2 == b2)=true by simpa using h2]
    wp_walk using eqb a3 b3 t3 u3
    by_cases h3:a3=b3
    ·rw [show (a3 == b3)=true by simpa using h3]
     wp_walk
     have h':R (.ok (.ret (.bool true))) ⟨hp,g,dr,tk,os⟩:=by simpa [lt3,h1,h2,h3] using h
     exact ⟨_,rfl,h'⟩
    ·rw [show (a3 == b3)=false by simpa using h3]
     wp_walk using ge a3 b3 t3 u3
     have e:(!lt3 (a1,a2,a3) (b1,b2,b3))=decide (b3<=a3):=by rw [show lt3 (a1,a2,a3) (b1,b2,b3)=decide (a3 < b3) by subst h1 h2; simp [lt3],ndlt]
     rw [e] at h
     exact ⟨_,rfl,by simpa using h⟩
   ·rw [show (a2 == b2)=false by simpa using h2]
    wp_walk using ge a2 b2 t2 u2
    have e:(!lt3 (a1,a2,a3) (b1,b2,b3))=decide (b2<=a2):=by rw [show lt3 (a1,a2,a3) (b1,b2,b3)=decide (a2 < b2) by subst h1; simp [lt3,h2],ndlt]
    rw [e] at h
    exact ⟨_,rfl,by simpa using h⟩
  ·rw [show (a1 == b1)=false by simpa using h1]
   wp_walk using ge a1 b1 t1 u1
   have e:(!lt3 (a1,a2,a3) (b1,b2,b3))=decide (b1<=a1):=by rw [show lt3 (a1,a2,a3) (b1,b2,b3)=decide (a1 < b1) by simp [lt3,h1],ndlt]
   rw [e] at h
   exact ⟨_,rfl,by simpa using h⟩
section
variable {prog:Program} {w:World} {A:Around} {R:Result->Shared->Prop} {I:Addr} {fp wr:List Addr} {n:Nat} {P:Nat->Value->Prop} {St:Nat->Heap->Prop}
theorem vw1:(toString "max" ++ toString ".loop" : String) = "max.loop" := by decide
theorem ud2 (W:Walks prog w A.in1 I fp wr n P St) (S:Addr) (hSf:S ∉ fp) (s:Shared) (vb:Value) (c:Nat) (hst:St n s.heap)
    (hS:s.heap.get? S=some { cls:=.type "list",dict:=none,data:=.seq #[vb,vb] c,slots:=#[] })
    (hR:∀ h' tk,(∀ b o,b ∉ wr->b ≠ S->s.heap.get? b=some o->h'.get? b=some o)->R (.ok (.ret vb)) { s with heap:=h',toks:=tk }) :
    codeAny (model prog w) A (.builtin "max.loop" ⟨[.ref I,.none,.ref S],[]⟩) R s:=by
 have hSw:S ∉ wr:=λ h=>hSf (W.sub _ h)
 refine codeAny_builtin F.entry_max_loop ?_
 rw [Around.under_plainId F.plain_max_loop _]
 show wpAny _ A.in1 (seqItems? (.ref S) >>= _) _ _ s
 refine wpAny_bind (wpAny_seqItems hS rfl ?_)
 show wpAny _ A.in1 (tryCatch (pyNext (.ref I)) _ >>= _) _ _ s
 refine wpAny_bind (wpAny_tryCatch (W.done s _ _ hst λ h' tk hk'=>?_))
 have hS':=hk' S _ hSw hS
 show wpAny _ A.in1 (updateSeq S (λ _=>#[]) >>= _) _ _ _
 refine wpAny_bind ?_
 refine wpAny_updateSeq hS' rfl (wpAny_bind (wpAny_letGo (wpAny_pure ?_)))
 exact hR _ tk λ b o hbw hbS e=>(Heap.get?_update_other _ _ (Ne.symm hbS)).trans (hk' b o hbw e)
theorem yi2 (W:Walks prog w A.in1 I fp wr n P St) (S:Addr) (hSf:S ∉ fp) (s:Shared) (vb v0:Value) (r:Bool) (c j:Nat) (hlt:j < n) (hj:j + 1=n) (hst:St j s.heap) (hv:∀ v,P j v->v=v0)
    (hcmp:∀ (h':Heap) (tk:Nat) (Q:Value->Shared->Prop) (E:Value->Shared->Prop),(∀ b o,b ∉ wr->s.heap.get? b=some o->h'.get? b=some o)->Q (.bool r) { s with heap:=h',toks:=tk }->wpAny (model prog w) A.in1 (richCompare .Gt v0 vb) Q E { s with heap:=h',toks:=tk })
    (hS:s.heap.get? S=some { cls:=.type "list",dict:=none,data:=.seq #[vb,vb] c,slots:=#[] })
    (hR:∀ h' tk,(∀ b o,b ∉ wr->b ≠ S->s.heap.get? b=some o->h'.get? b=some o)->R (.ok (.ret (if r then v0 else vb))) { s with heap:=h',toks:=tk }) :
    codeAny (model prog w) A (.builtin "max.loop" ⟨[.ref I,.none,.ref S],[]⟩) R s:=by
 have hSw:S ∉ wr:=λ h=>hSf (W.sub _ h)
 refine codeAny_builtin F.entry_max_loop ?_
 rw [Around.under_plainId F.plain_max_loop _]
 show wpAny _ A.in1 (seqItems? (.ref S) >>= _) _ _ s
 refine wpAny_bind (wpAny_seqItems hS rfl ?_)
 show wpAny _ A.in1 (tryCatch (pyNext (.ref I)) _ >>= _) _ _ s
 refine wpAny_bind (wpAny_tryCatch (W.item j s _ _ hlt hst λ v h' tk hP hst' hk'=>?_))
 obtain rfl:=hv v hP
 have hS':=hk' S _ hSw hS
 show wpAny _ A.in1 (tryCatch (holding [v,v] (richCompare .Gt v vb >>= _)) _ >>= _) _ _ _
 refine wpAny_bind (wpAny_tryCatch (wpAny_holding (wpAny_bind (hcmp h' tk _ _ hk' ?_))))
 refine wpAny_bind (wpAny_holding (wpAny_truthy_bool ?_))
 refine wpAny_bind (wpAny_letGo (wpAny_pure ?_))
 cases r with
 | true =>
  simp only [if_true]
  refine wpAny_bind ?_
  refine wpAny_updateSeq hS' rfl (wpAny_bind (wpAny_letGo ?_))
  rw [vw1]
  refine wpAny_pure ⟨plainId_quiet F.plain_max_loop _,ud2 W S hSf _ v _ (hj ▸ W.frame _ _ _ hst' λ b hbf o e=>?_) (Heap.get?_update_self _ hS' rfl) λ h'' tk'' hk''=>?_⟩
  ·exact (Heap.get?_update_other _ _ (λ h:S=b=>hSf (by rw [h]; exact hbf))).trans e
  ·exact hR h'' tk'' λ b o hbw hbS e=>hk'' b o hbw hbS ((Heap.get?_update_other _ _ (Ne.symm hbS)).trans (hk' b o hbw e))
 | false =>
  simp only [Bool.false_eq_true,if_false]
  refine wpAny_bind (wpAny_letGo ?_)
  rw [vw1]
  refine wpAny_pure ⟨plainId_quiet F.plain_max_loop _,ud2 W S hSf _ vb c (hj ▸ hst') hS' λ h'' tk'' hk''=>?_⟩
  exact hR h'' tk'' λ b o hbw hbS e=>hk'' b o hbw hbS (hk' b o hbw e)
theorem wt2 (W:Walks prog w A.in1 I fp wr 2 P St) (S:Addr) (hSf:S ∉ fp) (s:Shared) (va vb:Value) (r:Bool) (c:Nat) (hst:St 0 s.heap) (hva:∀ v,P 0 v->v=va) (hvb:∀ v,P 1 v->v=vb)
    (hcmp:∀ (h':Heap) (tk:Nat) (Q:Value->Shared->Prop) (E:Value->Shared->Prop),(∀ b o,b ∉ wr->b ≠ S->s.heap.get? b=some o->h'.get? b=some o)->Q (.bool r) { s with heap:=h',toks:=tk }->wpAny (model prog w) A.in1 (richCompare .Gt vb va) Q E { s with heap:=h',toks:=tk })
    (hS:s.heap.get? S=some { cls:=.type "list",dict:=none,data:=.seq #[] c,slots:=#[] })
    (hR:∀ h' tk,(∀ b o,b ∉ wr->b ≠ S->s.heap.get? b=some o->h'.get? b=some o)->R (.ok (.ret (if r then vb else va))) { s with heap:=h',toks:=tk }) :
    codeAny (model prog w) A (.builtin "max.loop" ⟨[.ref I,.none,.ref S],[]⟩) R s:=by
 have hSw:S ∉ wr:=λ h=>hSf (W.sub _ h)
 refine codeAny_builtin F.entry_max_loop ?_
 rw [Around.under_plainId F.plain_max_loop _]
 show wpAny _ A.in1 (seqItems? (.ref S) >>= _) _ _ s
 refine wpAny_bind (wpAny_seqItems hS rfl ?_)
 show wpAny _ A.in1 (tryCatch (pyNext (.ref I)) _ >>= _) _ _ s
 refine wpAny_bind (wpAny_tryCatch (W.item 0 s _ _ (by decide) hst λ v h' tk hP hst' hk'=>?_))
 obtain rfl:=hva v hP
 have hS':=hk' S _ hSw hS
 show wpAny _ A.in1 (updateSeq S (λ _=>#[v,v]) >>= _) _ _ _
 refine wpAny_bind ?_
 refine wpAny_updateSeq hS' rfl ?_
 rw [vw1]
 have up:∀ (f:Obj->Obj) b o,b ∉ wr->b ≠ S->s.heap.get? b=some o->Heap.get? (h'.update S f) b=some o:=λ f b o hbw hbS e=>(Heap.get?_update_other _ _ (Ne.symm hbS)).trans (hk' b o hbw e)
 refine wpAny_pure ⟨plainId_quiet F.plain_max_loop _,yi2 W S hSf _ v vb r _ 1 (by decide) rfl (W.frame _ _ _ hst' λ b hbf o e=>?_) hvb (λ h2 tk2 Q E hk2 hq=>?_) (Heap.get?_update_self _ hS' rfl) λ h'' tk'' hk''=>?_⟩
 ·exact (Heap.get?_update_other _ _ (λ h:S=b=>hSf (by rw [h]; exact hbf))).trans e
 ·exact hcmp h2 tk2 Q E (λ b o hbw hbS e=>hk2 b o hbw (up _ b o hbw hbS e)) hq
 ·exact hR h'' tk'' λ b o hbw hbS e=>hk'' b o hbw hbS (up _ b o hbw hbS e)
end
section
variable {prog:Program} {w:World} {A:Around} {E:Value->Shared->Prop} {s:Shared}
theorem th1 {va vb:Value} {r:Bool} {Q:Value->Shared->Prop} (hh:A.handled=none)
    (hcmp:∀ (h':Heap) (tk:Nat) (Q:Value->Shared->Prop) (E:Value->Shared->Prop),(∀ b o,s.heap.get? b=some o->h'.get? b=some o)->Q (.bool r) { s with heap:=h',toks:=tk }->wpAny (model prog w) A.in1 (richCompare .Gt vb va) Q E { s with heap:=h',toks:=tk })
    (h:∀ h' tk,(∀ c o,s.heap.get? c=some o->h'.get? c=some o)->Q (if r then vb else va) { s with heap:=h',toks:=tk }) :
    wpAny (model prog w) A (call (.builtin "max") [va,vb]) Q E s:=by
 refine call_function_tree F.kind_max F.plain_max F.entry_max (F.args_max2 _ _) ?_
 show wpAny _ A.in1 (Builtin.Builtins.bindParams "max" ["key", "default"] 0 ⟨[],[]⟩ >>= _) _ _ s
 refine wpAny_bind (wpAny_of_eq (show Builtin.Builtins.bindParams "max" ["key", "default"] 0 ⟨[],[]⟩=pure [none,none] from rfl) ?_)
 show wpAny _ A.in1 (newTuple [va,vb] >>= _) _ _ s
 refine wpAny_bind (wpAny_newObj_type ?_)
 have hT:(s.heap.push { cls:=.type "tuple",data:=.seq #[va,vb] }).IsTuple s.heap.objs.size #[va,vb]:=⟨_,Heap.get?_push_size _ rfl,rfl,0,rfl⟩
 refine wpAny_bind (wpAny_pyIter_tuple (s:={ s with heap:=s.heap.push { cls:=.type "tuple",data:=.seq #[va,vb] } }) hT ?_)
 have hsz:(s.heap.push { cls:=.type "tuple",data:=.seq #[va,vb] }).objs.size=s.heap.objs.size + 1:=Heap.size_push ..
 refine wpAny_bind (wpAny_newObj_type ?_)
 rw [vw1]
 have hsz2:((s.heap.push { cls:=.type "tuple",data:=.seq #[va,vb] }).push { cls:=.type "tuple_iterator",data:=.fields #[.ref s.heap.objs.size,.int 0 0] }).objs.size=s.heap.objs.size + 2:=by rw [Heap.size_push,hsz]
 have keep:∀ c o,s.heap.get? c=some o->Heap.get? (((s.heap.push { cls:=.type "tuple",data:=.seq #[va,vb] }).push { cls:=.type "tuple_iterator",data:=.fields #[.ref s.heap.objs.size,.int 0 0] }).push { cls:=.type "list",data:=.seq #[] }) c=some o:=λ c o e=>Heap.get?_push_of_some _ (Heap.get?_push_of_some _ (Heap.get?_push_of_some _ e))
 have off:∀ (c:Addr) (o:Obj),s.heap.get? c=some o->c ∉ [(s.heap.push { cls:=.type "tuple",data:=.seq #[va,vb] }).objs.size] /\ c ≠ ((s.heap.push { cls:=.type "tuple",data:=.seq #[va,vb] }).push { cls:=.type "tuple_iterator",data:=.fields #[.ref s.heap.objs.size,.int 0 0] }).objs.size:=λ c o e=>by
  have h1:=Heap.lt_size e
  rw [hsz2,hsz]
  refine ⟨λ hm=>?_,Nat.ne_of_lt (Nat.lt_succ_of_lt (Nat.lt_succ_of_lt h1))⟩
  rw [List.mem_singleton.mp hm] at h1
  exact absurd h1 (Nat.not_lt.mpr (Nat.le_succ _))
 refine wpAny_pure ⟨plainId_quiet F.plain_max_loop _,wt2 (Walks.tuple (A:=A.in1) hh _ s.heap.objs.size (by rw [hsz]; exact Nat.ne_of_lt (Nat.lt_succ_self _)) #[va,vb]) _ ?_ _ va vb r _ ?_ (λ v hP=>by simpa using hP.symm) (λ v hP=>by simpa using hP.symm) ?_ (Heap.get?_push_size _ rfl) ?_⟩
 ·rw [hsz2,hsz]
  simp
 ·exact ⟨⟨_,Heap.get?_push_of_some _ (Heap.get?_push_size _ rfl),rfl,rfl⟩,(hT.push _).push _⟩
 ·intro h' tk Q E hk hq
  exact hcmp h' tk Q E (λ c o e=>hk c o (off c o e).1 (off c o e).2 (keep c o e)) hq
 ·intro h' tk hk
  exact h h' tk λ c o e=>hk c o (off c o e).1 (off c o e).2 (keep c o e)
end
end Pv
namespace Pv
open PySem PySem.Spec PyProof.Rows L2
section
variable {X:Cx}
noncomputable def ge3R:R3:=λ x y μ Q=>match x,y with
 | .int i,.int j=>Q (.bl (decide (j<=i))) μ
 | .tup [.int a,.int b,.int c],.tup [.int d,.int e,.int f]=>Q (.bl (!lt3 (a,b,c) (d,e,f))) μ
 | _,_=>False
noncomputable def rGe3 (K:Fg):R2:=λ x y H Q=>∃ p q a b,x=.ref p /\ y=.ref q /\ SqT K H p [.int a.1,.int a.2.1,.int a.2.2] /\ SqT K H q [.int b.1,.int b.2.1,.int b.2.2] /\ Q (.bl (!lt3 a b)) H
theorem ue1 {x y z:V} {us:List Value} (r:Vals [x,y,z] us):∃ a b c,us=[a,b,c] /\ RelV x a /\ RelV y b /\ RelV z c:=by
 cases r with
 | cons r1 r =>
  cases r with
  | cons r2 r =>
   cases r with
   | cons r3 r=>cases r; exact ⟨_,_,_,rfl,r1,r2,r3⟩
theorem th3 (hu:X.A.units < cLine):OpR X (compareOp .GtE) (rGe3 X.K):=by
 intro pins s σ H x y v u Q I rx ry h
 obtain ⟨p,q,a,b,rfl,rfl,ha,hb,k⟩:=h
 cases rx
 cases ry
 obtain ⟨its,r1,⟨⟨c1,d1,e1,l1⟩,o1,o2,n1,o3⟩,_⟩:=I.tuple ha
 obtain ⟨its2,r2,⟨⟨c2,d2,e2,l2⟩,o4,o5,n2,o6⟩,_⟩:=I.tuple hb
 obtain ⟨_,_,_,rfl,⟨t1,rfl⟩,⟨t2,rfl⟩,⟨t3,rfl⟩⟩:=ue1 r1
 obtain ⟨_,_,_,rfl,⟨u1,rfl⟩,⟨u2,rfl⟩,⟨u3,rfl⟩⟩:=ue1 r2
 dsimp only at o2 o3 o5 o6
 subst o2 o3 o5 o6
 exact richCompare_meets_room (op:=.GtE) (T := "tuple") ⟨_,o1,rfl⟩ ⟨_,o4,rfl⟩ PySem.F.slot_tuple_ge PySem.F.entry_tuple_ge (PySem.F.args_tuple_ge_2 _ _) (tp2 p q a b t1 t2 t3 u1 u2 u3 n1 n2 d1 d2 l1 l2) ⟨o1,o4,by simp,⟨.bl (!lt3 a b),H,I,rfl,k⟩⟩ hu
theorem td3 (hu:X.A.units + 64 < cLine):RO X (compareOp .GtE) ge3R:=by
 refine ⟨_,op_ge.or (th3 (by omega)),λ x y v u H Q μ Q3 m rx ry h k=>?_⟩
 unfold ge3R at h
 split at h
 ·cases rx
  cases ry
  exact .inl ⟨_,_,rfl,rfl,k _ _ _ _ h (Kp.refl _) (.bl _) m⟩
 ·next a b c d e f =>
  cases rx with
  | tup hq rs =>
   cases ry with
   | tup hq2 rs2 =>
    cases rs with
    | cons x1 rs =>
     cases rs with
     | cons x2 rs =>
      cases rs with
      | cons x3 rs =>
       cases rs
       cases rs2 with
       | cons y1 rs2 =>
        cases rs2 with
        | cons y2 rs2 =>
         cases rs2 with
         | cons y3 rs2 =>
          cases rs2
          cases x1; cases x2; cases x3; cases y1; cases y2; cases y3
          exact .inr ⟨_,_,(a,b,c),(d,e,f),rfl,rfl,(SqT.of hq),(SqT.of hq2),k _ _ _ _ h (Kp.refl _) (.bl _) m⟩
 ·exact h.elim
end
end Pv
namespace Pv
open PySem PySem.Spec PySem.W PyProof.Rows L2
section
variable {X:Cx} {o e:Expr} {es:List Expr} {to:TE3} {t:TA3} {apos cpos:Pos}
end
end Pv
namespace Pv
open PySem PySem.Spec PyProof.Rows L2
section
variable {X:Cx} {NN:List Str} {scope:Scope} {cl:List (Str × Addr)} {js:List (Option Nat)}
theorem yr2 {elt target iter:Expr} {ifs:List Expr} {pos:Pos} {wi:TI} {g:TG} {tc:TT} {te:TE} (hc:X.calm=true) (S:CompSc X NN scope cl js) (hi:PI X target iter wi)
    (hg:∀ C fp s₀ H₀ pn,PG (tc0 X NN scope cl C fp s₀ H₀ pn) target g) (ht:∀ C fp s₀ H₀ pn,PTs (tc0 X NN scope cl C fp s₀ H₀ pn) ifs tc) (he:∀ C fp s₀ H₀ pn,PE (tc0 X NN scope cl C fp s₀ H₀ pn) elt te)
    (hs:∀ x,foldedSetIterable iter X.env x=pure x) {use:Option (Value->Sem Unit)} {Q':Value->Shared->Prop} {pins:List (Addr × Obj)} {s:Shared} {σ:L2.St} {H:Hp} {Q:VK} (I:Inv X pins σ H s) (h:vk1 js wi g tc te σ H Q)
    (hu:∀ (p0 C:Addr) (H':Hp) (s':Shared) (m':Str->Option Value),Inv X pins σ H' s'->s'.heap.Ns C m'->H' C=none->C ≠ X.env.locals->X.s₀.heap.objs.size<=C->(∀ x c,X.env.cells.lookup x=some c->c ≠ C)->(∀ p ∈ X.pn ++ pins,p.1 ≠ C)->Q (.ref p0) H' ->
     compPost (model X.prog X.w) X.A X.xe use Q' (.ref p0) C (.ok .next) s') :
    wpAny (model X.prog X.w) X.A (comprehension (.ListComp elt [⟨target,iter,ifs,0⟩] scope pos) scope X.env (firstIterPos [⟨target,iter,ifs,0⟩] pos) (newList []) (firstAsync [⟨target,iter,ifs,0⟩]) (firstIter [⟨target,iter,ifs,0⟩] X.env) use) Q' X.xe s:=by
 refine wpAny_comprehension_free (use:=use) rfl hs S.clos S.kind S.names (thn (hi pins s σ H _ I h) λ xv s1 h1=>thn h1 λ itv s2 h2=>?_)
 obtain ⟨it,fp,tn,J,H2,rfl,I2,T,st2,f2,hW⟩:=h2
 refine wpAny_newObj_type (wpAny_newFunctionEnv S.cell (by intro y hy; simp at hy) (λ h₁ hns₁ hsb₁=>?_) S.kind)
 dsimp only at hns₁ hsb₁ ⊢
 have hD:H2 s2.heap.objs.size=none:=I2.hok.fresh (Nat.le_refl _)
 have I3:Inv X pins σ (upd H2 s2.heap.objs.size (.lst [])) { s2 with heap:=s2.heap.push { cls:=.type "list",dict:=none,data:=.seq ([]:List Value).toArray } } :=
  I2.lnew (t':=s2.toks) (its:=[]) .nil (by rw [sizeLine_eq]; decide)
 generalize hsD:({ s2 with heap:=s2.heap.push { cls:=.type "list",dict:=none,data:=.seq ([]:List Value).toArray } }:Shared)=sD at I3
 have eh:sD.heap=s2.heap.push { cls:=.type "list",dict:=none,data:=.seq ([]:List Value).toArray }:=by rw [<- hsD]
 have es:∀ (h:Heap) (tk:Nat),({ s2 with heap:=h,toks:=tk }:Shared)={ sD with heap:=h,toks:=tk }:=λ h tk=>by rw [<- hsD]
 have hsz:s2.heap.objs.size < sD.heap.objs.size:=by rw [eh,Heap.size_push]; exact Nat.lt_succ_self _
 rw [<- eh] at hns₁ hsb₁ ⊢
 generalize hp0:s2.heap.objs.size=p0 at *
 have up:∀ b u,s2.heap.get? b=some u->sD.heap.get? b=some u:=λ b u e=>by rw [eh]; exact Heap.get?_push_of_some _ e
 have k:∀ b u,sD.heap.get? b=some u->h₁.get? b=some u:=λ b u e=>hsb₁.extBut b u (Nat.ne_of_lt (Heap.lt_size e)) (Heap.get?_push_of_some _ e)
 have f3:∀ b ∈ fp,FpOk X pins (upd H2 p0 (.lst [])) b /\ b < sD.heap.objs.size:=λ b hb=>by
  obtain ⟨o,ho,_⟩:=T.obj 0 _ st2 b hb
  have hlt:b < p0:=by rw [<- hp0]; exact Heap.lt_size ho
  refine ⟨⟨?_,(f2 b hb).2⟩,Nat.lt_trans hlt hsz⟩
  rw [wb0 (Nat.ne_of_lt hlt)]; exact (f2 b hb).1
 obtain ⟨W,⟨m0,w0⟩,turn⟩:=hW p0 hD
 have I4:=yw0 (tk:=s2.toks + ([]:List (Str × Value)).length) hc S I3 f3 hns₁ k
 have st4:tn 0 h₁:=T.keep 0 _ _ st2 λ b _ o e=>k b o (up b o e)
 rw [es]
 generalize hX':tc0 X NN scope cl sD.heap.objs.size fp sD (upd H2 p0 (.lst [])) (X.pn ++ pins)=X' at I4
 have a1:X'.env=compEnvC scope cl sD.heap.objs.size X.env:=by rw [<- hX']
 have a2:X'.prog=X.prog:=by rw [<- hX']
 have a3:X'.w=X.w:=by rw [<- hX']
 have a4:X'.A=X.A:=by rw [<- hX']
 have a5:X'.K=X.K:=by rw [<- hX']
 have a6:X'.calm=true:=by rw [<- hX']; exact hc
 have a7:X'.xe=λ _ _=>False:=by rw [<- hX']
 have a8:X'.ex=fp:=by rw [<- hX']
 have T':Turn X'.prog X'.w X'.K target J fp it tn:=by rw [a2,a3,a5]; exact T
 have hg':PG X' target g:=by rw [<- hX']; exact hg _ _ _ _ _
 have ht':PTs X' ifs tc:=by rw [<- hX']; exact ht _ _ _ _ _
 have he':PE X' elt te:=by rw [<- hX']; exact he _ _ _ _ _
 have fin:∀ {σ':L2.St} {H':Hp} {s':Shared},Inv X' [] σ' H' s'->Q (.ref p0) H'->compPost (model X.prog X.w) X.A X.xe use Q' (.ref p0) sD.heap.objs.size (.ok .next) s':=λ {σ' H' s'} I' q=>by
  obtain ⟨m',hn',_⟩:=I'.loc
  rw [a1] at hn'
  have u:Un (frs X.stack) fp (upd H2 p0 (.lst [])) H' sD.heap s'.heap:=by
   have:=I'.base
   rw [<- hX'] at this
   exact this
  have hch:∀ b ∈ fp,(b ∈ X.ex \/ X.s₀.heap.objs.size<=b) /\ b ≠ X.env.locals /\ (∀ x c,X.env.cells.lookup x=some c->c ≠ b) /\ ∀ p ∈ X.pn ++ pins,p.1 ≠ b:=λ b hb=>by
   obtain ⟨_,z1,_,z3,z4,z5⟩:=(f3 b hb).1
   exact ⟨z3,z1,z4,z5⟩
  have os':s'.os=sD.os:=by
   have:=I'.os
   rw [<- hX'] at this
   exact this
  have hok':HOk X.prog X.w H' s'.heap:=by
   have:=I'.hok
   rw [<- hX'] at this
   exact this
  have I5:Inv X pins σ H' s':=I3.call' os' u hok' I'.bare hch
  have hC:H' sD.heap.objs.size=none:=by
   have:=I'.free
   rw [a1] at this
   exact this
  refine hu p0 _ H' s' m' I5 hn' hC (Nat.ne_of_gt I3.lt) I3.sz (λ x c e=>?_) (λ p hp=>?_) q
  ·obtain ⟨v,o,ho,_⟩:=I3.cell x c e
   exact Nat.ne_of_lt (Heap.lt_size ho)
  ·exact Nat.ne_of_lt (Heap.lt_size (I3.pin p hp).1)
 have fp4:∀ {H':Hp},(∀ b ∈ fp,H' b=none)->∀ b ∈ fp,FpOk X' [] H' b:=λ hn b hb=>by
  obtain ⟨_,z1,z2,z3,z4,z5⟩:=(f3 b hb).1
  rw [<- hX']
  refine ⟨hn b hb,Nat.ne_of_lt (f3 b hb).2,λ z=>?_,.inl hb,λ x c e=>z4 x c (S.sub x c e),λ p hp=>z5 p (by simpa using hp)⟩
  rcases List.mem_cons.mp (I3.stkSub _ z) with z | z
  ·exact z1 z
  ·exact z2 z
 have loop:∀ s₃:Shared,Inv X' [] (uk0 js σ) (upd H2 p0 (.lst [])) s₃->tn 0 s₃.heap ->
     codeAny (model X.prog X.w) X.A (.compLoop (.ListComp elt [⟨target,iter,ifs,0⟩] scope pos) 0 (.ref it) (.ref p0) (compEnvC scope cl sD.heap.objs.size X.env)) (compPost (model X.prog X.w) X.A X.xe use Q' (.ref p0) sD.heap.objs.size) s₃:=by
  intro s₃ I₃ st₃
  refine codeAny_loop rfl (λ n s'=>∃ i σ' H',Inv X' [] σ' H' s' /\ tn i s'.heap /\ (∀ b ∈ fp,H' b=none) /\ W i n σ' H') (λ n s' hI=>?_) m0 ⟨0,uk0 js σ,_,I₃,st₃,λ b hb=>(f3 b hb).1.1,w0⟩
  obtain ⟨i,σ3,H3,J3,st3,fr3,w3⟩:=hI
  have tr:=turn i n σ3 H3 w3
  show wpAny _ X.A ((compTurn (.ListComp elt [⟨target,iter,ifs,0⟩] scope pos) 0 (.ref it) (.ref p0) (compEnvC scope cl sD.heap.objs.size X.env)).onRaise (λ x=>do noteFrame x (compEnvC scope cl sD.heap.objs.size X.env); theTreesLotGoes x)) _ _ s'
  refine wpAny_noted ?_
  rw [compTurn_list,<- a1,<- a2,<- a3,<- a4]
  have nof:∀ {α:Type} {t:Sem α} {Q':α->Shared->Prop} {s'':Shared} {E:Value->Shared->Prop},wpAny (model X'.prog X'.w) X'.A t Q' X'.xe s''->wpAny (model X'.prog X'.w) X'.A t Q' E s'':=λ h=>wpAny_mono h (λ _ _ q=>q) λ _ _ z=>by rw [a7] at z; exact z.elim
  rcases tr with ⟨stop,qn⟩ | ⟨go,step⟩
  ·refine wpAny_bind (wpAny_standAt (wpAny_bind (nof (thn (T'.done X' rfl rfl rfl a6 i [] s' σ3 H3 X'.xe J3 (fp4 fr3) st3 stop) λ r s4 ⟨hr,J4⟩=>?_))))
   subst hr
   refine wpAny_pure ?_
   show compPost (model X'.prog X'.w) X'.A X.xe use Q' (.ref p0) sD.heap.objs.size (.ok .next) s4
   rw [a2,a3,a4]
   exact fin J4 qn
  ·refine wpAny_bind (wpAny_standAt (wpAny_bind (nof (thn (T'.item X' rfl rfl rfl a6 i [] s' σ3 H3 X'.xe J3 (fp4 fr3) st3 go) λ r s4 ⟨u,hr,h4⟩=>?_))))
   subst hr
   refine wpAny_bind (nof (thn h4 λ _ s5 ⟨x,H5,I5,r5,y5,st5,fr5⟩=>?_))
   have I5':=I5.pinned (fp4 fr5) (T.obj _ _ st5)
   refine wpAny_bind (nof (thn (hg' _ s5 σ3 H5 x u _ I5' r5 (step x H5 y5)) λ _ s6 ⟨σ6,H6,I6,q6⟩=>?_))
   refine wpAny_bind (nof (thn (ht' _ s6 σ6 H6 _ I6 q6) λ ok s7 ⟨H7,I7,q7⟩=>?_))
   have again:∀ {s8:Shared} {σ8:L2.St} {H8:Hp},Inv X' ([] ++ sp0 fp s5.heap) σ8 H8 s8->(∃ m',m' < n /\ W (i + 1) m' σ8 H8)->∃ m,m < n /\ ∃ i σ' H',Inv X' [] σ' H' s8 /\ tn i s8.heap /\ (∀ b ∈ fp,H' b=none) /\ W i m σ' H':=λ {s8 σ8 H8} I8 ⟨m',hm,w8⟩=>by
    refine ⟨m',hm,i + 1,σ8,H8,I8.unpinned,T.keep _ _ _ st5 λ b hb o e=>(I8.pin (b,o) (List.mem_append_right _ (List.mem_append_right _ (wf0 hb e)))).1,λ b hb=>?_,w8⟩
    obtain ⟨o,e,d⟩:=T.obj _ _ st5 b hb
    exact (I8.pin (b,o) (List.mem_append_right _ (List.mem_append_right _ (wf0 hb e)))).2.1
   cases ok with
   | false=>exact wpAny_pure ⟨rfl,again I7 q7⟩
   | true =>
    refine wpAny_bind (wpAny_bind (nof (thn (he' _ s7 σ6 H7 _ I7 q7) λ xv s8 ⟨y,H8,I8,r8,ys,q8,hlen,q9⟩=>wpAny_bind (nof ?_))))
    refine thn (vn0 (X:=X') _ s8 σ6 H8 (.ref p0) [y] (.ref p0) [xv] (λ v H9=>v=.non /\ H9=upd H8 p0 (.lst (ys ++ [y]))) I8 rfl (.cons r8 .nil) ⟨p0,ys,y,rfl,rfl,q8,hlen,rfl,rfl⟩) λ rv s9 ⟨v9,H9,I9,_,_,e9⟩=>?_
    subst e9
    exact wpAny_pure (wpAny_pure ⟨rfl,again I9 q9⟩)
 exact codeAny_compStart_list (loop _ I4 st4) (T.self X.A 0 _ _ _ st4 (loop _ I4 st4))
theorem xm2 {i:Nat} {x:Str} {px apos:Pos} {elt target iter:Expr} {ifs:List Expr} {pos:Pos} {wi:TI} {g:TG} {tc:TT} {te:TE} (hN:X.N.Nodup) (hi':X.N[i]?=some x) (hl:X.env.scope.names.lookup x=some .local) (hc:X.calm=true) (S:CompSc X NN scope cl js) (hi:PI X target iter wi)
    (hg:∀ C fp s₀ H₀ pn,PG (tc0 X NN scope cl C fp s₀ H₀ pn) target g) (ht:∀ C fp s₀ H₀ pn,PTs (tc0 X NN scope cl C fp s₀ H₀ pn) ifs tc) (he:∀ C fp s₀ H₀ pn,PE (tc0 X NN scope cl C fp s₀ H₀ pn) elt te)
    (hs:∀ x,foldedSetIterable iter X.env x=pure x) (hw:swapsWith (.ListComp elt [⟨target,iter,ifs,0⟩] scope pos) (some (.Name x px)) apos.line X.env=pure true) :
    PS X (.Assign [.Name x px] (.ListComp elt [⟨target,iter,ifs,0⟩] scope pos) apos) (tAsg (vk1 js wi g tc te) (sp2 i)):=by
 intro pins s σ H D I h
 rw [exec_Assign_Name_used _ _ _ _ hw]
 refine wpAny_bind (wpAny_standAt (wpAny_bind ?_))
 show wpAny _ _ (comprehension (.ListComp elt [⟨target,iter,ifs,0⟩] scope pos) scope X.env (firstIterPos [⟨target,iter,ifs,0⟩] pos) (newList []) (firstAsync [⟨target,iter,ifs,0⟩]) (firstIter [⟨target,iter,ifs,0⟩] X.env) (some (assign (.Name x px) X.env)) >>= λ _=>pure ()) _ _ s
 refine wpAny_bind (wpAny_mono (yr2 (use:=some (assign (.Name x px) X.env)) (Q':=λ _ s'=>SP X pins D .next s') hc S hi hg ht he hs I h λ p0 C H' s' m' I5 hn hC n1 n2 n3 n4 q=>?_) (λ _ s' hq=>wpAny_pure (wpAny_pure hq)) λ _ _ e=>e)
 show wpAny _ _ (assign (.Name x px) X.env (.ref p0)) _ _ s'
 refine wpAny_assign_Name (wt0 I5 hN hi' (.inl hl) (v:=.ref p0) rfl (λ s2 I6 ⟨b,sb,hb⟩=>?_) (.inr hl))
 have nb:C ≠ b:=by
  rcases hb with hb | hb
  ·rw [hb]; exact n1
  ·exact Ne.symm (n3 x b hb)
 exact ⟨m',hn.sameBut sb nb,λ h' sb'=>⟨_,H',I6.turned (t':=s2.toks) (λ b o hb e=>sb'.extBut b o hb e) hC n1 (.inr n2) n3 n4,q⟩⟩
end
section
variable {X:Cx} {elt target iter:Expr} {ifs:List Expr} {pos:Pos} {ti:TI3} {g:TG3} {tc:TT3} {te:TE3} {NN:List Str} {scope:Scope} {cl:List (Str × Addr)} {js:List (Option Nat)}
theorem yy1 {i:Nat} {x:Str} {px apos:Pos} (hN:X.N.Nodup) (hc:X.calm=true) (S:CompSc X NN scope cl js) (hi:RI X target iter ti) (hg:∀ C fp s₀ H₀ pn,RG (tc0 X NN scope cl C fp s₀ H₀ pn) target g)
    (ht:∀ C fp s₀ H₀ pn,RTs (tc0 X NN scope cl C fp s₀ H₀ pn) ifs tc) (he:∀ C fp s₀ H₀ pn,RE (tc0 X NN scope cl C fp s₀ H₀ pn) elt te)
    (hs:∀ x,foldedSetIterable iter X.env x=pure x) (hi':X.N[i]?=some x:=by rfl) (hl:X.env.scope.names.lookup x=some .local:=by rfl)
    (hw:swapsWith (.ListComp elt [⟨target,iter,ifs,0⟩] scope pos) (some (.Name x px)) apos.line X.env=pure true:=by rfl):RS X (.Assign [.Name x px] (.ListComp elt [⟨target,iter,ifs,0⟩] scope pos) apos) (set3 i (comp3 js ti g tc te)):=by
 obtain ⟨wi,pi,ri⟩:=hi
 let gU:TG:=λ v σ H Q=>∀ (r:TG3),r=g->∃ d ρ μ Q3,RSt X.K H ρ σ /\ RelM X.K μ H /\ RelD X.K H d v /\ g d ρ μ Q3 /\ (∀ ρ' μ' σ' H',Q3 ρ' μ'->Kp H H'->RSt X.K H' ρ' σ'->RelM X.K μ' H'->Q σ' H')
 let tU:TT:=λ σ H Q=>∃ ρ μ Q3,RSt X.K H ρ σ /\ RelM X.K μ H /\ tc ρ μ Q3 /\ (∀ b μ' H',Q3 b μ'->Kp H H'->RelM X.K μ' H'->Q b H')
 let eU:TE:=λ σ H Q=>∃ ρ μ Q3,RSt X.K H ρ σ /\ RelM X.K μ H /\ te ρ μ Q3 /\ Ks X.K H Q3 Q
 have hg':∀ C fp s₀ H₀ pn,PG (tc0 X NN scope cl C fp s₀ H₀ pn) target gU:=λ C fp s₀ H₀ pn=>by
  obtain ⟨tv,p,r⟩:=hg C fp s₀ H₀ pn
  intro pins s σ H v u Q I rv h
  obtain ⟨d,ρ,μ,Q3,a1,a2,a3,a4,a5⟩:=h g rfl
  exact p pins s σ H v u Q I rv (r v d σ H Q ρ μ Q3 a1 a2 a3 a4 a5)
 have ht':∀ C fp s₀ H₀ pn,PTs (tc0 X NN scope cl C fp s₀ H₀ pn) ifs tU:=λ C fp s₀ H₀ pn=>by
  obtain ⟨tv,p,r⟩:=ht C fp s₀ H₀ pn
  intro pins s σ H Q I h
  obtain ⟨ρ,μ,Q3,a1,a2,a3,a4⟩:=h
  exact p pins s σ H Q I (r σ H Q ρ μ Q3 a1 a2 a3 a4)
 have he':∀ C fp s₀ H₀ pn,PE (tc0 X NN scope cl C fp s₀ H₀ pn) elt eU:=λ C fp s₀ H₀ pn=>by
  obtain ⟨tv,p,r⟩:=he C fp s₀ H₀ pn
  intro pins s σ H Q I h
  obtain ⟨ρ,μ,Q3,a1,a2,a3,a4⟩:=h
  exact p pins s σ H Q I (r σ H Q ρ μ Q3 a1 a2 a3 a4)
 have rd:RdE X.K (vk1 js wi gU tU eU) (comp3 js ti g tc te):=RdE.comp ri (λ v d σ H Q ρ μ Q3 a1 a2 a3 a4 a5 _ _=>⟨d,ρ,μ,Q3,a1,a2,a3,a4,a5⟩) (λ σ H Q ρ μ Q3 a1 a2 a3 a4=>⟨ρ,μ,Q3,a1,a2,a3,a4⟩) (λ σ H Q ρ μ Q3 a1 a2 a3 a4=>⟨ρ,μ,Q3,a1,a2,a3,a4⟩)
 exact ⟨_,xm2 hN hi' hl hc S pi hg' ht' he' hs hw,λ σ H D ρ μ D3 s m h k=>rd σ H _ ρ μ _ s m h λ d μ1 v H1 h1 k1 r1 m1=>k.nx _ _ _ _ h1 k1 ((s.mono k1).set i r1) m1⟩
end
end Pv
namespace Pv
open PySem PySem.Spec PySem.W PyProof.Rows L2
section
variable {X:Cx} {o e:Expr} {es:List Expr} {to:TE3} {t:TA3} {apos cpos pos p2:Pos}
end
section
variable {X:Cx} {pins:List (Addr × Obj)} {σ:L2.St} {H:Hp} {s:Shared}
end
end Pv
namespace Pv
open PySem PySem.Spec PyProof.Rows L2
noncomputable def keyI:D->Option (List Int)
 | .tup l=>ints? l
 | _=>none
noncomputable def valL (kvs:List (List Int × D)) (k:List Int):Option D:=(kvs.find? λ kv=>decide (kv.1=k)).map (·.2)
noncomputable def putL (kvs:List (List Int × D)) (k:List Int) (y:D):List (List Int × D):=if (kvs.any λ kv=>decide (kv.1=k))=true then kvs.map (λ kv=>if kv.1=k then (kv.1,y) else kv) else kvs ++ [(k,y)]
noncomputable def dnl3:TE3:=λ _ μ Q=>∀ p,μ p=none->Q (.ref p) (updM μ p (.dcl []))
noncomputable def dgR:R3:=λ x y μ Q=>match x,keyI y with
 | .ref p,some k=>match μ p with
  | some (.dcl kvs)=>match valL kvs k with
   | some v=>Q v μ
   | none=>False
  | _=>False
 | _,_=>False
noncomputable def dinR (neg:Bool):R3:=λ y x μ Q=>match x,keyI y with
 | .ref p,some k=>match μ p with
  | some (.dcl kvs)=>Q (.bl (if neg then !(valL kvs k).isSome else (valL kvs k).isSome)) μ
  | _=>False
 | _,_=>False
noncomputable def uh0 (to ti tv:TE3):TS3:=λ D' ρ μ=>tv ρ μ λ v μ1=>to ρ μ1 λ x μ2=>ti ρ μ2 λ y μ3=>match x,keyI y with
 | .ref p,some k=>match μ3 p with
  | some (.dcl kvs)=>kvs.length < 90000 /\ D'.nx ρ (updM μ3 p (.dcl (putL kvs k v)))
  | _=>False
 | _,_=>False
theorem RelM.newC {K:Fg} {μ:Mu} {H:Hp} {p:Addr} (h:H p=none) (m:RelM K μ H):RelM K (updM μ p (.dcl [])) (upd H p (.dT [])):=by
 have m':=m.newT (o:=.dT []) h
 refine ⟨λ q ys e=>?_,λ q c fs e=>?_,λ q kvs e=>?_,λ q kvs e=>?_,λ q kvs e=>?_⟩
 ·by_cases z:q=p
  ·subst z; rw [za0] at e; cases e
  ·rw [ua0 z] at e; exact m'.lst q ys e
 ·by_cases z:q=p
  ·subst z; rw [za0] at e; cases e
  ·rw [ua0 z] at e; exact m'.ins q c fs e
 ·by_cases z:q=p
  ·subst z; rw [za0] at e; cases e
  ·rw [ua0 z] at e; exact m'.dct q kvs e
 ·by_cases z:q=p
  ·subst z; rw [za0] at e; cases e; exact ⟨[],zd0,.nil⟩
  ·rw [ua0 z] at e; exact m'.dcl q kvs e
 ·by_cases z:q=p
  ·subst z; rw [za0] at e; cases e
  ·rw [ua0 z] at e; exact m'.dck q kvs e
theorem RelM.wrC {K:Fg} {μ:Mu} {H:Hp} {p:Addr} {kvs:List (List Int × D)} {vs ws:List (List Key × V)} (h:H p=some (.dT ws)) (r:RelKl K H kvs vs) (m:RelM K μ H):RelM K (updM μ p (.dcl kvs)) (upd H p (.dT vs)):=by
 refine ⟨λ q ys e=>?_,λ q c fs e=>?_,λ q ks e=>?_,λ q ks e=>?_,λ q ks e=>?_⟩
 ·by_cases z:q=p
  ·subst z; rw [za0] at e; cases e
  ·rw [ua0 z] at e
   obtain ⟨us,q1,r1⟩:=m.lst q ys e
   exact ⟨us,by rw [wb0 z]; exact q1,r1.mono (Kp.wrD h)⟩
 ·by_cases z:q=p
  ·subst z; rw [za0] at e; cases e
  ·rw [ua0 z] at e
   obtain ⟨C,dx,us,n,q1,q2,r1⟩:=m.ins q c fs e
   refine ⟨C,dx,us,n,by rw [wb0 z]; exact q1,?_,r1.mono (Kp.wrD h)⟩
   rw [wb0]
   ·exact q2
   ·intro y; subst y; rw [h] at q2; cases q2
 ·by_cases z:q=p
  ·subst z; rw [za0] at e; cases e
  ·rw [ua0 z] at e
   obtain ⟨us,q1,r1⟩:=m.dct q ks e
   exact ⟨us,by rw [wb0 z]; exact q1,r1.mono (Kp.wrD h)⟩
 ·by_cases z:q=p
  ·subst z; rw [za0] at e; cases e; exact ⟨vs,zd0,r.mono (Kp.wrD h)⟩
  ·rw [ua0 z] at e
   obtain ⟨us,q1,r1⟩:=m.dcl q ks e
   exact ⟨us,by rw [wb0 z]; exact q1,r1.mono (Kp.wrD h)⟩
 ·by_cases z:q=p
  ·subst z; rw [za0] at e; cases e
  ·rw [ua0 z] at e
   obtain ⟨us,q1,r1⟩:=m.dck q ks e
   exact ⟨us,by rw [wb0 z]; exact q1,r1.mono (Kp.wrD h)⟩
theorem xd1:∀ {a b:List Int},kL a=kL b->a=b
 | [],[],_=>rfl
 | [],_ :: _,h=>by cases h
 | _ :: _,[],h=>by cases h
 | x :: a,y :: b,h=>by
  have h':(Sum.inl x:Key) :: kL a=Sum.inl y :: kL b:=h
  injection h' with h1 h2
  cases h1
  rw [xd1 h2]
theorem RelKl.len {K:Fg} {H:Hp} {l:List (List Int × D)} {vs:List (List Key × V)} (r:RelKl K H l vs):l.length=vs.length:=by
 induction r with
 | nil=>rfl
 | cons _ _ ih=>rw [List.length_cons,List.length_cons,ih]
theorem RelKl.any {K:Fg} {H:Hp} {t:List Int} {l:List (List Int × D)} {vs:List (List Key × V)} (r:RelKl K H l vs):(vs.any λ kv=>decide (kv.1=kL t))=l.any λ kv=>decide (kv.1=t):=by
 induction r with
 | nil=>rfl
 | cons _ _ ih =>
  rw [List.any_cons,List.any_cons,ih]
  congr 1
  rw [decide_eq_decide]
  exact ⟨xd1,λ h=>congrArg kL h⟩
theorem RelKl.val {K:Fg} {H:Hp} {t:List Int} {l:List (List Int × D)} {vs:List (List Key × V)} (r:RelKl K H l vs):(valL l t=none /\ valV vs (kL t)=none) \/ ∃ d v,valL l t=some d /\ valV vs (kL t)=some v /\ RelD K H d v:=by
 induction r with
 | nil=>exact .inl ⟨rfl,rfl⟩
 | cons h _ ih =>
  rename_i t' d' v' l' vs' _
  by_cases c:t'=t
  ·subst c
   exact .inr ⟨d',v',by simp [valL],ul0 rfl,h⟩
  ·have e1:valL ((t',d') :: l') t=valL l' t:=by simp [valL,c]
   rw [e1,tl0 (p:=(kL t',v')) (λ z=>c (xd1 z))]
   exact ih
theorem RelKl.rep {K:Fg} {H:Hp} {t:List Int} {y:D} {v:V} (ry:RelD K H y v) {l:List (List Int × D)} {vs:List (List Key × V)} (r:RelKl K H l vs):RelKl K H (l.map λ kv=>if kv.1=t then (kv.1,y) else kv) (vs.map λ kv=>if kv.1=kL t then (kv.1,v) else kv):=by
 induction r with
 | nil=>exact .nil
 | cons h _ ih =>
  rename_i t' d' v' l' vs' _
  rw [List.map_cons,List.map_cons]
  by_cases c:t'=t
  ·rw [if_pos c,if_pos (by rw [c])]; exact .cons ry ih
  ·rw [if_neg c,if_neg (λ z=>c (xd1 z))]; exact .cons h ih
theorem RelKl.snoc {K:Fg} {H:Hp} {t:List Int} {y:D} {v:V} (ry:RelD K H y v) {l:List (List Int × D)} {vs:List (List Key × V)} (r:RelKl K H l vs):RelKl K H (l ++ [(t,y)]) (vs ++ [(kL t,v)]):=by
 induction r with
 | nil=>exact .cons ry .nil
 | cons h _ ih=>exact .cons h ih
theorem RelKl.put {K:Fg} {H:Hp} {t:List Int} {y:D} {v:V} (ry:RelD K H y v) {l:List (List Int × D)} {vs:List (List Key × V)} (r:RelKl K H l vs):RelKl K H (putL l t y) (putK vs (kL t) v):=by
 unfold putL putK
 rw [r.any]
 split
 ·exact r.rep ry
 ·exact r.snoc ry
theorem zd1 {K:Fg} {H:Hp}:∀ {l:List D} {vs:List V} {k:List Int},RelDs K H l vs->ints? l=some k->vs=(kL k).map kV
 | _,_,k,.nil,e=>by simp [ints?] at e; subst e; rfl
 | _,_,k,.cons h r,e=>by
  cases h with
  | int x =>
   simp only [ints?] at e
   split at e
   ·next ys e1 =>
    simp only [Option.some.injEq] at e
    subst e
    rw [zd1 r e1]; rfl
   ·cases e
  | _=>simp [ints?] at e
theorem tn0 {K:Fg} {H:Hp} {y:D} {v:V} {k:List Int} (r:RelD K H y v) (e:keyI y=some k):∃ b,v=.ref b /\ H b=some (.tup ((kL k).map kV)):=by
 cases r with
 | tup hq rs=>exact ⟨_,rfl,by rw [<- zd1 rs e]; exact hq⟩
 | _=>simp [keyI] at e
section
variable {X:Cx} {pos pos':Pos}
theorem xc1:RE X (.Dict [] [] pos) dnl3:=⟨_,wc1,λ σ H Q ρ μ Q3 s m h k p hp=>k _ _ _ _ (h p (m.free hp)) (Kp.new hp) (.ref p) (m.newC hp)⟩
theorem zp0 {o i:Expr} {to ti:TE3} (hu:X.A.units + 64 < cLine) (ho:RE X o to) (hi:RE X i ti) (hs:NoSl i:=by intro _ _; rfl):RE X (.Subscript o i pos) (o3 dgR to ti):=by
 obtain ⟨vo,po,ro⟩:=ho
 obtain ⟨vi,pi,ri⟩:=hi
 refine ⟨_,wn2 (by omega) po pi hs,λ σ H Q ρ μ Q3 s m h k=>ro σ H _ ρ μ _ s m h λ x μ1 a H1 h1 k1 r1 m1=>ri σ H1 _ ρ μ1 _ (s.mono k1) m1 h1 λ y μ2 b H2 h2 k2 r2 m2=>?_⟩
 unfold dgR at h2
 split at h2
 ·next p kk ek =>
  split at h2
  ·next kvs e =>
   split at h2
   ·next v ev =>
    cases r1
    obtain ⟨ws,hw,rk⟩:=m2.dcl p kvs e
    obtain ⟨b',rfl,hb⟩:=tn0 r2 ek
    rcases rk.val (t:=kk) with ⟨z,_⟩ | ⟨d,w,z1,z2,rd⟩
    ·rw [ev] at z; cases z
    ·rw [ev] at z1
     cases z1
     have g:=DGet.t (k:=kL kk) hw hb
     rw [z2] at g
     exact ⟨p,w,rfl,g,k _ _ _ _ h2 (k1.trans k2) rd m2⟩
   ·exact h2.elim
  ·exact h2.elim
 ·exact h2.elim
theorem ss3 (neg:Bool) (hu:X.A.units + 64 < cLine):RO X (compareOp (if neg then .NotIn else .In)) (dinR neg):=by
 refine ⟨λ y x H Q=>∃ a o,x=.ref a /\ DGet H a y o /\ Q (.bl (if neg then !o.isSome else o.isSome)) H,?_,λ y x b a H Q μ Q3 m ry rx h k=>?_⟩
 ·intro pins s σ H y x u v Q I ry rx h
  obtain ⟨a,o,rfl,g,q⟩:=h
  cases rx
  cases neg with
  | true=>exact sq2 (by omega) I g ry λ s' I'=>⟨.bl (!o.isSome),H,I',rfl,q⟩
  | false=>exact d_in (by omega) I g ry λ s' I'=>⟨.bl o.isSome,H,I',rfl,q⟩
 ·unfold dinR at h
  split at h
  ·next p kk ek =>
   split at h
   ·next kvs e =>
    cases rx
    obtain ⟨ws,hw,rk⟩:=m.dcl p kvs e
    obtain ⟨b',rfl,hb⟩:=tn0 ry ek
    refine ⟨p,_,rfl,DGet.t (k:=kL kk) hw hb,?_⟩
    have es:(valV ws (kL kk)).isSome=(valL kvs kk).isSome:=by
     rcases rk.val (t:=kk) with ⟨z1,z2⟩ | ⟨d,w,z1,z2,_⟩ <;> rw [z1,z2] <;> rfl
    rw [es]
    exact k _ _ _ _ h (Kp.refl _) (.bl _) m
   ·exact h.elim
  ·exact h.elim
theorem wf2 (hu:X.A.units + 64 < cLine):RO X (compareOp .NotIn) (dinR true):=ss3 true hu
theorem yk0 {o i value:Expr} {to ti tv:TE3} (hu:X.A.units + 64 < cLine) (ho:RE X o to) (hi:RE X i ti) (hv:RE X value tv) (hs:swapsWith value (some (.Subscript o i pos')) pos.line X.env=pure false:=by rfl) :
    RS X (.Assign [.Subscript o i pos'] value pos) (uh0 to ti tv):=by
 obtain ⟨vo,po,ro⟩:=ho
 obtain ⟨vi,pi,ri⟩:=hi
 obtain ⟨vv,pv,rv⟩:=hv
 refine ⟨_,tn1 (by omega) po pi pv hs,λ σ H D ρ μ D3 s m h k=>rv σ H _ ρ μ _ s m h λ y μ1 v H1 h1 k1 r1 m1=>ro σ H1 _ ρ μ1 _ (s.mono k1) m1 h1 λ d μ2 x H2 h2 k2 r2 m2 =>
  ri σ H2 _ ρ μ2 _ (s.mono (k1.trans k2)) m2 h2 λ kd μ3 b H3 h3 k3 r3 m3=>?_⟩
 split at h3
 ·next p kk ek =>
  split at h3
  ·next kvs e =>
   cases r2
   obtain ⟨ws,hw,rk⟩:=m3.dcl p kvs e
   obtain ⟨b',rfl,hb⟩:=tn0 r3 ek
   have hl:=rk.len
   have hz:(90000:Nat) < sizeLine:=by decide
   refine ⟨p,_,rfl,DPut.t (k:=kL kk) hw hb (by omega),?_⟩
   exact k.nx _ _ _ _ h3.2 (k1.trans (k2.trans (k3.trans (Kp.wrD hw)))) (s.mono (k1.trans (k2.trans (k3.trans (Kp.wrD hw))))) (m3.wrC hw (rk.put (r1.mono (k2.trans k3))))
  ·exact h3.elim
 ·exact h3.elim
end
end Pv
namespace Pv
open PySem PySem.Spec PyProof.Rows L2
noncomputable def sdf3 (to:TE3) (t:TA3):TE3:=λ ρ μ Q=>to ρ μ λ x μ1=>match x with
 | .ref p=>match μ1 p with
  | some (.dcl _)=>t ρ μ1 λ ds μ2=>match ds with
   | [y,d]=>match keyI y,μ2 p with
    | some k,some (.dcl kvs)=>kvs.length < 90000 /\ (match valL kvs k with
     | some v=>Q v μ2
     | none=>Q d (updM μ2 p (.dcl (putL kvs k d))))
    | _,_=>False
   | _=>False
  | _=>False
 | _=>False
noncomputable def rSd:V->List V->Hp->VK->Prop:=λ x vs H Q=>∃ a kvs k b v,x=.ref a /\ vs=[.ref b,v] /\ H a=some (.dT kvs) /\ H b=some (.tup (k.map kV)) /\ kvs.length < sizeLine ∧
 (∀ u,valV kvs k=some u->Q u H) /\ (valV kvs k=none->Q v (upd H a (.dT (putK kvs k v))))
section
variable {X:Cx}
theorem uu3 (hu:X.A.units + 1 < cLine):MtM X "dict.setdefault" rSd:=by
 intro pins s σ H x vs v us Q I rx rv h
 obtain ⟨d,kvs,k,b,v0,rfl,rfl,e,eb,l,q1,q2⟩:=h
 cases rx
 cases rv with
 | cons r1 r2 =>
 cases r2 with
 | cons r2 r3 =>
 cases r3
 rename_i u1 u2
 cases (show u1=Value.ref b from r1)
 obtain ⟨z,hd,xs,rel,dd⟩:=ui1 I.hok (.inl e)
 have hz:xs.length<=sizeLine:=by rw [<- Paired.length rel]; exact z
 refine wpAny_call_entry F.slot_dict_setdefault dd.of.typeIs F.entry_dict_setdefault ?_ (F.args_dict_setdefault_3 _ _ _)
 unfold Builtin.«dict.setdefault»; refine wpAny_bind ?_
 unfold Builtin.Dict.keyAndDefault; refine wpAny_bind (wpAny_notOrdered_dict dd.of.typeIs ?_)
 refine (show wpAny _ _ (pure (d,Value.ref b,some u2)) _ _ s from wpAny_pure ?_)
 show wpAny _ _ (if (d == sysModules)=true then _ else (dictSetDefault d (.ref b) u2 >>= _)) _ _ s
 rw [if_neg (by rw [hd]; exact Bool.false_ne_true)]
 have rv:=rel.val k
 refine wpAny_bind (ul1 (tupleKind_room_in1 hu) (un0 I.hok eb) dd hz (λ p hp=>wpAny_pure ⟨p.2,rfl,?_⟩) λ hno h' dd' hs'=>wpAny_pure ⟨_,rfl,?_⟩)
 ·rw [hp,Option.map_some] at rv
  cases ev:valV kvs k with
  | none=>rw [ev] at rv; exact rv.elim
  | some w'=>rw [ev] at rv; exact ⟨w',H,I.tok _,rv,q1 w' ev⟩
 ·rw [hno,Option.map_none] at rv
  cases ev:valV kvs k with
  | some w'=>rw [ev] at rv; exact rv.elim
  | none =>
   have hl:(putK kvs k v0).length<=sizeLine:=by have:=wi0 kvs k v0; omega
   obtain ⟨ob,es,hq,h2,h3,h4,_,h5⟩:=dd'
   have e2:kvs.length + 1=(putK kvs k v0).length:=by rw [zq1,ev]; rfl
   refine ⟨v0,upd H d (.dT (putK kvs k v0)),yz0 (ob:=.dT (putK kvs k v0)) I (by rw [e]; exact True.intro) hs' ⟨ob,hq⟩ ⟨hl,hd,_,(rel.put k eb r2).keeps λ c ys ec=>?_,ob,es,_,hq,h2,h3,h4,h5,e2⟩,r2,q2 ev⟩
   rw [wb0 (wh1 ec e (λ z=>nomatch z))]; exact ec
variable {o e:Expr} {es:List Expr} {to:TE3} {t:TA3} {apos cpos:Pos}
theorem sq3 (hu:X.A.units + 64 < cLine) (ho:RE X o to) (ha:RA X (e :: es) t) (hbase:attributeBase o "setdefault" X.env (eval o X.env)=eval o X.env:=by rfl)
    (hfew:((backTo cpos (starEach (e :: es) X.env)).all (λ x=>!x.1) && (backToKw cpos (keywordEach [] X.env)).all (λ x=>x.1.isSome)
     && decide ((e :: es).length + ([]:List Keyword).length + (if ([]:List Keyword).isEmpty then 0 else 1) < 30))=true:=by rfl)
    (hline:(apos.endLine == cpos.line)=true:=by rfl) (hs:starEach (e :: es) X.env=(false,eval e X.env) :: starEach es X.env:=by rfl) (hplain:(backTo cpos (starEach es X.env)).any (·.1)=false:=by rfl) :
    RE X (.Call (.Attribute o "setdefault" apos) (e :: es) [] cpos) (sdf3 to t):=by
 obtain ⟨va,pa,ra⟩:=ho
 obtain ⟨vb,pb,rb⟩:=ha
 refine ⟨_,sn2 PySem.F.plainAttrs_dict PySem.F.slot_dict_setdefault PySem.F.type_dict_setdefault (uu3 (by omega)) pa pb hbase hfew hline hs hplain,λ σ H Q ρ μ Q3 s m h k=>ra σ H _ ρ μ _ s m h λ x μ1 v H1 h1 k1 r1 m1=>?_⟩
 split at h1
 ·next p =>
  split at h1
  ·next kvs0 e0 =>
   cases r1
   obtain ⟨ws0,hw0,_⟩:=m1.dcl p kvs0 e0
   refine ⟨.inr (.inr (.inl ⟨rfl,.inr ⟨ws0,hw0⟩⟩)),rb σ H1 _ ρ μ1 _ (s.mono k1) m1 h1 λ ds μ2 vs H2 h2 k2 r2 m2=>?_⟩
   split at h2
   ·next y d =>
    cases r2 with
    | cons ry r2 =>
    cases r2 with
    | cons rd r2 =>
    cases r2
    split at h2
    ·next kk kvs ek e =>
     obtain ⟨ws,hw,rk⟩:=m2.dcl p kvs e
     obtain ⟨b,rfl,hb⟩:=tn0 ry ek
     have hl:=rk.len
     have hz:(90000:Nat) < sizeLine:=by decide
     refine ⟨p,ws,kL kk,b,_,rfl,rfl,hw,hb,by omega,λ u eu=>?_,λ eu=>?_⟩
     ·rcases rk.val (t:=kk) with ⟨_,z2⟩ | ⟨d',w',z1,z2,rd'⟩
      ·rw [eu] at z2; cases z2
      ·rw [eu] at z2; cases z2; rw [z1] at h2; exact k _ _ _ _ h2.2 (k1.trans k2) rd' m2
     ·rcases rk.val (t:=kk) with ⟨z1,_⟩ | ⟨d',w',_,z2,_⟩
      ·rw [z1] at h2; exact k _ _ _ _ h2.2 (k1.trans (k2.trans (Kp.wrD hw))) (rd.mono (Kp.wrD hw)) (m2.wrC hw (rk.put rd))
      ·rw [eu] at z2; cases z2
    ·exact h2.elim
   ·exact h2.elim
  ·exact h1.elim
 ·exact h1.elim
end
end Pv
namespace Pv
open PySem PySem.Spec PyProof.Rows L2
noncomputable def Itd (a:Addr) (n:Nat):It :=
 ⟨λ i H=>∃ kvs,H a=some (.dT kvs) /\ kvs.length=n /\ i < n,λ i H x H'=>H'=H /\ ∃ kvs k v b,H a=some (.dT kvs) /\ kvs[i]?=some (k,v) /\ x=.ref b /\ H b=some (.tup (k.map kV)),
  λ i H=>∃ kvs,H a=some (.dT kvs) /\ kvs.length=n /\ n<=i⟩
theorem wg2 {H:Hp}:∀ {kvs:List (List Key × V)} {xs:List (List Key × Addr × Value)},KT H kvs xs->∀ (i:Nat) x,xs[i]?=some x->∃ v,kvs[i]?=some (x.1,v) /\ H x.2.1=some (.tup (x.1.map kV))
 | _,_,.nil,i,x,e=>by simp at e
 | _,_,.cons (a:=p) (b:=q) h r,0,x,e=>by
  simp at e; subst e
  exact ⟨p.2,by rw [List.getElem?_cons_zero,<- h.1],by rw [<- h.1]; exact h.2.1⟩
 | _,_,.cons h r,i + 1,x,e=>by
  rw [List.getElem?_cons_succ] at e ⊢
  exact wg2 r i x e
theorem uj1 {P:Program} {w:World} {K:PySem.W.Frag} {tg:Expr} (a it:Addr) (n:Nat):Turn P w K tg (Itd a n) [it] it (λ i h=>h.IsKeyIter it a i n n) where
 mem:=by simp
 obj:=λ i h st b hb=>by
  have e:b=it:=by simpa using hb
  subst e
  obtain ⟨o,e,c,d⟩:=st
  exact ⟨o,e,λ v z=>by rw [d] at z; cases z⟩
 keep:=λ i h h' st k=>by
  obtain ⟨o,e,c,d⟩:=st
  exact ⟨o,k it (by simp) o e,c,d⟩
 item:=by
  intro X hP hw hK hc i pins s σ H E I hf st hg
  subst hP hw hK
  obtain ⟨f0,f1,f2,f3,f4,f5⟩:=hf it (by simp)
  obtain ⟨kvs,e,el,hi⟩:=hg
  obtain ⟨z,hd,xs,rel,o,es,ho,hc1,hd1,he,_⟩:=ui1 I.hok (.inl e)
  have l1:xs.length=n:=by rw [<- Paired.length rel]; exact el
  have l2:es.size=n:=by rw [<- Array.length_toList,he,List.length_map,l1]
  rw [el] at hd1
  have st':s.heap.IsKeyIter it a i es.size n:=by rw [l2]; exact st
  refine vs1 st' ⟨o,ho,hc1,hd1⟩ (by omega) λ h' hst hk=>?_
  rw [l2] at hst
  have hx:xs[i]?=some (xs[i]'(by omega)):=List.getElem?_eq_getElem _
  have ek:(es[i]'(by omega)).key=.ref (xs[i]'(by omega)).2.1:=by
   have q:es.toList[i]?=some (entryOfKey (tupleKind (xe0 X.prog X.w)) (xs[i]'(by omega))):=by rw [he,List.getElem?_map,hx]; rfl
   rw [Array.getElem?_toList,Array.getElem?_eq_getElem (by omega)] at q
   cases q':es[i]'(by omega) with
   | mk a1 a2 a3=>rw [q'] at q; cases q; rfl
  obtain ⟨v,kg,kh⟩:=wg2 rel i _ hx
  have I1:Inv X pins σ H { s with heap:=h' }:=I.turned (t':=s.toks) (λ b o hb e=>hk.extBut b o hb e) f0 f1 f3 f4 f5
  obtain ⟨o1,e1,c1,d1⟩:=id hst
  refine ⟨_,rfl,tr1 (s:={ s with heap:=h' }) e1 c1 d1 (by decide) ⟨.ref _,H,I1,ek,⟨rfl,kvs,_,v,_,e,kg,rfl,kh⟩,hst,λ b hb=>(hf b hb).1⟩⟩
 done:=by
  intro X hP hw hK hc i pins s σ H E I hf st hg
  subst hP hw hK
  obtain ⟨f0,f1,f2,f3,f4,f5⟩:=hf it (by simp)
  obtain ⟨kvs,e,el,hi⟩:=hg
  obtain ⟨z,hd,xs,rel,o,es,ho,hc1,hd1,he,_⟩:=ui1 I.hok (.inl e)
  have l1:xs.length=n:=by rw [<- Paired.length rel]; exact el
  have l2:es.size=n:=by rw [<- Array.length_toList,he,List.length_map,l1]
  rw [el] at hd1
  have st':s.heap.IsKeyIter it a i es.size n:=by rw [l2]; exact st
  exact yh2 (I.ok.hd hc) st' ⟨o,ho,hc1,hd1⟩ (by omega) λ h' hk=>⟨rfl,I.turned (t':=s.toks) (λ b o hb e=>hk b o hb e) f0 f1 f3 f4 f5⟩
 self:=λ A i s Q E st h=>wpAny_pyIter_keyiter st h
section
variable {X:Cx} {tg:Expr}
noncomputable def iDct (tl:TE):TI:=λ σ H R=>tl σ H λ x H1=>∃ a kvs,x=.ref a /\ H1 a=some (.dT kvs) /\ R (Itd a kvs.length) H1
theorem sm2 {l:Expr} {tl:TE} (hl:PE X l tl):PI X tg l (iDct tl):=by
 intro pins s σ H R I h
 refine thn (hl pins s σ H _ I h) λ v s1 ⟨x,H1,I1,r1,q1⟩=>?_
 have fp:∀ b ∈ [s1.heap.objs.size],FpOk X pins H1 b:=λ b hb=>by
  have e:b=s1.heap.objs.size:=by simpa using hb
  subst e
  exact I1.fpOk (Nat.le_refl _) (I1.hok.fresh (Nat.le_refl _))
 obtain ⟨a,kvs,rfl,e,q⟩:=q1
 cases r1
 obtain ⟨z,hd,xs,rel,o,es,ho,hc1,hd1,he,_⟩:=ui1 I1.hok (.inl e)
 have l2:es.size=kvs.length:=by rw [<- Array.length_toList,he,List.length_map]; exact (Paired.length rel).symm
 refine us1 hd ⟨o,ho,hc1,hd1⟩ ?_
 rw [l2]
 exact ⟨s1.heap.objs.size,[s1.heap.objs.size],_,_,H1,rfl,I1.kept (t':=s1.toks) λ b o e=>Heap.get?_push_of_some _ e,uj1 a _ _,⟨_,Heap.get?_push_size _ rfl,rfl,rfl⟩,fp,q⟩
noncomputable def tupI (k:List Int):D:=.tup (k.map .int)
theorem tp0 {K:Fg} {H:Hp}:∀ k:List Int,RelDs K H (k.map .int) ((kL k).map kV)
 | []=>.nil
 | i :: k=>.cons (.int i) (tp0 k)
theorem RelKl.get {K:Fg} {H:Hp} {l:List (List Int × D)} {vs:List (List Key × V)} (r:RelKl K H l vs):∀ (i:Nat) k v,vs[i]?=some (k,v)->∃ t d,l[i]?=some (t,d) /\ k=kL t:=by
 induction r with
 | nil=>intro i k v e; simp at e
 | cons h _ ih =>
  intro i k v e
  cases i with
  | zero=>simp at e; exact ⟨_,_,rfl,e.1.symm⟩
  | succ i=>rw [List.getElem?_cons_succ] at e ⊢; exact ih i k v e
theorem vb2 {K:Fg} {H0:Hp} {a:Addr} {l:List (List Int × D)}:ItOk K (Itd a l.length) (l.map λ kv=>tupI kv.1) (λ μ=>μ a=some (.dcl l)) H0:=λ i H μ k m s=>by
 obtain ⟨vs,h,r⟩:=m.dcl a l s
 have hl:=r.len
 refine ⟨λ d e=>?_,λ hl'=>⟨vs,h,hl.symm,by simpa using hl'⟩⟩
 rw [List.getElem?_map] at e
 have hi:i < l.length:=by
  rcases Nat.lt_or_ge i l.length with c | c
  ·exact c
  ·rw [List.getElem?_eq_none c] at e; cases e
 refine ⟨⟨vs,h,hl.symm,hi⟩,λ x H2 y=>?_⟩
 obtain ⟨rfl,kvs,kk,v,b,e1,e2,rfl,e3⟩:=y
 rw [h] at e1
 cases e1
 obtain ⟨t,dd,e4,rfl⟩:=r.get i kk v e2
 rw [e4] at e
 cases e
 exact ⟨Kp.refl _,m,.tup e3 (tp0 t)⟩
noncomputable def isd3 (t:TE3):TI3:=λ ρ μ R=>t ρ μ λ d μ1=>match d with
 | .ref p=>match μ1 p with
  | some (.dcl l)=>R (l.map λ kv=>tupI kv.1) (λ μ=>μ p=some (.dcl l)) μ1
  | _=>False
 | _=>False
theorem se2 {a:Expr} {ta:TE3} (ha:RE X a ta):RI X tg a (isd3 ta):=by
 obtain ⟨va,pa,ra⟩:=ha
 refine ⟨_,sm2 pa,λ σ H R ρ μ R3 s m h k=>ra σ H _ ρ μ _ s m h λ d μ1 v H1 h1 k1 r1 m1=>?_⟩
 split at h1
 ·next p =>
  split at h1
  ·next l e =>
   cases r1
   obtain ⟨vs,hv,rv⟩:=m1.dcl p l e
   refine ⟨p,vs,rfl,hv,?_⟩
   rw [<- rv.len]
   exact k _ _ _ _ _ h1 k1 m1 vb2
  ·exact h1.elim
 ·exact h1.elim
end
end Pv
namespace Pv
open PySem PySem.Spec PySem.W PyProof.Rows L2
noncomputable abbrev T2:=Int × Int
noncomputable def lt2 (a b:T2):Bool:=decide (a.1 < b.1) || (a.1 == b.1 && decide (a.2 < b.2))
noncomputable def IsT2 (h:Heap) (v:Value) (t:T2):Prop:=∃ a o t1 t2 n,v=.ref a /\ h.get? a=some o /\ o.cls=.type "tuple" /\ o.data=.seq #[.int t.1 t1,.int t.2 t2] n
theorem IsT2.one {h:Heap} {v:Value} {t u:T2} (i:IsT2 h v t) (k:IsT2 h v u):t=u:=by
 obtain ⟨a,o,t1,t2,n,rfl,e2,_,e4⟩:=i
 obtain ⟨b,q,u1,u2,m,f1,f2,_,f4⟩:=k
 cases f1
 rw [e2] at f2
 cases f2
 rw [e4] at f4
 obtain ⟨x,y⟩:=t
 obtain ⟨x',y'⟩:=u
 simp only [Data.seq.injEq,Array.mk.injEq,List.cons.injEq,Value.int.injEq] at f4
 obtain ⟨⟨⟨h1,_⟩,⟨h2,_⟩,_⟩,_⟩:=f4
 rw [h1,h2]
theorem yq1 (ts:List T2):Ms.Ord λ i j=>lt2 (ts.getD i (0,0)) (ts.getD j (0,0)) where
 ir:=λ a=>by simp [lt2]
 tr:=λ a b c h k=>by
  simp only [lt2,Bool.or_eq_true,Bool.and_eq_true,decide_eq_true_eq,beq_iff_eq] at h k ⊢
  omega
 ng:=λ a b c h=>by
  simp only [lt2,Bool.or_eq_true,Bool.and_eq_true,decide_eq_true_eq,beq_iff_eq] at h ⊢
  omega
section
variable {prog:Program} {w:World} {A:Around} {E:Value->Shared->Prop} {s:Shared}
theorem yp3 {x y:Value} {a b:T2} {Q:Bool->Shared->Prop} (hx:IsT2 s.heap x a) (hy:IsT2 s.heap y b) (h:Q (lt2 a b) s):wpAny (model prog w) A (keyLt' (tuples' true) x y) Q E s:=by
 obtain ⟨x,ox,t1,t2,n,rfl,ex,_,dx⟩:=hx
 obtain ⟨y,oy,u1,u2,m,rfl,ey,_,dy⟩:=hy
 obtain ⟨a1,a2⟩:=a
 obtain ⟨b1,b2⟩:=b
 refine kat_lt ex dx ey dy ?_
 refine kat_cons (wpAny_eqBool_int ?_)
 by_cases c1:a1=b1
 ·rw [show (a1 == b1)=true from beq_iff_eq.mpr c1]
  refine kat_yes (kat_cons (wpAny_eqBool_int ?_))
  by_cases c2:a2=b2
  ·rw [show (a2 == b2)=true from beq_iff_eq.mpr c2]
   refine kat_yes (kat_nil ?_)
   have e:lt2 (a1,a2) (b1,b2)=false:=by subst c1 c2; simp [lt2]
   rw [e] at h
   exact h
  ·rw [show (a2 == b2)=false from by simpa using c2]
   have e:lt2 (a1,a2) (b1,b2)=decide (a2 < b2):=by subst c1; simp [lt2]
   rw [e] at h
   exact kat_no (kat_one _ _ (lt_int h))
 ·rw [show (a1 == b1)=false from by simpa using c1]
  have e:lt2 (a1,a2) (b1,b2)=decide (a1 < b1):=by simp [lt2,c1]
  rw [e] at h
  exact kat_no (oneLt_int h)
noncomputable def T2s (h:Heap):List Value->List T2->Prop
 | [],[]=>True
 | v :: vs,t :: ts=>IsT2 h v t /\ T2s h vs ts
 | _,_=>False
theorem T2s.kept {h h':Heap} (k:∀ b o,h.get? b=some o->o.cls=.type "tuple" -> h'.get? b=some o):∀ {vs:List Value} {ts:List T2},T2s h vs ts->T2s h' vs ts
 | [],[],_=>trivial
 | [],_ :: _,i=>i.elim
 | _ :: _,[],i=>i.elim
 | v :: vs,t :: ts,i=>by
  obtain ⟨⟨a,o,t1,t2,n,e1,e2,e3,e4⟩,r⟩:=i
  exact ⟨⟨a,o,t1,t2,n,e1,k _ _ e2 e3,e3,e4⟩,T2s.kept k r⟩
theorem T2s.get {h:Heap}:∀ {vs:List Value} {ts:List T2},T2s h vs ts->∀ i,i < vs.length->IsT2 h (vs.getD i .none) (ts.getD i (0,0))
 | [],[],_,i,hi=>absurd hi (Nat.not_lt_zero _)
 | [],_ :: _,z,_,_=>z.elim
 | _ :: _,[],z,_,_=>z.elim
 | v :: vs,t :: ts,z,0,_=>z.1
 | v :: vs,t :: ts,z,i + 1,hi=>T2s.get z.2 i (Nat.lt_of_succ_lt_succ hi)
theorem T2s.firsts {h:Heap}:∀ {vs:List Value} {ts:List T2},T2s h vs ts->∃ fs,KatTups h vs fs /\ fs.length=vs.length /\ ∀ v ∈ fs,∃ i t,v=Value.int i t
 | [],[],_=>⟨[],trivial,rfl,λ _ hv=>nomatch hv⟩
 | [],_ :: _,z=>z.elim
 | _ :: _,[],z=>z.elim
 | v :: vs,t :: ts,z=>by
  obtain ⟨fs,f1,f2,f3⟩:=T2s.firsts z.2
  obtain ⟨a,o,t1,t2,n,rfl,e2,e3,e4⟩:=z.1
  refine ⟨.int t.1 t1 :: fs,KatTups.cons e2 e3 e4 rfl f1,by rw [List.length_cons,List.length_cons,f2],λ x hx=>?_⟩
  rcases List.mem_cons.mp hx with rfl | hx
  ·exact ⟨_,_,rfl⟩
  ·exact f3 x hx
noncomputable abbrev ltI2 (ts:List T2):Nat->Nat->Bool:=λ i j=>lt2 (ts.getD i (0,0)) (ts.getD j (0,0))
theorem ya2 {a:Addr} {vs:List Value} {ts:List T2} {n:Nat} {P:PySem.Fin->Shared->Prop} (ho:s.heap.get? a=some (seqObj "list" vs.toArray n)) (ht:T2s s.heap vs ts) (hz:vs.length<=sizeLine)
    (h:∀ (p:Array Nat) (h':Heap) (c:Nat),p.Perm (List.toArray (List.range vs.length))->Ms.Up (ltI2 ts) p vs.length->(∀ b o,b ≠ a->s.heap.get? b=some o->h'.get? b=some o) ->
     h'.get? a=some (seqObj "list" (outV vs p).toArray c)->P (.done (.ret .none)) { s with heap:=h' }) :
    wpAny (model prog w) A (Builtin.«list.sort» ⟨[.ref a],[]⟩) P E s:=by
 have ha:a < s.heap.objs.size:=Heap.lt_size ho
 obtain ⟨e1,ho1⟩:∃ e1,(s.heap.update a (Obj.mapSeq λ _=>(#[]:Array Value))).get? a=some (seqObj "list" #[] e1):=⟨_,get?_update_seq ho λ _=>#[]⟩
 have kp:∀ b o,b ≠ a->s.heap.get? b=some o->(((s.heap.update a (Obj.mapSeq λ _=>(#[]:Array Value))).push (seqObj "tuple" vs.toArray 0)).push (seqObj "list" #[] 0)).get? b=some o:=λ b o hb e =>
  Heap.get?_push_of_some _ (Heap.get?_push_of_some _ (by rw [Heap.get?_update_ne _ _ _ _ hb]; exact e))
 have ht3:=T2s.kept (h':=((s.heap.update a (Obj.mapSeq λ _=>(#[]:Array Value))).push (seqObj "tuple" vs.toArray 0)).push (seqObj "list" #[] 0)) (λ b o e ec=>kp b o (by intro z; subst z; rw [ho] at e; cases e; exact xi3 ec) e) ht
 have hoN:=Heap.get?_push_of_some (seqObj "list" #[] 0) (Heap.get?_push_of_some (seqObj "tuple" vs.toArray 0) ho1)
 generalize hN:((s.heap.update a (Obj.mapSeq λ _=>(#[]:Array Value))).push (seqObj "tuple" vs.toArray 0)).push (seqObj "list" #[] 0)=hp3 at kp ht3 hoN
 have fin:∀ (p:Array Nat),p.Perm (List.toArray (List.range vs.length))->Ms.Up (ltI2 ts) p vs.length->P (.done (.ret .none)) { s with heap:=hp3.update a (Obj.mapSeq λ _=>(outV vs p).toArray) }:=λ p hp hu=>by
  refine h p _ _ hp hu (λ b o hb e=>by rw [Heap.get?_update_ne _ _ _ _ hb]; exact kp b o hb e) (get?_update_seq hoN λ _=>(outV vs p).toArray)
 have szO:∀ p:Array Nat,p.Perm (List.toArray (List.range vs.length))->(outV vs p).toArray.size<=sizeLine + 1:=λ p hp=>by
  have:=hp.size_eq
  simp at this
  simp
  omega
 rw [list_sort_plain]
 refine wpAny_bind (listItems_at ho rfl (wpAny_bind (listUpdate_at ho rfl ?_ (by simpa using hz) (Nat.zero_le _))))
 refine wpAny_bind (seqEpoch_at ho1 rfl (wpAny_bind (wpAny_newTuple ?_ (by simpa using hz))))
 refine wpAny_bind (wpAny_newList (wpAny_holding ?_) (Nat.zero_le _))
 show wpAny (model prog w) A _ P E { s with heap:=((s.heap.update a (Obj.mapSeq λ _=>(#[]:Array Value))).push (seqObj "tuple" vs.toArray 0)).push (seqObj "list" #[] 0) }
 rw [hN]
 dsimp only
 by_cases c:vs.toArray.size < 2
 ·rw [if_pos c,if_pos c]
  refine wpAny_bind (wpAny_pure ?_)
  rw [StateT.run_pure]
  refine wpAny_bind (wpAny_pure ?_)
  have id1:(arrOf (SortSt.mk' general' (vs.toArray.zip vs.toArray) #[] 7 none)).map (·.2)=(outV vs (List.toArray (List.range vs.length))).toArray:=by
   rw [xq0]
   show (vs.toArray.zip vs.toArray).map (·.2)=vs.toArray
   apply Array.toList_inj.mp
   simp [List.map_snd_zip]
  dsimp only
  rw [id1]
  have pr:=Array.Perm.refl (List.toArray (List.range vs.length))
  refine wpAny_bind (seqEpoch_at hoN rfl (wpAny_bind (listUpdate_at hoN rfl ?_ (Nat.zero_le _) (szO _ pr))))
  simp only [bne_self_eq_false,Bool.false_eq_true,if_false]
  refine wpAny_pure (fin _ pr ?_)
  intro x y hxy hy
  have:x=y:=by simp at c; omega
  subst this
  exact Ms.le_rf (yq1 ts) _
 ·rw [if_neg c,if_neg c]
  have c2:2<=vs.length:=by simp at c; omega
  obtain ⟨fs,f1,f2,f3⟩:=ht3.firsts
  refine wpAny_bind (kat_kind f1 (by omega) (T:=.type "int") (λ v hv=>?_) (by decide) ?_)
  ·obtain ⟨i,t,rfl⟩:=f3 v hv
   exact Looks.of_pure rfl
  show wpAny _ _ _ _ _ _
  rw [show (Value.type "int" != Value.type "tuple")=true by decide]
  refine wpAny_bind (wpAny_mono (Ts.run_idx (vs:=vs) (lt:=ltI2 ts) (s:={ s with heap:=hp3 }) (κ:=tuples' true) (yq1 ts) c2 (λ i j v e1 e2 k=>?_) λ i j x y e1 e2 C hc=>?_) ?_ λ _ _ z=>z)
  ·have l1:=(List.getElem?_eq_some_iff.mp e1).1
   have l2:=(List.getElem?_eq_some_iff.mp e2).1
   have g1:=ht3.get i l1
   have g2:=ht3.get j l2
   rw [List.getD_eq_getElem?_getD,e1] at g1
   rw [List.getD_eq_getElem?_getD,e2] at g2
   have e:=g1.one g2
   show lt2 (ts.getD i _) _=lt2 (ts.getD j _) _ /\ lt2 _ (ts.getD i _)=lt2 _ (ts.getD j _)
   rw [e]
   exact ⟨rfl,rfl⟩
  ·have g1:=ht3.get i (List.getElem?_eq_some_iff.mp e1).1
   have g2:=ht3.get j (List.getElem?_eq_some_iff.mp e2).1
   rw [List.getD_eq_getElem?_getD,e1] at g1
   rw [List.getD_eq_getElem?_getD,e2] at g2
   exact yp3 g1 g2 hc
  ·rintro ⟨⟨⟩,st'⟩ s' ⟨rfl,p,pp,pu,hp1,hp2⟩
   dsimp only
   rw [kat_snds rfl hp1]
   refine wpAny_bind (seqEpoch_at hoN rfl (wpAny_bind (listUpdate_at hoN rfl ?_ (Nat.zero_le _) (szO _ pp))))
   rw [hp2]
   simp only [bne_self_eq_false,Bool.false_eq_true,if_false]
   exact wpAny_pure (fin _ pp pu)
end
section
variable {prog:Program} {w:World} {A:Around} {E:Value->Shared->Prop} {s:Shared}
theorem zl1 {l:Addr} {vs:List Value} {ts:List T2} {Q:Value->Shared->Prop} (hl:s.heap.IsList l vs.toArray) (ht:T2s s.heap vs ts) (h64:vs.length<=sizeLine)
    (h:∀ (p:Array Nat) (h':Heap) (c:Nat),p.Perm (List.toArray (List.range vs.length))->Ms.Up (ltI2 ts) p vs.length->(∀ b o,s.heap.get? b=some o->h'.get? b=some o) ->
     h'.get? (s.heap.objs.size + 1)=some (seqObj "list" (outV vs p).toArray c)->Q (.ref (s.heap.objs.size + 1)) { s with heap:=h' }) :
    wpAny (model prog w) A (call (.builtin "sorted") [.ref l]) Q E s:=by
 have hz:=h64
 refine Calls.call_function_entry kind_sorted plain_sorted entry_sorted (args_sorted1 _) ?_
 unfold Builtin.«sorted»
 refine wpAny_bind (m:=checkCount "sorted" 1 1 _) (wpAny_pure (wpAny_bind (collect_list hl ?_ hz)))
 refine wpAny_bind (wpAny_newList ?_ hz)
 have z1:((s.heap.push (seqObj "list" #[] 0)).update s.heap.objs.size (Obj.mapSeq (· ++ vs.toArray))).objs.size=s.heap.objs.size + 1:=by
  rw [Heap.size_update,size_push']
 have kp:∀ b o,s.heap.get? b=some o->(((s.heap.push (seqObj "list" #[] 0)).update s.heap.objs.size (Obj.mapSeq (· ++ vs.toArray))).push (seqObj "list" vs.toArray 0)).get? b=some o:=λ b o q=>by
  have hb:b < s.heap.objs.size:=Heap.lt_size q
  exact Heap.get?_push_of_some _ (by rw [Heap.get?_update_ne _ _ _ _ (Nat.ne_of_lt hb)]; exact Heap.get?_push_of_some _ q)
 have zo:(((s.heap.push (seqObj "list" #[] 0)).update s.heap.objs.size (Obj.mapSeq (· ++ vs.toArray))).push (seqObj "list" vs.toArray 0)).get? (s.heap.objs.size + 1)=some (seqObj "list" vs.toArray 0):=by
  have q:=Heap.get?_push_size ((s.heap.push (seqObj "list" #[] 0)).update s.heap.objs.size (Obj.mapSeq (· ++ vs.toArray))) (o:=seqObj "list" vs.toArray 0) rfl
  rw [z1] at q
  exact q
 show wpAny _ _ _ _ _ { s with heap:=((s.heap.push (seqObj "list" #[] 0)).update s.heap.objs.size (Obj.mapSeq (· ++ vs.toArray))).push (seqObj "list" vs.toArray 0) }
 rw [z1]
 have tt:=T2s.kept (λ b o e _=>kp b o e) ht
 generalize ((s.heap.push (seqObj "list" #[] 0)).update s.heap.objs.size (Obj.mapSeq (· ++ vs.toArray))).push (seqObj "list" vs.toArray 0)=hp at kp zo tt
 refine wpAny_bind (wpAny_holding (wpAny_call_entry slot_list_sort ⟨_,zo,rfl⟩ entry_list_sort (ya2 (s:={ s with heap:=hp }) zo tt h64 λ p h' c a1 a2 a3 a4=>⟨_,rfl,?_⟩) (args_list_sort _)))
 refine wpAny_pure ⟨_,rfl,h p h' c a1 a2 (λ b o q=>a3 b o (Nat.ne_of_lt (Nat.lt_succ_of_lt (Heap.lt_size q))) (kp b o q)) a4⟩
end
noncomputable def V2s (K:Fg) (H:Hp):List V->List T2->Prop
 | [],[]=>True
 | v :: vs,t :: ts=>(∃ a,v=.ref a /\ H a=some (.tup [.int t.1,.int t.2])) /\ V2s K H vs ts
 | _,_=>False
section
variable {X:Cx}
theorem tz0 {pins:List (Addr × Obj)} {σ:L2.St} {H:Hp} {s:Shared} (I:Inv X pins σ H s):∀ {vs:List V} {ts:List T2} {us:List Value},V2s X.K H vs ts->Vals vs us->T2s s.heap us ts
 | [],[],_,_,.nil=>trivial
 | [],_ :: _,_,z,_=>z.elim
 | _ :: _,[],_,z,_=>z.elim
 | v :: vs,t :: ts,_,z,.cons r rs=>by
  obtain ⟨⟨a,rfl,hq⟩,z⟩:=z
  refine ⟨?_,tz0 I z rs⟩
  cases r
  obtain ⟨its,rv,⟨o,p1,p2,n,p3⟩,_⟩:=I.tuple (SqT.of hq)
  cases rv with
  | cons r1 rv =>
   cases rv with
   | cons r2 rv =>
    cases rv
    obtain ⟨t1,rfl⟩:=r1
    obtain ⟨t2,rfl⟩:=r2
    exact ⟨a,o,t1,t2,n,rfl,p1,p2,p3⟩
noncomputable def xd3 (K:Fg):List V->Hp->VK->Prop:=λ xs H Q=>∃ p vs ts,xs=[.ref p] /\ SqL K H p vs /\ V2s K H vs ts /\ vs.length<=sizeLine ∧
 ∀ q:Array Nat,q.Perm (List.toArray (List.range vs.length))->Ms.Up (ltI2 ts) q vs.length->∀ r,H r=none->Q (.ref r) (upd H r (.lst (q.toList.map λ i=>vs.getD i .non)))
theorem xj1:CallR X (.builtin "sorted") (xd3 X.K):=by
 intro pins s σ H xs us Q I r h
 obtain ⟨p,vs,ts,rfl,hq,h3,h64,k⟩:=h
 cases r with
 | cons r rr =>
  cases rr
  cases r
  obtain ⟨its,rv,pl,hz⟩:=I.list hq
  have hl:=rv.length
  refine zl1 pl.isList (tz0 I h3 rv) (by omega) λ q h' c a1 a2 a3 a4=>?_
  have a1':q.Perm (List.toArray (List.range vs.length)):=by rw [hl]; exact a1
  have lt':∀ i ∈ q.toList,i < vs.length:=λ i hi=>by
   have e:i ∈ List.toArray (List.range vs.length):=a1'.mem_iff.mp (by simpa using hi)
   simpa using e
  have sz:q.toList.length=vs.length:=by have:=a1'.size_eq; simpa using this
  have nw:s.heap.objs.size<=s.heap.objs.size + 1:=Nat.le_succ _
  refine ⟨.ref _,_,I.laid (t':=s.toks) a3 nw (show ObjOk X.prog X.w _ h' _ (.lst (q.toList.map λ i=>vs.getD i .non)) from ⟨by rw [List.length_map,sz]; exact hz,_,c,ui0 rv _ lt',a4⟩),rfl,k q a1' (by rw [hl]; exact a2) _ (I.hok.fresh nw)⟩
end
noncomputable def vs0 (t:T2):D:=.tup [.int t.1,.int t.2]
noncomputable def t2?:D->Option T2
 | .tup [.int a,.int b]=>some (a,b)
 | _=>none
noncomputable def t2s?:List D->Option (List T2)
 | []=>some []
 | d :: r=>match t2? d with
  | some t=>match t2s? r with
   | some ts=>some (t :: ts)
   | none=>none
  | none=>none
theorem tk1:∀ ts:List T2,t2s? (ts.map vs0)=some ts
 | []=>rfl
 | t :: ts=>by simp only [List.map_cons,t2s?,vs0,t2?,tk1 ts]
theorem xp3 {d:D} {t:T2} (h:t2? d=some t):d=vs0 t:=by
 unfold t2? at h
 split at h
 ·cases h; rfl
 ·cases h
theorem ve2:∀ {l:List D} {ts:List T2},t2s? l=some ts->l=ts.map vs0
 | [],ts,h=>by cases h; rfl
 | d :: r,ts,h=>by
  unfold t2s? at h
  split at h
  ·next t e =>
   split at h
   ·next us e2=>cases h; rw [xp3 e,ve2 e2]; rfl
   ·cases h
  ·cases h
theorem ze2 {K:Fg} {H:Hp}:∀ {ts:List T2} {vs:List V},RelDs K H (ts.map vs0) vs->V2s K H vs ts
 | [],_,.nil=>trivial
 | t :: ts,_,.cons r rs=>by
  refine ⟨?_,ze2 rs⟩
  cases r with
  | tup hq r2 =>
   cases r2 with
   | cons x r2 =>
    cases r2 with
    | cons y r2 =>
     cases r2
     cases x
     cases y
     exact ⟨_,rfl,hq⟩
theorem sm0 {K:Fg} {H:Hp} {ts:List T2} {vs:List V} (r:RelDs K H (ts.map vs0) vs):∀ (l:List Nat),(∀ i ∈ l,i < vs.length)->RelDs K H ((l.map λ i=>ts.getD i (0,0)).map vs0) (l.map λ i=>vs.getD i .non)
 | [],_=>.nil
 | i :: l,h=>by
  refine .cons ?_ (sm0 r l λ j hj=>h j (List.mem_cons_of_mem _ hj))
  have hi:=h i (List.mem_cons_self ..)
  have hl:=r.length
  rw [List.length_map] at hl
  obtain ⟨v,e,z⟩:=r.get (i:=i) (d:=vs0 (ts.getD i (0,0))) (by rw [List.getElem?_map,List.getD_eq_getElem?_getD,List.getElem?_eq_getElem (by omega)]; rfl)
  dsimp only
  rw [show vs.getD i .non=v by rw [List.getD_eq_getElem?_getD,e]; rfl]
  exact z
noncomputable def le2 (a b:T2):Prop:=lt2 b a=false
theorem zf1 {ts:List T2} {q:Array Nat} (h:q.Perm (List.toArray (List.range ts.length))):(q.toList.map λ i=>ts.getD i (0,0)).Perm ts:=by
 have h1:q.toList.Perm (List.range ts.length):=h.toList
 refine (h1.map _).trans (List.Perm.of_eq ?_)
 apply List.ext_getElem
 ·simp
 ·intro i h1 h2
  simp [List.getD_eq_getElem?_getD,List.getElem?_eq_getElem h2]
theorem tx1 {ts:List T2} {q:Array Nat} (h:q.Perm (List.toArray (List.range ts.length))) (u:Ms.Up (ltI2 ts) q ts.length):(q.toList.map λ i=>ts.getD i (0,0)).Pairwise le2:=by
 have sz:q.size=ts.length:=by have:=h.size_eq; simpa using this
 rw [List.pairwise_iff_getElem]
 intro i j hi hj hij
 simp only [List.length_map,Array.length_toList] at hi hj
 have z:=u i j (Nat.le_of_lt hij) (by omega)
 simp only [List.getElem_map,Array.getElem_toList]
 have e1:Ms.at' q i=q[i]:=by show q.getD i 0=_; simp [Array.getD,hi]
 have e2:Ms.at' q j=q[j]:=by show q.getD j 0=_; simp [Array.getD,hj]
 rw [e1,e2] at z
 exact z
noncomputable def yf1:C3:=λ ds μ Q=>match ds with
 | [.ref p]=>match μ p with
  | some (.lst l)=>match t2s? l with
   | some ts=>ts.length<=sizeLine /\ ∀ us:List T2,us.Perm ts->us.Pairwise le2->∀ r,μ r=none->Q (.ref r) (updM μ r (.lst (us.map vs0)))
   | none=>False
  | _=>False
 | _=>False
section
variable {X:Cx}
theorem yu0:RC X (.builtin "sorted") yf1:=by
 refine ⟨_,xj1,λ xs vs H Q μ Q3 m r h k=>?_⟩
 unfold yf1 at h
 split at h
 ·next p =>
  split at h
  ·next l e =>
   split at h
   ·next ts e2 =>
    cases r with
    | cons r1 r2 =>
     cases r2
     cases r1
     have el:=ve2 e2
     subst el
     obtain ⟨us,hv,rv⟩:=m p _ e
     have hl:=rv.length
     rw [List.length_map] at hl
     refine ⟨p,us,ts,rfl,SqL.of hv,ze2 rv,by omega,λ q a1 a2 r hr=>?_⟩
     rw [<- hl] at a1 a2
     have lt':∀ i ∈ q.toList,i < us.length:=λ i hi=>by
      have e:i ∈ List.toArray (List.range ts.length):=a1.mem_iff.mp (by simpa using hi)
      have e':i < ts.length:=by simpa using e
      omega
     exact k _ _ _ _ (h.2 _ (zf1 a1) (tx1 a1 a2) r (m.free hr)) (Kp.new hr) (.ref r) (m.newL hr (sm0 rv _ lt'))
   ·exact h.elim
  ·exact h.elim
 ·exact h.elim
end
end Pv
namespace Pv
open PySem PySem.Spec PyProof.Rows L2
noncomputable def gdf3 (to:TE3) (t:TA3):TE3:=λ ρ μ Q=>to ρ μ λ x μ1=>match x with
 | .ref p=>match μ1 p with
  | some (.dcl _)=>t ρ μ1 λ ds μ2=>match ds with
   | [y,d]=>match keyI y,μ2 p with
    | some k,some (.dcl kvs)=>(match valL kvs k with
     | some v=>Q v μ2
     | none=>Q d μ2)
    | _,_=>False
   | _=>False
  | _=>False
 | _=>False
noncomputable def rGd:V->List V->Hp->VK->Prop:=λ x vs H Q=>∃ a kvs k b v,x=.ref a /\ vs=[.ref b,v] /\ H a=some (.dT kvs) /\ H b=some (.tup (k.map kV)) ∧
 (∀ u,valV kvs k=some u->Q u H) /\ (valV kvs k=none->Q v H)
section
variable {X:Cx}
theorem tu3 (hu:X.A.units + 1 < cLine):MtM X "dict.get" rGd:=by
 intro pins s σ H x vs v us Q I rx rv h
 obtain ⟨d,kvs,k,b,v0,rfl,rfl,e,eb,q1,q2⟩:=h
 cases rx
 cases rv with
 | cons r1 r2 =>
 cases r2 with
 | cons r2 r3 =>
 cases r3
 rename_i u1 u2
 cases (show u1=Value.ref b from r1)
 refine um3 hu I (DGet.t e eb) rfl r2 λ w' s' I' rw'=>?_
 cases ev:valV kvs k with
 | none=>exact ⟨v0,H,I',by rw [ev] at rw'; exact rw',q2 ev⟩
 | some w''=>exact ⟨w'',H,I',by rw [ev] at rw'; exact rw',q1 _ ev⟩
variable {o e:Expr} {es:List Expr} {to:TE3} {t:TA3} {apos cpos:Pos}
theorem va3 (hu:X.A.units + 64 < cLine) (ho:RE X o to) (ha:RA X (e :: es) t) (hbase:attributeBase o "get" X.env (eval o X.env)=eval o X.env:=by rfl)
    (hfew:((backTo cpos (starEach (e :: es) X.env)).all (λ x=>!x.1) && (backToKw cpos (keywordEach [] X.env)).all (λ x=>x.1.isSome)
     && decide ((e :: es).length + ([]:List Keyword).length + (if ([]:List Keyword).isEmpty then 0 else 1) < 30))=true:=by rfl)
    (hline:(apos.endLine == cpos.line)=true:=by rfl) (hs:starEach (e :: es) X.env=(false,eval e X.env) :: starEach es X.env:=by rfl) (hplain:(backTo cpos (starEach es X.env)).any (·.1)=false:=by rfl) :
    RE X (.Call (.Attribute o "get" apos) (e :: es) [] cpos) (gdf3 to t):=by
 obtain ⟨va,pa,ra⟩:=ho
 obtain ⟨vb,pb,rb⟩:=ha
 refine ⟨_,sn2 PySem.F.plainAttrs_dict PySem.F.slot_dict_get PySem.F.type_dict_get (tu3 (by omega)) pa pb hbase hfew hline hs hplain,λ σ H Q ρ μ Q3 s m h k=>ra σ H _ ρ μ _ s m h λ x μ1 v H1 h1 k1 r1 m1=>?_⟩
 split at h1
 ·next p =>
  split at h1
  ·next kvs0 e0 =>
   cases r1
   obtain ⟨ws0,hw0,_⟩:=m1.dcl p kvs0 e0
   refine ⟨.inr (.inr (.inl ⟨rfl,.inr ⟨ws0,hw0⟩⟩)),rb σ H1 _ ρ μ1 _ (s.mono k1) m1 h1 λ ds μ2 vs H2 h2 k2 r2 m2=>?_⟩
   split at h2
   ·next y d =>
    cases r2 with
    | cons ry r2 =>
    cases r2 with
    | cons rd r2 =>
    cases r2
    split at h2
    ·next kk kvs ek e =>
     obtain ⟨ws,hw,rk⟩:=m2.dcl p kvs e
     obtain ⟨b,rfl,hb⟩:=tn0 ry ek
     refine ⟨p,ws,kL kk,b,_,rfl,rfl,hw,hb,λ u eu=>?_,λ eu=>?_⟩
     ·rcases rk.val (t:=kk) with ⟨_,z2⟩ | ⟨d',w',z1,z2,rd'⟩
      ·rw [eu] at z2; cases z2
      ·rw [eu] at z2; cases z2; rw [z1] at h2; exact k _ _ _ _ h2 (k1.trans k2) rd' m2
     ·rcases rk.val (t:=kk) with ⟨z1,_⟩ | ⟨d',w',_,z2,_⟩
      ·rw [z1] at h2; exact k _ _ _ _ h2 (k1.trans k2) rd m2
      ·rw [eu] at z2; cases z2
    ·exact h2.elim
   ·exact h2.elim
  ·exact h1.elim
 ·exact h1.elim
end
end Pv
namespace Pv
open PySem PySem.Spec PyProof.Rows L2
section
variable {X:Cx} {pos pos':Pos}
end
end Pv
namespace L2
open PySem PySem.Spec PyProof.Rows
section
variable {X:Cx} {tg:Expr}
end
end L2
namespace Pv
open PySem L2
section
variable {X:Cx} {a b c tg:Expr} {ta tb tc:TE3} {pos:Pos}
end
end Pv
namespace Pv
open PySem PySem.Spec PyProof.Rows L2
open PySem.AutoSeq1 (wpAny_loadPart')
theorem xj3 (p q:Addr) (a b:T3) (t1 t2 t3 u1 u2 u3:Tok) (n m:Nat) (dd dd2:Option Addr) (sl sl2:Array (Option Value)) :
    Meets (Builtin.«tuple.__lt__» ⟨[.ref p,.ref q],[]⟩) (λ A R s=>s.heap.get? p=some { cls:=.type "tuple",dict:=dd,data:=.seq #[.int a.1 t1,.int a.2.1 t2,.int a.2.2 t3] n,slots:=sl } /\ s.heap.get? q=some { cls:=.type "tuple",dict:=dd2,data:=.seq #[.int b.1 u1,.int b.2.1 u2,.int b.2.2 u3] m,slots:=sl2 } ∧
     R (.ok (.ret (.bool (lt3 a b)))) s) :=
 .of_wp λ prog w A R s h=>by
  obtain ⟨hp,g,dr,tk,os⟩:=s; obtain ⟨hl,hb,h⟩:=h
  obtain ⟨a1,a2,a3⟩:=a
  obtain ⟨b1,b2,b3⟩:=b
  have f2:=AutoSeq1.sub_tuple_tuple
  have lt:∀ (x y:Int) (tx ty:Tok) {Q:Value->Shared->Prop} {E:Value->Shared->Prop} {A:Around} {s:Shared},Q (.bool (decide (x < y))) s->wpAny (model prog w) A (richCompare .Lt (.int x tx) (.int y ty)) Q E s:=λ x y tx ty Q E A s hq=>wpAny_lt_int hq
  have eqb:∀ (x y:Int) (tx ty:Tok) {Q:Bool->Shared->Prop} {E:Value->Shared->Prop} {A:Around} {s:Shared},Q (x == y) s->wpAny (model prog w) A (eqBool (.int x tx) (.int y ty)) Q E s:=λ x y tx ty Q E A s hq=>wpAny_eqBool_int hq
  wp_walk using wpAny_loadPart' hl,wpAny_loadPart' hb,eqb a1 b1 t1 u1
  by_cases h1:a1=b1
  ·rw [show (a1 == b1)=true by simpa using h1]
   wp_walk using eqb a2 b2 t2 u2
   by_cases h2:a2=b2
   ·rw [show (a2 == b2)=true by simpa using h2]
    wp_walk using eqb a3 b3 t3 u3
    by_cases h3:a3=b3
    ·rw [show (a3 == b3)=true by simpa using h3]
     wp_walk
     have h':R (.ok (.ret (.bool false))) ⟨hp,g,dr,tk,os⟩:=by simpa [lt3,h1,h2,h3] using h
     exact ⟨_,rfl,h'⟩
    ·rw [show (a3 == b3)=false by simpa using h3]
     wp_walk using lt a3 b3 t3 u3
     exact ⟨_,rfl,by subst h1 h2; simpa [lt3] using h⟩
   ·rw [show (a2 == b2)=false by simpa using h2]
    wp_walk using lt a2 b2 t2 u2
    exact ⟨_,rfl,by subst h1; simpa [lt3,show (a2 == b2)=false by simpa using h2,show (b2 == a2)=false by simpa using Ne.symm h2] using h⟩
  ·rw [show (a1 == b1)=false by simpa using h1]
   wp_walk using lt a1 b1 t1 u1
   exact ⟨_,rfl,by simpa [lt3,show (a1 == b1)=false by simpa using h1,show (b1 == a1)=false by simpa using Ne.symm h1] using h⟩
theorem sk3 (p q:Addr) (a b:T3) (t1 t2 t3 u1 u2 u3:Tok) (n m:Nat) (dd dd2:Option Addr) (sl sl2:Array (Option Value)) :
    Meets (Builtin.«tuple.__gt__» ⟨[.ref p,.ref q],[]⟩) (λ A R s=>s.heap.get? p=some { cls:=.type "tuple",dict:=dd,data:=.seq #[.int a.1 t1,.int a.2.1 t2,.int a.2.2 t3] n,slots:=sl } /\ s.heap.get? q=some { cls:=.type "tuple",dict:=dd2,data:=.seq #[.int b.1 u1,.int b.2.1 u2,.int b.2.2 u3] m,slots:=sl2 } ∧
     R (.ok (.ret (.bool (lt3 b a)))) s) :=
 .of_wp λ prog w A R s h=>by
  obtain ⟨hp,g,dr,tk,os⟩:=s; obtain ⟨hl,hb,h⟩:=h
  obtain ⟨a1,a2,a3⟩:=a
  obtain ⟨b1,b2,b3⟩:=b
  have f2:=AutoSeq1.sub_tuple_tuple
  have lt:∀ (x y:Int) (tx ty:Tok) {Q:Value->Shared->Prop} {E:Value->Shared->Prop} {A:Around} {s:Shared},Q (.bool (decide (y < x))) s->wpAny (model prog w) A (richCompare .Gt (.int x tx) (.int y ty)) Q E s:=λ x y tx ty Q E A s hq=>gt_int hq
  have eqb:∀ (x y:Int) (tx ty:Tok) {Q:Bool->Shared->Prop} {E:Value->Shared->Prop} {A:Around} {s:Shared},Q (x == y) s->wpAny (model prog w) A (eqBool (.int x tx) (.int y ty)) Q E s:=λ x y tx ty Q E A s hq=>wpAny_eqBool_int hq
  wp_walk using wpAny_loadPart' hl,wpAny_loadPart' hb,eqb a1 b1 t1 u1
  by_cases h1:a1=b1
  ·rw [show (a1 == b1)=true by simpa using h1]
   wp_walk using eqb a2 b2 t2 u2
   by_cases h2:a2=b2
   ·rw [show (a2 == b2)=true by simpa using h2]
    wp_walk using eqb a3 b3 t3 u3
    by_cases h3:a3=b3
    ·rw [show (a3 == b3)=true by simpa using h3]
     wp_walk
     have h':R (.ok (.ret (.bool false))) ⟨hp,g,dr,tk,os⟩:=by simpa [lt3,h1,h2,h3] using h
     exact ⟨_,rfl,h'⟩
    ·rw [show (a3 == b3)=false by simpa using h3]
     wp_walk using lt a3 b3 t3 u3
     exact ⟨_,rfl,by subst h1 h2; simpa [lt3] using h⟩
   ·rw [show (a2 == b2)=false by simpa using h2]
    wp_walk using lt a2 b2 t2 u2
    exact ⟨_,rfl,by subst h1; simpa [lt3,show (a2 == b2)=false by simpa using h2,show (b2 == a2)=false by simpa using Ne.symm h2] using h⟩
  ·rw [show (a1 == b1)=false by simpa using h1]
   wp_walk using lt a1 b1 t1 u1
   exact ⟨_,rfl,by simpa [lt3,show (a1 == b1)=false by simpa using h1,show (b1 == a1)=false by simpa using Ne.symm h1] using h⟩
theorem tz1 {prog:Program} {w:World} {A:Around} {E:Value->Shared->Prop} {s:Shared} {p q:Addr} {a b:T3} {t1 t2 t3 u1 u2 u3:Tok} {Q:Value->Shared->Prop} (hh:A.handled=none) (hu:A.units + 64 < cLine) (hp:IsTup s.heap p #[.int a.1 t1,.int a.2.1 t2,.int a.2.2 t3]) (hq:IsTup s.heap q #[.int b.1 u1,.int b.2.1 u2,.int b.2.2 u3])
    (h:∀ h' tk,(∀ c o,s.heap.get? c=some o->h'.get? c=some o)->Q (if lt3 b a then .ref q else .ref p) { s with heap:=h',toks:=tk }) :
    wpAny (model prog w) A (call (.builtin "min") [.ref p,.ref q]) Q E s:=by
 refine vh1 hh (λ h' tk Q E hk hq'=>?_) h
 obtain ⟨⟨cp,dp,datp,slp⟩,ep,hcp,np,hdp⟩:=hp
 obtain ⟨⟨cq,dq,datq,slq⟩,eq,hcq,nq,hdq⟩:=hq
 dsimp only at hcp hdp hcq hdq
 subst hcp hdp hcq hdq
 refine richCompare_meets_room (T := "tuple") (s:={ s with heap:=h',toks:=tk }) ⟨_,hk _ _ eq,rfl⟩ ⟨_,hk _ _ ep,rfl⟩ F.slot_tuple_lt F.entry_tuple_lt (F.args_tuple_lt_2 _ _) (xj3 q p b a u1 u2 u3 t1 t2 t3 nq np dq dp slq slp) ⟨hk _ _ eq,hk _ _ ep,by simp,hq'⟩ ?_
 have:A.in1.units=A.units + 1:=rfl
 omega
noncomputable def uh1:C3:=λ ds μ Q=>match ds with
 | [.tup [.int a,.int b,.int c],.tup [.int d,.int e,.int f]]=>Q (encT (if lt3 (d,e,f) (a,b,c) then (d,e,f) else (a,b,c))) μ
 | _=>False
theorem wu1 {X:Cx} (hc:X.calm=true) (hu:X.A.units + 64 < cLine):CallR X (.builtin "min") (λ xs H Q=>∃ (p q:Addr) (a b:T3),xs=[.ref p,.ref q] /\ SqT X.K H p [.int a.1,.int a.2.1,.int a.2.2] /\ SqT X.K H q [.int b.1,.int b.2.1,.int b.2.2] /\ Q (.ref (if lt3 b a then q else p)) H):=by
 intro pins s σ H xs us Q I r h
 obtain ⟨p,q,a,b,rfl,hp,hq,k⟩:=h
 obtain ⟨u,w',rfl,e1,e2⟩:=uw1 r
 cases e1
 cases e2
 obtain ⟨its,rv,pp,hz⟩:=I.tuple hp
 obtain ⟨its2,rv2,pp2,hz2⟩:=I.tuple hq
 obtain ⟨v1,v2,v3,rfl,⟨t1,rfl⟩,⟨t2,rfl⟩,⟨t3,rfl⟩⟩:=ue1 rv
 obtain ⟨v4,v5,v6,rfl,⟨t4,rfl⟩,⟨t5,rfl⟩,⟨t6,rfl⟩⟩:=ue1 rv2
 refine tz1 (I.ok.hd hc) hu pp pp2 λ h' tk kk=>⟨_,H,I.kept kk,?_,k⟩
 cases lt3 b a
 ·exact rfl
 ·exact rfl
theorem wd3 {X:Cx} (hc:X.calm=true) (hu:X.A.units + 64 < cLine):RC X (.builtin "min") uh1:=by
 refine ⟨_,wu1 hc hu,λ xs vs H Q μ Q3 m r h k=>?_⟩
 unfold uh1 at h
 split at h
 ·next a b c d e f =>
  cases r with
  | cons r1 r2 =>
  cases r2 with
  | cons r2 r3 =>
  cases r3
  cases r1 with
  | tup hq rs =>
  cases r2 with
  | tup hq2 rs2 =>
  cases rs with
  | cons x1 rs =>
  cases rs with
  | cons x2 rs =>
  cases rs with
  | cons x3 rs =>
  cases rs
  cases rs2 with
  | cons y1 rs2 =>
  cases rs2 with
  | cons y2 rs2 =>
  cases rs2 with
  | cons y3 rs2 =>
  cases rs2
  cases x1; cases x2; cases x3; cases y1; cases y2; cases y3
  rename_i p q
  refine ⟨p,q,(a,b,c),(d,e,f),rfl,(SqT.of hq),(SqT.of hq2),k _ _ _ _ h (Kp.refl _) ?_ m⟩
  cases lt3 (d,e,f) (a,b,c)
  ·exact .tup hq (.cons (.int _) (.cons (.int _) (.cons (.int _) .nil)))
  ·exact .tup hq2 (.cons (.int _) (.cons (.int _) (.cons (.int _) .nil)))
 ·exact h.elim
theorem sz1 {prog:Program} {w:World} {A:Around} {E:Value->Shared->Prop} {s:Shared} {p q:Addr} {a b:T3} {t1 t2 t3 u1 u2 u3:Tok} {Q:Value->Shared->Prop} (hh:A.handled=none) (hu:A.units + 64 < cLine) (hp:IsTup s.heap p #[.int a.1 t1,.int a.2.1 t2,.int a.2.2 t3]) (hq:IsTup s.heap q #[.int b.1 u1,.int b.2.1 u2,.int b.2.2 u3])
    (h:∀ h' tk,(∀ c o,s.heap.get? c=some o->h'.get? c=some o)->Q (if lt3 a b then .ref q else .ref p) { s with heap:=h',toks:=tk }) :
    wpAny (model prog w) A (call (.builtin "max") [.ref p,.ref q]) Q E s:=by
 refine th1 hh (λ h' tk Q E hk hq'=>?_) h
 obtain ⟨⟨cp,dp,datp,slp⟩,ep,hcp,np,hdp⟩:=hp
 obtain ⟨⟨cq,dq,datq,slq⟩,eq,hcq,nq,hdq⟩:=hq
 dsimp only at hcp hdp hcq hdq
 subst hcp hdp hcq hdq
 refine richCompare_meets_room (T := "tuple") (s:={ s with heap:=h',toks:=tk }) ⟨_,hk _ _ eq,rfl⟩ ⟨_,hk _ _ ep,rfl⟩ F.slot_tuple_gt F.entry_tuple_gt (F.args_tuple_gt_2 _ _) (sk3 q p b a u1 u2 u3 t1 t2 t3 nq np dq dp slq slp) ⟨hk _ _ eq,hk _ _ ep,by simp,hq'⟩ ?_
 have:A.in1.units=A.units + 1:=rfl
 omega
noncomputable def sh1:C3:=λ ds μ Q=>match ds with
 | [.tup [.int a,.int b,.int c],.tup [.int d,.int e,.int f]]=>Q (encT (if lt3 (a,b,c) (d,e,f) then (d,e,f) else (a,b,c))) μ
 | _=>False
theorem vu1 {X:Cx} (hc:X.calm=true) (hu:X.A.units + 64 < cLine):CallR X (.builtin "max") (λ xs H Q=>∃ (p q:Addr) (a b:T3),xs=[.ref p,.ref q] /\ SqT X.K H p [.int a.1,.int a.2.1,.int a.2.2] /\ SqT X.K H q [.int b.1,.int b.2.1,.int b.2.2] /\ Q (.ref (if lt3 a b then q else p)) H):=by
 intro pins s σ H xs us Q I r h
 obtain ⟨p,q,a,b,rfl,hp,hq,k⟩:=h
 obtain ⟨u,w',rfl,e1,e2⟩:=uw1 r
 cases e1
 cases e2
 obtain ⟨its,rv,pp,hz⟩:=I.tuple hp
 obtain ⟨its2,rv2,pp2,hz2⟩:=I.tuple hq
 obtain ⟨v1,v2,v3,rfl,⟨t1,rfl⟩,⟨t2,rfl⟩,⟨t3,rfl⟩⟩:=ue1 rv
 obtain ⟨v4,v5,v6,rfl,⟨t4,rfl⟩,⟨t5,rfl⟩,⟨t6,rfl⟩⟩:=ue1 rv2
 refine sz1 (I.ok.hd hc) hu pp pp2 λ h' tk kk=>⟨_,H,I.kept kk,?_,k⟩
 cases lt3 a b
 ·exact rfl
 ·exact rfl
theorem vd3 {X:Cx} (hc:X.calm=true) (hu:X.A.units + 64 < cLine):RC X (.builtin "max") sh1:=by
 refine ⟨_,vu1 hc hu,λ xs vs H Q μ Q3 m r h k=>?_⟩
 unfold sh1 at h
 split at h
 ·next a b c d e f =>
  cases r with
  | cons r1 r2 =>
  cases r2 with
  | cons r2 r3 =>
  cases r3
  cases r1 with
  | tup hq rs =>
  cases r2 with
  | tup hq2 rs2 =>
  cases rs with
  | cons x1 rs =>
  cases rs with
  | cons x2 rs =>
  cases rs with
  | cons x3 rs =>
  cases rs
  cases rs2 with
  | cons y1 rs2 =>
  cases rs2 with
  | cons y2 rs2 =>
  cases rs2 with
  | cons y3 rs2 =>
  cases rs2
  cases x1; cases x2; cases x3; cases y1; cases y2; cases y3
  rename_i p q
  refine ⟨p,q,(a,b,c),(d,e,f),rfl,(SqT.of hq),(SqT.of hq2),k _ _ _ _ h (Kp.refl _) ?_ m⟩
  cases lt3 (a,b,c) (d,e,f)
  ·exact .tup hq (.cons (.int _) (.cons (.int _) (.cons (.int _) .nil)))
  ·exact .tup hq2 (.cons (.int _) (.cons (.int _) (.cons (.int _) .nil)))
 ·exact h.elim
end Pv
namespace L2
open PySem PySem.Spec PyProof.Rows
theorem Inv.turnedL {X:Cx} {pins:List (Addr × Obj)} {σ:St} {H:Hp} {s:Shared} {h':Heap} {t':Nat} {fp:List Addr} (I:Inv X pins σ H s) (k:∀ b o,b ∉ fp->s.heap.get? b=some o->h'.get? b=some o) (f:∀ b ∈ fp,FpOk X pins H b):Inv X pins σ H { s with heap:=h',toks:=t' }:=by
 refine I.step (g':=s.gens) (d':=s.drawn) (ch:=fp) (λ b hb=>?_) (λ b o _ _ hc e _=>k b o hc e) (λ b o _ _ hc e _=>⟨o.slots,k b o hc e⟩) (λ _ _ _ _ n=>n)
  (λ b o hc e=>⟨o,k b o hc e⟩) (λ _ _ e=>e) (λ _ _ _ e=>e) (λ b ps e=>⟨#[],by rw [e]; simp⟩) (λ m hm=>?_) (λ b u e=>?_) I.bare
 ·obtain ⟨f0,f1,f2,f3,f4,f5⟩:=f b hb
  exact ⟨f3,f1,f4,f5⟩
 ·obtain ⟨o,es,ep,ho,r⟩:=hm
  exact ⟨o,es,ep,k _ o (λ z=>(f _ z).2.1 rfl) ho,r⟩
 ·refine (I.hok b u e).stay (λ c v hc q=>k c v (λ z=>?_) q) (λ _ q=>q) λ _ _ q=>q
  have hz:=(f c z).1
  rcases hc with y | y
  ·rw [y] at hz; rw [hz] at e; cases e
  ·rw [hz] at y; cases y
noncomputable def Itz (K:PySem.W.Frag) (a b:Addr):It :=
 ⟨λ i H=>∃ xs ys x y,SqL K H a xs /\ SqL K H b ys /\ xs[i]?=some x /\ ys[i]?=some y,
  λ i H v H'=>∃ T x y,H T=none /\ H'=upd H T (.tup [x,y]) /\ v=.ref T /\ (∀ xs,SqL K H a xs->xs[i]?=some x) /\ ∀ ys,SqL K H b ys->ys[i]?=some y,
  λ i H=>∃ xs ys,SqL K H a xs /\ SqL K H b ys /\ xs.length<=i⟩
noncomputable def vw3 (z TI TO i1 i2 a b:Addr) (i:Nat) (h:Heap):Prop:=IsZip h z TI TO .none /\ IsPair h TI (.ref i1) (.ref i2) /\ (∃ x y,IsPair h TO x y) /\ h.IsListIter i1 a i /\ h.IsListIter i2 b i
theorem tw1 {P:Program} {w:World} {K:PySem.W.Frag} {es:List Expr} {kt:Nat} {tp:Pos} {z TI TO i1 i2 a b:Addr} (D:ZipApart z TI TO i1 i2 a b):Turn P w K (.Tuple es kt tp) (Itz K a b) [z,TI,TO,i1,i2] z (vw3 z TI TO i1 i2 a b) where
 mem:=by simp
 obj:=λ i h st c hc=>by
  obtain ⟨hz,hI,⟨x,y,hO⟩,⟨o1,e1,c1,d1⟩,⟨o2,e2,c2,d2⟩⟩:=st
  simp only [List.mem_cons,List.not_mem_nil,or_false] at hc
  rcases hc with rfl | rfl | rfl | rfl | rfl
  ·exact ⟨_,hz,λ v q=>by cases q⟩
  ·exact ⟨_,hI,λ v q=>by cases q⟩
  ·exact ⟨_,hO,λ v q=>by cases q⟩
  ·exact ⟨_,e1,λ v q=>by rw [d1] at q; cases q⟩
  ·exact ⟨_,e2,λ v q=>by rw [d2] at q; cases q⟩
 keep:=λ i h h' st k=>by
  obtain ⟨hz,hI,⟨x,y,hO⟩,h1,h2⟩:=st
  exact ⟨k z (by simp) _ hz,k TI (by simp) _ hI,⟨x,y,k TO (by simp) _ hO⟩,h1.at λ o e=>k i1 (by simp) o e,h2.at λ o e=>k i2 (by simp) o e⟩
 item:=by
  intro X hP hw hK hc i pins s σ H E I hf st hg
  subst hP hw hK
  obtain ⟨xs,ys,x,y,hqx,hqy,hx,hy⟩:=hg
  obtain ⟨its,rv,p,hz⟩:=I.list hqx
  obtain ⟨jts,rw',p',hz'⟩:=I.list hqy
  obtain ⟨u,hu,ru⟩:=rv.get hx
  obtain ⟨v,hv,rv'⟩:=rw'.get hy
  obtain ⟨sz,sI,⟨x0,y0,sO⟩,s1,s2⟩:=st
  refine wpAny_pyNext_zip_item D sz sI sO s1 s2 p.isList p'.isList (x:=u) (y:=v) (by simpa using hu) (by simpa using hv) λ h' a1 a2 a3 a4 a5 a6 hk=>?_
  have hT:H s.heap.objs.size=none:=I.hok.fresh (Nat.le_refl _)
  have lt:∀ {c o},s.heap.get? c=some o->s.heap.objs.size ≠ c:=λ e=>Nat.ne_of_gt (Heap.lt_size e)
  have I0:Inv X pins σ (upd H s.heap.objs.size (.tup [x,y])) { s with heap:=s.heap.push { cls:=.type "tuple",data:=.seq #[u,v] },toks:=s.toks }:=by
   refine I.laid (λ b o e=>Heap.get?_push_of_some _ e) (Nat.le_refl _) ?_
   exact ⟨(show 2<=sizeLine by decide),[u,v],.cons ru (.cons rv' .nil),⟨_,Heap.get?_push_size _ rfl,rfl,_,rfl⟩⟩
  have nT:∀ c ∈ [z,TI,TO,i1,i2],c ≠ s.heap.objs.size:=λ c hc=>by
   simp only [List.mem_cons,List.not_mem_nil,or_false] at hc
   rcases hc with rfl | rfl | rfl | rfl | rfl
   ·exact (lt sz).symm
   ·exact (lt sI).symm
   ·exact (lt sO).symm
   ·obtain ⟨_,e,_⟩:=s1; exact (lt e).symm
   ·obtain ⟨_,e,_⟩:=s2; exact (lt e).symm
  have f':∀ c ∈ [z,TI,TO,i1,i2],FpOk X pins (upd H s.heap.objs.size (.tup [x,y])) c:=λ c hc=>by
   obtain ⟨f0,f1,f2,f3,f4,f5⟩:=hf c hc
   exact ⟨by rw [wb0 (nT c hc)]; exact f0,f1,f2,f3,f4,f5⟩
  have I1:Inv X pins σ (upd H s.heap.objs.size (.tup [x,y])) { s with heap:=h' }:=by
   refine Inv.turnedL (s:={ s with heap:=s.heap.push { cls:=.type "tuple",data:=.seq #[u,v] },toks:=s.toks }) (h':=h') (t':=s.toks) I0 (fp:=[z,TI,TO,i1,i2]) (λ c o hc e=>?_) f'
   simp only [List.mem_cons,List.not_mem_nil,or_false,not_or] at hc
   by_cases cT:c=s.heap.objs.size
   ·subst cT
    have e':(s.heap.push { cls:=.type "tuple",data:=.seq #[u,v] }).get? s.heap.objs.size=some { cls:=.type "tuple",data:=.seq #[u,v] }:=Heap.get?_push_size _ rfl
    rw [e'] at e; cases e
    exact a5
   ·refine hk c o hc.1 hc.2.2.1 hc.2.2.2.1 hc.2.2.2.2 ?_
    have e':=Heap.get?_push_ne s.heap c { cls:=.type "tuple",data:=.seq #[u,v] } cT
    rw [<- e']; exact e
  refine ⟨_,rfl,wpAny_letOwnedTupleGo_zip (s:={ s with heap:=h' }) a1 λ h2 z2 sb=>?_⟩
  have I2:Inv X pins σ (upd H s.heap.objs.size (.tup [x,y])) { s with heap:=h2 }:=Inv.turnedL (s:={ s with heap:=h' }) (h':=h2) (t':=s.toks) I1 (fp:=[z,TI,TO,i1,i2]) (λ c o hc e=>sb.extBut _ _ (λ q=>hc (by simp [q])) e) f'
  refine ⟨.ref s.heap.objs.size,_,I2,rfl,⟨_,x,y,hT,rfl,rfl,λ xs' q=>by rw [I.list_inj q hqx]; exact hx,λ ys' q=>by rw [I.list_inj q hqy]; exact hy⟩,⟨z2,sb.extBut _ _ D.TIz (hk _ _ D.TIz D.TITO D.TIi1 D.TIi2 sI),⟨_,_,sb.extBut _ _ D.TOz a2⟩,a3.extBut sb.extBut D.i1z,a4.extBut sb.extBut D.i2z⟩,λ c hc=>(f' c hc).1⟩
 done:=by
  intro X hP hw hK hc i pins s σ H E I hf st hg
  subst hP hw hK
  obtain ⟨xs,ys,hqx,hqy,hl⟩:=hg
  obtain ⟨its,rv,p,hz⟩:=I.list hqx
  obtain ⟨jts,rw',p',hz'⟩:=I.list hqy
  have hl2:=rv.length
  obtain ⟨sz,sI,⟨x0,y0,sO⟩,s1,s2⟩:=st
  refine wpAny_pyNext_zip_end (I.ok.hd hc) D sz sI sO s1 s2 p.isList p'.isList (.inl (by simp; omega)) λ h' hk=>⟨rfl,I.turnedL (t':=s.toks) (fp:=[z,TI,TO,i1,i2]) (λ c o hc e=>?_) hf⟩
  simp only [List.mem_cons,List.not_mem_nil,or_false,not_or] at hc
  exact hk c o hc.1 hc.2.2.1 hc.2.2.2.1 hc.2.2.2.2 e
 self:=λ _ _ _ _ _ st h=>wpAny_pyIter_zip st.1 h
section
variable {X:Cx} {es:List Expr} {kt:Nat} {tp:Pos}
noncomputable def iZip (K:PySem.W.Frag) (ta:TA):TI:=λ σ H R=>ta σ H λ vs H1=>∃ a b xs ys,vs=[.ref a,.ref b] /\ SqL K H1 a xs /\ SqL K H1 b ys /\ R (Itz K a b) H1
theorem zd2:bootBuiltins "zip" = some (.type "zip"):=by decide +kernel
theorem tf3 {a b:Expr} {ta:TA} {p pos:Pos} (hg:Gl X "zip") (hm:X.mg "zip" = none) (ha:PA X [a,b] ta) (hs:starEach [a,b] X.env=[(false,eval a X.env),(false,eval b X.env)]:=by rfl) (hs2:starEach [b] X.env=[(false,eval b X.env)]:=by rfl) :
    PI X (.Tuple es kt tp) (.Call (.Name "zip" p) [a,b] [] pos) (iZip X.K ta):=by
 intro pins s σ H R I h
 refine Call_ (yq0 I hg hm zd2 (PyProof.Rows.callWith_type1 (thn (ha pos pins s σ H _ I h) λ us s1 ⟨vs,H1,I1,r1,q1⟩=>?_) (by rw [hs,hs2]) (by rw [hs2]; rfl)))
 obtain ⟨i,j,xs,ys,e,hx,hy,q⟩:=q1
 subst e
 cases r1 with
 | cons r rr =>
  cases rr with
  | cons r' rr =>
   cases rr
   cases r
   cases r'
   obtain ⟨its,rv,p1,hz⟩:=I1.list hx
   obtain ⟨jts,rw',p2,hz'⟩:=I1.list hy
   have l1:i < s1.heap.objs.size:=by obtain ⟨_,e,_⟩:=p1.isList; exact Heap.lt_size e
   have l2:j < s1.heap.objs.size:=by obtain ⟨_,e,_⟩:=p2.isList; exact Heap.lt_size e
   refine call_zip_2 p1.isList p2.isList λ h' a1 a2 a3 a4 a5 a6 hk=>wpAny_pyIter_zip a1 ?_
   have I2:Inv X pins σ H1 { s1 with heap:=h' }:=I1.kept (t':=s1.toks) hk
   refine ⟨_,_,_,_,H1,rfl,I2,tw1 (zipApart_new l1 l2),⟨a1,a2,⟨_,_,a3⟩,a4,a5⟩,λ c hc=>?_,q⟩
   simp only [List.mem_cons,List.not_mem_nil,or_false] at hc
   have:s1.heap.objs.size<=c:=by
    rcases hc with rfl | rfl | rfl | rfl | rfl <;> first | exact Nat.le_refl _ | exact Nat.le_add_right _ _
   exact I1.fpOk this (I1.hok.fresh this)
end
end L2
namespace Pv
open PySem L2
noncomputable def zipD (l m:List D):List D:=List.zipWith (λ x y=>D.tup [x,y]) l m
noncomputable def iz3 (t:TA3):TI3:=λ ρ μ R=>t ρ μ λ ds μ1=>match ds with
 | [.ref p,.ref q]=>match μ1 p,μ1 q with
  | some (.lst l),some (.lst m)=>l.length=m.length /\ R (zipD l m) (λ μ=>μ p=some (.lst l) /\ μ q=some (.lst m)) μ1
  | _,_=>False
 | _=>False
theorem sa2 {K:Fg} {H0:Hp} {p q:Addr} {l m:List D} (hl:l.length=m.length):ItOk K (Itz K p q) (zipD l m) (λ μ=>μ p=some (.lst l) /\ μ q=some (.lst m)) H0:=λ i H μ k r ⟨s1,s2⟩=>by
 obtain ⟨vs,h1,r1⟩:=r p l s1
 obtain ⟨ws,h2,r2⟩:=r q m s2
 refine ⟨λ d e=>?_,λ hi=>⟨vs,ws,SqL.of h1,SqL.of h2,?_⟩⟩
 ·unfold zipD at e
  rw [List.getElem?_zipWith] at e
  cases e1:l[i]? with
  | none=>rw [e1] at e; cases e
  | some d1 =>
   cases e2:m[i]? with
   | none=>rw [e1,e2] at e; cases e
   | some d2 =>
    rw [e1,e2] at e
    cases e
    obtain ⟨v1,g1,q1⟩:=r1.get e1
    obtain ⟨v2,g2,q2⟩:=r2.get e2
    refine ⟨⟨vs,ws,v1,v2,SqL.of h1,SqL.of h2,g1,g2⟩,λ x H2 y=>?_⟩
    obtain ⟨T,x1,x2,hT,rfl,rfl,y1,y2⟩:=y
    have z1:=y1 vs (SqL.of h1)
    have z2:=y2 ws (SqL.of h2)
    rw [g1] at z1; injection z1 with z1; subst z1
    rw [g2] at z2; injection z2 with z2; subst z2
    have kp:Kp H (upd H T (.tup [v1,v2])):=Kp.new hT
    exact ⟨kp,r.newT hT,.tup zd0 (.cons (q1.mono kp) (.cons (q2.mono kp) .nil))⟩
 ·rw [<- r1.length]
  unfold zipD at hi
  rw [List.length_zipWith,<- hl,Nat.min_self] at hi
  exact hi
section
variable {X:Cx} {a b:Expr} {ta tb:TE3} {pos:Pos} {es:List Expr} {kt:Nat} {tp:Pos}
theorem ya3 {p:Pos} (hm:X.mg "zip" = none) (ha:RE X a ta) (hb:RE X b tb) (hg:Gl X "zip" := by rfl) (hs:starEach [a,b] X.env=[(false,eval a X.env),(false,eval b X.env)]:=by rfl) (hs2:starEach [b] X.env=[(false,eval b X.env)]:=by rfl) :
    RI X (.Tuple es kt tp) (.Call (.Name "zip" p) [a,b] [] pos) (iz3 (cons3 ta (cons3 tb nil3))):=by
 obtain ⟨va,pa,ra⟩:=xa0 ha (xa0 hb va0 hs2) (by rw [hs,hs2])
 refine ⟨_,tf3 hg hm pa hs hs2,λ σ H R ρ μ R3 s m h k=>ra σ H _ ρ μ _ s m h λ ds μ1 vs H1 h1 k1 r1 m1=>?_⟩
 split at h1
 ·next p q =>
  cases r1 with
  | cons r1 r2 =>
   cases r2 with
   | cons r2 r3 =>
    cases r3
    cases r1
    cases r2
    split at h1
    ·next l m' e1 e2 =>
     obtain ⟨vs,g1,_⟩:=m1 p l e1
     obtain ⟨ws,g2,_⟩:=m1 q m' e2
     exact ⟨_,_,vs,ws,rfl,SqL.of g1,SqL.of g2,k _ _ _ _ _ h1.2 k1 m1 (sa2 h1.1)⟩
    ·exact h1.elim
 ·exact h1.elim
end
end Pv
namespace Pv
noncomputable abbrev Pt:=Int × Int
noncomputable def e0 (s:T3):Pt:=(s.1,s.2.1)
noncomputable def e1 (s:T3):Pt:=(s.1 + 1 - s.2.2,s.2.1 + s.2.2)
theorem e_ne (s:T3):e0 s ≠ e1 s:=λ h=>by
 unfold e0 e1 at h
 injection h with h1 h2
 omega
noncomputable def has (p:Pt) (s:T3):Bool:=decide (e0 s=p) || decide (e1 s=p)
theorem tv0 (s:T3):has (e0 s) s=true:=by unfold has; simp
theorem uv0 (s:T3):has (e1 s) s=true:=by unfold has; simp
theorem wq0 {p:Pt} {s:T3} (h:has p s=true):p=e0 s \/ p=e1 s:=by
 unfold has at h
 rw [Bool.or_eq_true,decide_eq_true_eq,decide_eq_true_eq] at h
 exact h.imp Eq.symm Eq.symm
noncomputable def tch (a b:T3):Prop:=∃ p,has p a=true /\ has p b=true
theorem tch.symm {a b:T3} (h:tch a b):tch b a:=let ⟨p,x,y⟩:=h; ⟨p,y,x⟩
noncomputable def deg (ts:List T3) (p:Pt):Nat:=ts.countP (has p)
inductive Conn (ts:List T3) (a:T3):T3->Prop
 | refl:Conn ts a a
 | step {b c:T3}:Conn ts a b->c ∈ ts->tch b c->Conn ts a c
theorem Conn.cl {ts u:List T3} {a b:T3} (hu:∀ x ∈ u,∀ c ∈ ts,tch x c->c ∈ u) (ha:a ∈ u) (h:Conn ts a b):b ∈ u:=by
 induction h with
 | refl=>exact ha
 | step _ hc ht ih=>exact hu _ ih _ hc ht
theorem Conn.trans {ts:List T3} {a b c:T3} (h:Conn ts a b) (k:Conn ts b c):Conn ts a c:=by
 induction k with
 | refl=>exact h
 | step _ hc ht ih=>exact .step ih hc ht
theorem Conn.symm {ts:List T3} {a b:T3} (ha:a ∈ ts) (h:Conn ts a b):Conn ts b a:=by
 have key:∀ {b},Conn ts a b->b ∈ ts /\ Conn ts b a:=by
  intro b h
  induction h with
  | refl=>exact ⟨ha,.refl⟩
  | step _ hc ht ih=>exact ⟨hc,(Conn.step .refl ih.1 ht.symm).trans ih.2⟩
 exact (key h).2
theorem zj3 {a b:T3} (h:le3 a b) (k:le3 b a):a=b:=by
 obtain ⟨x1,x2,x3⟩:=a
 obtain ⟨y1,y2,y3⟩:=b
 simp only [le3,lt3,Bool.or_eq_false_iff,Bool.and_eq_false_iff,decide_eq_false_iff_not,beq_eq_false_iff_ne,ne_eq] at h k
 simp only [Prod.mk.injEq]
 omega
theorem uq {us vs:List T3} (a1:us.Perm vs) (a2:us.Pairwise le3) (a3:vs.Pairwise le3):us=vs:=List.Perm.eq_of_pairwise (λ a b _ _ h k=>zj3 h k) a2 a3 a1
theorem wj3 {a b:Pt} (h:le2 a b) (k:le2 b a):a=b:=by
 obtain ⟨x1,x2⟩:=a
 obtain ⟨y1,y2⟩:=b
 simp only [le2,lt2,Bool.or_eq_false_iff,Bool.and_eq_false_iff,decide_eq_false_iff_not,beq_eq_false_iff_ne,ne_eq] at h k
 simp only [Prod.mk.injEq]
 omega
theorem uq2 {us vs:List Pt} (a1:us.Perm vs) (a2:us.Pairwise le2) (a3:vs.Pairwise le2):us=vs:=List.Perm.eq_of_pairwise (λ a b _ _ h k=>wj3 h k) a2 a3 a1
structure IsP (ts:List T3) (us:List (List T3)):Prop where
 perm:us.flatten.Perm ts
 ne:∀ u ∈ us,u ≠ []
 up:∀ u ∈ us,u.Pairwise le3
 cl:∀ u ∈ us,∀ a ∈ u,∀ c ∈ ts,tch a c->c ∈ u
 co:∀ u ∈ us,∀ a ∈ u,∀ b ∈ u,Conn ts a b
theorem IsP.mem {ts:List T3} {us:List (List T3)} (h:IsP ts us) {u:List T3} (hu:u ∈ us) {a:T3} (ha:a ∈ u):a ∈ ts:=h.perm.mem_iff.mp (List.mem_flatten.mpr ⟨u,hu,ha⟩)
theorem IsP.two {ts:List T3} {us:List (List T3)} (hn:ts.Nodup) (h:IsP ts us):(∀ u ∈ us,u.Nodup) /\ us.Pairwise (λ u v=>∀ x,x ∈ u->∀ y,y ∈ v->x ≠ y):=List.pairwise_flatten.mp (h.perm.nodup_iff.mpr hn)
theorem IsP.same {ts:List T3} {us vs:List (List T3)} (hn:ts.Nodup) (h:IsP ts us) (k:IsP ts vs) {u v:List T3} (hu:u ∈ us) (hv:v ∈ vs) {a:T3} (au:a ∈ u) (av:a ∈ v):u=v:=by
 refine uq ((List.perm_ext_iff_of_nodup ((h.two hn).1 u hu) ((k.two hn).1 v hv)).mpr λ b=>⟨λ hb=>?_,λ hb=>?_⟩) (h.up u hu) (k.up v hv)
 ·exact (h.co u hu a au b hb).cl (k.cl v hv) av
 ·exact (k.co v hv a av b hb).cl (h.cl u hu) au
theorem IsP.nd {ts:List T3} {us:List (List T3)} (hn:ts.Nodup) (h:IsP ts us):us.Nodup:=by
 refine List.Pairwise.imp_of_mem ?_ (h.two hn).2
 intro u v hu hv d e
 subst e
 obtain ⟨a,ha⟩:=List.exists_mem_of_ne_nil u (h.ne u hu)
 exact d a ha a ha rfl
theorem IsP.sub {ts:List T3} {us vs:List (List T3)} (hn:ts.Nodup) (h:IsP ts us) (k:IsP ts vs) {u:List T3} (hu:u ∈ us):u ∈ vs:=by
 obtain ⟨a,ha⟩:=List.exists_mem_of_ne_nil u (h.ne u hu)
 obtain ⟨v,hv,av⟩:=List.mem_flatten.mp (k.perm.mem_iff.mpr (h.mem hu ha))
 rw [h.same hn k hu hv ha av]
 exact hv
theorem IsP.one {ts:List T3} {us vs:List (List T3)} (hn:ts.Nodup) (h:IsP ts us) (k:IsP ts vs):us.Perm vs :=
 (List.perm_ext_iff_of_nodup (h.nd hn) (k.nd hn)).mpr λ u=>⟨λ hu=>h.sub hn k hu,λ hu=>k.sub hn h hu⟩
noncomputable def tog (p:Pt) (l:List Pt):List Pt:=if p ∈ l then l.erase p else p :: l
theorem yk1 {p:Pt} {l:List Pt} (h:l.Nodup):(tog p l).Nodup:=by
 unfold tog
 split
 ·exact h.erase p
 ·next c=>exact List.nodup_cons.mpr ⟨c,h⟩
theorem zk1 {p q:Pt} {l:List Pt} (h:l.Nodup):q ∈ tog p l ↔ ¬ (q ∈ l ↔ q=p):=by
 unfold tog
 by_cases c:p ∈ l
 ·rw [if_pos c,h.mem_erase_iff]
  constructor
  ·rintro ⟨x,y⟩ z
   exact x (z.mp y)
  ·intro z
   by_cases e:q=p
   ·subst e; exact absurd ⟨λ _=>rfl,λ _=>c⟩ z
   ·refine ⟨e,?_⟩
    apply Classical.byContradiction
    intro y
    exact z ⟨λ w=>absurd w y,λ w=>absurd w e⟩
 ·rw [if_neg c,List.mem_cons]
  constructor
  ·rintro (rfl | y) z
   ·exact c (z.mpr rfl)
   ·exact c (z.mp y ▸ y)
  ·intro z
   by_cases e:q=p
   ·exact .inl e
   ·right
    apply Classical.byContradiction
    intro y
    exact z ⟨λ w=>absurd w y,λ w=>absurd w e⟩
noncomputable def Od:List T3->List Pt
 | []=>[]
 | s :: r=>tog (e1 s) (tog (e0 s) (Od r))
theorem vz0:∀ ts:List T3,(Od ts).Nodup
 | []=>List.nodup_nil
 | s :: r=>yk1 (yk1 (vz0 r))
theorem xx0 (p:Pt):∀ ts:List T3,p ∈ Od ts ↔ deg ts p % 2=1
 | []=>by simp [Od,deg]
 | s :: r=>by
  unfold Od
  rw [zk1 (yk1 (vz0 r)),zk1 (vz0 r),xx0 p r]
  unfold deg
  rw [List.countP_cons]
  have ne:=e_ne s
  by_cases c0:p=e0 s
  ·have c1:¬ p=e1 s:=λ z=>ne (c0.symm.trans z)
   rw [if_pos (by rw [c0]; exact tv0 s)]
   simp only [c0,ne,iff_true,iff_false]
   omega
  ·by_cases c1:p=e1 s
   ·rw [if_pos (by rw [c1]; exact uv0 s)]
    have c0':¬ e1 s=e0 s:=λ z=>ne z.symm
    simp only [c1,c0',iff_true,iff_false]
    omega
   ·rw [if_neg (λ z=>by rcases wq0 z with z | z; exact c0 z; exact c1 z)]
    simp only [c0,c1,iff_false]
    omega
theorem tq2 {ts:List T3} {p:Pt} (h:deg ts p % 2=1):∃ a ∈ ts,has p a=true:=by
 have:0 < ts.countP (has p):=by unfold deg at h; omega
 obtain ⟨a,ha,hp⟩:=List.countP_pos_iff.mp this
 exact ⟨a,ha,hp⟩
noncomputable def need (u:List T3):Nat:=max 1 ((Od u).length / 2)
noncomputable def wp0 (us:List (List T3)):Nat:=(us.map need).sum
end Pv
namespace Mw
noncomputable abbrev Pen:=Int × Int × Int
noncomputable def cs (h:Int):Int:=if h=0 then 1 else if h=2 then -1 else 0
noncomputable def sn (h:Int):Int:=if h=1 then 1 else if h=3 then -1 else 0
noncomputable def led (p q:Pen):Pen:=(p.1 + q.1 * cs p.2.2 - q.2.1 * sn p.2.2,p.2.1 + q.1 * sn p.2.2 + q.2.1 * cs p.2.2,(p.2.2 + q.2.2) % 4)
noncomputable def st:Pen:=(0,0,0)
noncomputable def pw (p:Pen):Nat->Pen
 | 0=>st
 | n + 1=>led (pw p n) p
noncomputable def rep (p:Pen) (n:Int):Pen:=if p.2.2=0 then (p.1 * n,p.2.1 * n,0) else pw p (n % 4).toNat
inductive Dd where
 | go (n:Int) | jump (n:Int) | turn (n:Int) | times (n:Int) (w:List Dd)
noncomputable def G:Int:=99999999999999999999
mutual
noncomputable def dn:Dd->Int
 | .times n w=>n * dns w
 | _=>1
noncomputable def dns:List Dd->Int
 | []=>0
 | d :: r=>dn d + dns r
end
mutual
noncomputable def pd:Dd->Pen
 | .go n=>(n,0,0)
 | .jump n=>(n,0,0)
 | .turn n=>(0,0,n % 4)
 | .times n w=>rep (pb w) n
noncomputable def pb:List Dd->Pen
 | []=>st
 | d :: r=>led (pd d) (pb r)
end
end Mw
namespace Mw
noncomputable def ab (x:Int):Int:=if x < 0 then -x else x
noncomputable def pm (p:Pen):Int:=max (ab p.1) (ab p.2.1)
end Mw
namespace Pv
open PySem
noncomputable abbrev xv0:D:=.ktp [.int 0,.int 1]
noncomputable def yt2:List Str:=["picture", "stroke", "place"]
noncomputable def xv2 (sp_q14:Sp3):TS3 :=
 (seq3 (for3 (is3 (v3 0)) (gn3 1) (drop3 (call3 sp_q14 (cons3 (v3 1) nil3)))) (for3 (ir23 (cons3 (c3 (.int 1)) (cons3 (call3 lenR (cons3 (v3 0) nil3)) nil3))) (gn3 2) (ifs3 (b3 (o3 ge3R (o3 ixR (v3 0) (o3 subR (v3 2) (c3 (.int 1)))) (o3 ixR (v3 0) (v3 2)))) never3 next3)))
noncomputable def zw1:List Str:=["stroke"]
noncomputable def sw1:TS3 :=
 (ifs3 (or3 (b3 (o3 neR (call3 lenR (cons3 (v3 0) nil3)) (c3 (.int 3)))) (b3 (o3 (inR true) (o3 ixR (v3 0) (c3 (.int 2))) (c3 xv0)))) never3 next3)
noncomputable def xt2:List Str:=["stroke"]
noncomputable def su2:TS3 :=
 (seq3 (ifs3 (b3 (o3 eqR (o3 ixR (v3 0) (c3 (.int 2))) (c3 (.int 0)))) (ret3 (tup3 (cons3 (tup3 (cons3 (o3 ixR (v3 0) (c3 (.int 0))) (cons3 (o3 ixR (v3 0) (c3 (.int 1))) nil3))) (cons3 (tup3 (cons3 (o3 addR (o3 ixR (v3 0) (c3 (.int 0))) (c3 (.int 1))) (cons3 (o3 ixR (v3 0) (c3 (.int 1))) nil3))) nil3)))) next3) (ret3 (tup3 (cons3 (tup3 (cons3 (o3 ixR (v3 0) (c3 (.int 0))) (cons3 (o3 ixR (v3 0) (c3 (.int 1))) nil3))) (cons3 (tup3 (cons3 (o3 ixR (v3 0) (c3 (.int 0))) (cons3 (o3 addR (o3 ixR (v3 0) (c3 (.int 1))) (c3 (.int 1))) nil3))) nil3)))))
noncomputable def ws2:List Str:=["picture", "at", "seen", "pieces", "stroke"]
noncomputable def vu2 (sp_q13 sp_q19 sp_q20:Sp3):TS3 :=
 (seq3 (drop3 (call3 sp_q13 (cons3 (v3 0) nil3))) (seq3 (set3 1 (call3 sp_q20 (cons3 (v3 0) nil3))) (seq3 (set3 2 dnl3) (seq3 (set3 3 (lst3 nil3)) (seq3 (for3 (is3 (v3 0)) (gn3 4) (ifs3 (b3 (o3 (dinR true) (v3 4) (v3 2))) (drop3 (mt3 appR (v3 3) (cons3 (call3 sp_q19 (cons3 (v3 4) (cons3 (v3 1) (cons3 (v3 2) nil3)))) nil3))) next3)) (ret3 (v3 3)))))))
noncomputable def ys2:List Str:=["picture", "at", "stroke", "point"]
noncomputable def zu2 (sp_q15:Sp3):TS3 :=
 (seq3 (set3 1 dnl3) (seq3 (for3 (is3 (v3 0)) (gn3 2) (for3 (is3 (call3 sp_q15 (cons3 (v3 2) nil3))) (gn3 3) (drop3 (mt3 appR (sdf3 (v3 1) (cons3 (v3 3) (cons3 (lst3 nil3) nil3))) (cons3 (v3 2) nil3))))) (ret3 (v3 1))))
noncomputable def zs2:List Str:=["stroke", "at", "seen", "piece", "place", "here", "point"]
noncomputable def wu2 (sp_q15 sp_q21:Sp3):TS3 :=
 (seq3 (uh0 (v3 2) (v3 0) (c3 (.bl true))) (seq3 (set3 3 (lst3 (cons3 (v3 0) nil3))) (seq3 (set3 4 (c3 (.int 0))) (seq3 (sd2 (b3 (o3 ltR (v3 4) (call3 lenR (cons3 (v3 3) nil3)))) (seq3 (set3 5 (o3 ixR (v3 3) (v3 4))) (seq3 (for3 (is3 (call3 sp_q15 (cons3 (v3 5) nil3))) (gn3 6) (drop3 (mt3 extR (v3 3) (cons3 (call3 sp_q21 (cons3 (o3 dgR (v3 1) (v3 6)) (cons3 (v3 2) nil3))) nil3)))) (set3 4 (o3 addR (v3 4) (c3 (.int 1))))))) (ret3 (call3 tupR (cons3 (call3 sj0 (cons3 (v3 3) nil3)) nil3)))))))
noncomputable def xs2:List Str:=["strokes", "seen", "taken", "stroke"]
noncomputable def yu2:TS3 :=
 (seq3 (set3 2 (comp3 [none,some 1] (is3 (v3 0)) (gn3 0) (b3 (o3 (dinR true) (v3 0) (v3 1))) (v3 0))) (seq3 (for3 (is3 (v3 2)) (gn3 3) (uh0 (v3 1) (v3 3) (c3 (.bl true)))) (ret3 (v3 2))))
noncomputable def vs2:List Str:=["picture", "at"]
noncomputable def uu2 (sp_q13 sp_q20:Sp3):TS3 :=
 (seq3 (drop3 (call3 sp_q13 (cons3 (v3 0) nil3))) (seq3 (set3 1 (call3 sp_q20 (cons3 (v3 0) nil3))) (ret3 (call3 yf1 (cons3 (comp3 [none,some 1] (isd3 (v3 1)) (gn3 0) (b3 (o3 eqR (o3 modR (call3 lenR (cons3 (o3 dgR (v3 1) (v3 0)) nil3)) (c3 (.int 2))) (c3 (.int 1)))) (v3 0)) nil3)))))
noncomputable def sr2:List Str:=["picture"]
noncomputable def xu2 (sp_q18 sp_q23:Sp3):TS3 :=
 (ret3 (call3 sumR (cons3 (comp3 [none] (is3 (call3 sp_q18 (cons3 (v3 0) nil3))) (gn3 0) tt3 (call3 sp_q23 (cons3 (v3 0) nil3))) nil3)))
noncomputable def tr2:List Str:=["piece"]
noncomputable def tt2 (sp_q17:Sp3):TS3 :=
 (ret3 (call3 mxR (cons3 (c3 (.int 1)) (cons3 (o3 fdivR (call3 lenR (cons3 (call3 sp_q17 (cons3 (v3 0) nil3)) nil3)) (c3 (.int 2))) nil3))))
noncomputable def N_q0:List Str:=["script", "k"]
noncomputable def t_q0:TS3 :=
 (seq3 (ifs3 (b3 (o3 ltR (v3 1) (call3 lenR (cons3 (v3 0) nil3)))) (ret3 (o3 ixR (v3 0) (v3 1))) next3) (ret3 (c3 (.int 0))))
noncomputable def wd2:List Str:=["found"]
noncomputable def ti2:TS3 :=
 (ret3 (andV3 (call3 isiR (cons3 (v3 0) (cons3 (c3 (.ty "int")) nil3))) (notV3 (call3 isiR (cons3 (v3 0) (cons3 (c3 (.ty "bool")) nil3))))))
noncomputable def vd2:List Str:=["script", "k", "cell"]
noncomputable def si2 (sp_q0:Sp3):TS3 :=
 (seq3 (set3 2 (call3 sp_q0 (cons3 (v3 0) (cons3 (v3 1) nil3)))) (seq3 (ifs3 (b3 (o3 ge3R (v3 2) (o3 powR (c3 (.int 10)) (c3 (.int 18))))) (ret3 (lst3 (cons3 (o3 subR (v3 2) (o3 powR (c3 (.int 10)) (c3 (.int 18)))) (cons3 (c3 (.bl true)) nil3)))) next3) (ret3 (lst3 (cons3 (o3 modR (v3 2) (c3 (.int 2147483647))) (cons3 (c3 (.bl false)) nil3))))))
noncomputable def N_q1:List Str:=["state", "many", "found", "mixed"]
noncomputable def t_q1:TS3 :=
 (seq3 (ifs3 (b3 (o3 ixR (v3 0) (c3 (.int 1)))) (seq3 (set3 2 (o3 modR (o3 ixR (v3 0) (c3 (.int 0))) (v3 1))) (seq3 (asg3 (o3 fdivR (o3 ixR (v3 0) (c3 (.int 0))) (v3 1)) (sub3 (v3 0) (c3 (.int 0)))) (ret3 (v3 2)))) next3) (seq3 (asg3 (o3 modR (o3 addR (o3 mulR (o3 ixR (v3 0) (c3 (.int 0))) (c3 (.int 48271))) (c3 (.int 29))) (c3 (.int 2147483647))) (sub3 (v3 0) (c3 (.int 0)))) (seq3 (set3 3 (o3 modR (o3 addR (o3 addR (o3 mulR (o3 ixR (v3 0) (c3 (.int 0))) (o3 ixR (v3 0) (c3 (.int 0)))) (o3 mulR (c3 (.int 39373)) (o3 ixR (v3 0) (c3 (.int 0))))) (c3 (.int 7))) (c3 (.int 2147483629)))) (seq3 (set3 3 (o3 modR (o3 addR (o3 mulR (v3 3) (v3 3)) (o3 mulR (c3 (.int 16807)) (v3 3))) (c3 (.int 2147483587)))) (ret3 (o3 modR (o3 fdivR (v3 3) (c3 (.int 8))) (v3 1)))))))
noncomputable def N_q8:List Str:=["state", "most", "found", "x", "y", "wide", "k"]
noncomputable def yg0 (sp_q1:Sp3):TS3 :=
 (ret3 (call3 tupR (cons3 (call3 sj0 (cons3 (v3 2) nil3)) nil3)))
noncomputable def uj0 (sp_q1:Sp3):TS3 :=
 (seq3 (for3 (ir3 (cons3 (call3 sp_q1 (cons3 (v3 0) (cons3 (o3 addR (v3 1) (c3 (.int 1))) nil3))) nil3)) (gn3 6) (seq3 (ifs3 (b3 (o3 eqR (call3 sp_q1 (cons3 (v3 0) (cons3 (c3 (.int 3)) nil3))) (c3 (.int 0)))) (seq3 (set3 3 (o3 subR (call3 sp_q1 (cons3 (v3 0) (cons3 (v3 5) nil3))) (c3 (.int 2)))) (set3 4 (o3 subR (call3 sp_q1 (cons3 (v3 0) (cons3 (v3 5) nil3))) (c3 (.int 2))))) next3) (seq3 (wc2 (v3 2) (cons3 (v3 3) (cons3 (v3 4) (cons3 (call3 sp_q1 (cons3 (v3 0) (cons3 (c3 (.int 2)) nil3))) nil3))) (c3 (.bl true))) (seq3 (set3 3 (o3 addR (v3 3) (o3 ixR (lst3 (cons3 (c3 (.int 1)) (cons3 (c3 (.int 0)) (cons3 (un3 negR (c3 (.int 1))) (cons3 (c3 (.int 0)) nil3))))) (call3 sp_q1 (cons3 (v3 0) (cons3 (c3 (.int 4)) nil3)))))) (set3 4 (o3 addR (v3 4) (o3 ixR (lst3 (cons3 (c3 (.int 0)) (cons3 (c3 (.int 1)) (cons3 (c3 (.int 0)) (cons3 (un3 negR (c3 (.int 1))) nil3))))) (call3 sp_q1 (cons3 (v3 0) (cons3 (c3 (.int 4)) nil3)))))))))) (yg0 sp_q1))
noncomputable def tj0 (sp_q1:Sp3):TS3 :=
 (seq3 (set3 5 (o3 addR (c3 (.int 1)) (call3 sp_q1 (cons3 (v3 0) (cons3 (c3 (.int 5)) nil3))))) (uj0 sp_q1))
noncomputable def ve0 (sp_q1:Sp3):TS3 :=
 (seq3 (asg3 (tup3 (cons3 (c3 (.int 0)) (cons3 (c3 (.int 0)) nil3))) (gtup3 2 (gcons3 (gn3 3) (gcons3 (gn3 4) gnil3)))) (tj0 sp_q1))
noncomputable def t_q8 (sp_q1:Sp3):TS3 :=
 (seq3 (set3 2 vq2) (ve0 sp_q1))
noncomputable def N_q2:List Str:=["state", "most", "found", "wide", "k"]
noncomputable def t_q2 (sp_q1:Sp3):TS3 :=
 (seq3 (set3 2 vq2) (seq3 (set3 3 (o3 addR (c3 (.int 2)) (call3 sp_q1 (cons3 (v3 0) (cons3 (c3 (.int 3)) nil3))))) (seq3 (for3 (ir3 (cons3 (call3 sp_q1 (cons3 (v3 0) (cons3 (o3 addR (v3 1) (c3 (.int 1))) nil3))) nil3)) (gn3 4) (wc2 (v3 2) (cons3 (call3 sp_q1 (cons3 (v3 0) (cons3 (v3 3) nil3))) (cons3 (call3 sp_q1 (cons3 (v3 0) (cons3 (v3 3) nil3))) (cons3 (call3 sp_q1 (cons3 (v3 0) (cons3 (c3 (.int 2)) nil3))) nil3))) (c3 (.bl true)))) (ret3 (call3 tupR (cons3 (call3 sj0 (cons3 (v3 2) nil3)) nil3))))))
noncomputable def N_q3:List Str:=["stroke", "x", "y", "way"]
noncomputable def t_q3:TS3 :=
 (seq3 (asg3 (v3 0) (gtup3 3 (gcons3 (gn3 1) (gcons3 (gn3 2) (gcons3 (gn3 3) gnil3))))) (ret3 (tup3 (cons3 (tup3 (cons3 (v3 1) (cons3 (v3 2) nil3))) (cons3 (tup3 (cons3 (o3 subR (o3 addR (v3 1) (c3 (.int 1))) (v3 3)) (cons3 (o3 addR (v3 2) (v3 3)) nil3))) nil3)))))
noncomputable def zt2:List Str:=["picture", "found", "stroke", "one", "other"]
noncomputable def yv2 (sp_q3:Sp3):TS3 :=
 (seq3 (set3 1 dnl3) (seq3 (for3 (is3 (v3 0)) (gn3 2) (seq3 (asg3 (call3 sp_q3 (cons3 (v3 2) nil3)) (gtup3 2 (gcons3 (gn3 3) (gcons3 (gn3 4) gnil3)))) (seq3 (uh0 (v3 1) (v3 3) (o3 addR (gdf3 (v3 1) (cons3 (v3 3) (cons3 (c3 (.int 0)) nil3))) (c3 (.int 1)))) (uh0 (v3 1) (v3 4) (o3 addR (gdf3 (v3 1) (cons3 (v3 4) (cons3 (c3 (.int 0)) nil3))) (c3 (.int 1))))))) (ret3 (v3 1))))
noncomputable def N_q9:List Str:=["picture", "mark", "stroke", "one", "other", "low", "high", "found"]
noncomputable def sk0 (sp_q3:Sp3):TS3 :=
 (ret3 (v3 7))
noncomputable def xl0 (sp_q3:Sp3):TS3 :=
 (seq3 (for3 (is3 (v3 0)) (gn3 2) (ifs3 (b3 (o3 eqR (o3 dgR (v3 1) (v3 2)) (v3 2))) (drop3 (mt3 appR (v3 7) (cons3 (call3 tupR (cons3 (comp3 [none,some 2,some 1] (is3 (v3 0)) (gn3 0) (b3 (o3 eqR (o3 dgR (v3 2) (v3 0)) (v3 1))) (v3 0)) nil3)) nil3))) next3)) (sk0 sp_q3))
noncomputable def yl0 (sp_q3:Sp3):TS3 :=
 (seq3 (set3 7 (lst3 nil3)) (xl0 sp_q3))
noncomputable def zl0 (sp_q3:Sp3):TS3 :=
 (seq3 (for3 (is3 (v3 0)) (gn3 3) (for3 (is3 (v3 0)) (gn3 4) (ifs3 (b3 (o3 gtR (call3 lenR (cons3 (comp3 [none,some 4] (is3 (call3 sp_q3 (cons3 (v3 3) nil3))) (gn3 0) (b3 (o3 (inR false) (v3 0) (call3 sp_q3 (cons3 (v3 1) nil3)))) (v3 0)) nil3)) (c3 (.int 0)))) (seq3 (set3 5 (call3 uh1 (cons3 (o3 dgR (v3 1) (v3 3)) (cons3 (o3 dgR (v3 1) (v3 4)) nil3)))) (seq3 (set3 6 (call3 sh1 (cons3 (o3 dgR (v3 1) (v3 3)) (cons3 (o3 dgR (v3 1) (v3 4)) nil3)))) (for3 (is3 (v3 0)) (gn3 2) (ifs3 (b3 (o3 eqR (o3 dgR (v3 1) (v3 2)) (v3 6))) (uh0 (v3 1) (v3 2) (v3 5)) next3)))) next3))) (yl0 sp_q3))
noncomputable def wl0 (sp_q3:Sp3):TS3 :=
 (seq3 (for3 (is3 (v3 0)) (gn3 2) (uh0 (v3 1) (v3 2) (v3 2))) (zl0 sp_q3))
noncomputable def t_q9 (sp_q3:Sp3):TS3 :=
 (seq3 (set3 1 dnl3) (wl0 sp_q3))
noncomputable def N_q7:List Str:=["picture", "places"]
noncomputable def t_q7 (sp_q10:Sp3):TS3 :=
 (seq3 (set3 1 (call3 sp_q10 (cons3 (v3 0) nil3))) (ret3 (call3 yf1 (cons3 (comp3 [none,some 1] (isd3 (v3 1)) (gn3 0) (b3 (o3 eqR (o3 modR (o3 dgR (v3 1) (v3 0)) (c3 (.int 2))) (c3 (.int 1)))) (v3 0)) nil3))))
noncomputable def N_q6:List Str:=["picture"]
noncomputable def t_q6 (sp_q7 sp_q9:Sp3):TS3 :=
 (ret3 (call3 sumR (cons3 (comp3 [none] (is3 (call3 sp_q9 (cons3 (v3 0) nil3))) (gn3 0) tt3 (call3 mxR (cons3 (c3 (.int 1)) (cons3 (o3 fdivR (call3 lenR (cons3 (call3 sp_q7 (cons3 (v3 0) nil3)) nil3)) (c3 (.int 2))) nil3)))) nil3)))
noncomputable def N_q5:List Str:=["found", "due", "stroke"]
noncomputable def t_q5 (sp_q12:Sp3):TS3 :=
 (seq3 (ifs3 (or3 (not3 (b3 (call3 isiR (cons3 (v3 0) (cons3 (c3 (.ty "tuple")) nil3))))) (b3 (o3 neR (v3 0) (v3 1)))) (ret3 (c3 (.bl false))) next3) (seq3 (for3 (is3 (v3 0)) (gn3 2) (ifs3 (or3 (not3 (b3 (call3 isiR (cons3 (v3 2) (cons3 (c3 (.ty "tuple")) nil3))))) (or3 (b3 (o3 neR (call3 lenR (cons3 (v3 2) nil3)) (c3 (.int 3)))) (not3 (b3 (call3 allR (cons3 (comp3 [none] (is3 (v3 2)) (gn3 0) tt3 (call3 sp_q12 (cons3 (v3 0) nil3))) nil3)))))) (ret3 (c3 (.bl false))) next3)) (ret3 (c3 (.bl true)))))
noncomputable def ss2:List Str:=["script", "state", "picture", "turn", "found", "odd", "due", "far", "pair", "row", "many"]
noncomputable def wk1 (sp_q1 sp_q2 sp_q5 sp_q6 sp_q7 sp_q8 sp_q9 sp_q11 sp_q12 sp_q17 sp_q18 sp_q22:Sp3):TS3 :=
 (ret3 (andV3 (call3 sp_q12 (cons3 (v3 10) nil3)) (o3 eqR (v3 10) (call3 sp_q6 (cons3 (v3 2) nil3)))))
noncomputable def zt0 (sp_q1 sp_q2 sp_q5 sp_q6 sp_q7 sp_q8 sp_q9 sp_q11 sp_q12 sp_q17 sp_q18 sp_q22:Sp3):TS3 :=
 (seq3 (set3 10 (call3 sp_q22 (cons3 (v3 2) nil3))) (wk1 sp_q1 sp_q2 sp_q5 sp_q6 sp_q7 sp_q8 sp_q9 sp_q11 sp_q12 sp_q17 sp_q18 sp_q22))
noncomputable def xa1 (sp_q1 sp_q2 sp_q5 sp_q6 sp_q7 sp_q8 sp_q9 sp_q11 sp_q12 sp_q17 sp_q18 sp_q22:Sp3):TS3 :=
 (seq3 (ifs3 (and3 (b3 (o3 eqR (call3 sp_q1 (cons3 (v3 1) (cons3 (c3 (.int 16)) nil3))) (c3 (.int 3)))) (or3 (b3 (o3 neR (call3 sp_q18 (cons3 (v3 9) nil3)) (lst3 (cons3 (v3 9) nil3)))) (b3 (o3 neR (call3 sp_q17 (cons3 (v3 9) nil3)) (lst3 (cons3 (tup3 (cons3 (c3 (.int 0)) (cons3 (c3 (.int 0)) nil3))) (cons3 (tup3 (cons3 (c3 (.int 1000)) (cons3 (c3 (.int 0)) nil3))) nil3))))))) (ret3 (c3 (.bl false))) next3) (zt0 sp_q1 sp_q2 sp_q5 sp_q6 sp_q7 sp_q8 sp_q9 sp_q11 sp_q12 sp_q17 sp_q18 sp_q22))
noncomputable def ya1 (sp_q1 sp_q2 sp_q5 sp_q6 sp_q7 sp_q8 sp_q9 sp_q11 sp_q12 sp_q17 sp_q18 sp_q22:Sp3):TS3 :=
 (seq3 (set3 9 (call3 tupR (cons3 (comp3 [none] (ir3 (cons3 (c3 (.int 1000)) nil3)) (gn3 0) tt3 (tup3 (cons3 (v3 0) (cons3 (c3 (.int 0)) (cons3 (c3 (.int 0)) nil3))))) nil3))) (xa1 sp_q1 sp_q2 sp_q5 sp_q6 sp_q7 sp_q8 sp_q9 sp_q11 sp_q12 sp_q17 sp_q18 sp_q22))
noncomputable def xx1 (sp_q1 sp_q2 sp_q5 sp_q6 sp_q7 sp_q8 sp_q9 sp_q11 sp_q12 sp_q17 sp_q18 sp_q22:Sp3):TS3 :=
 (seq3 (ifs3 (b3 (o3 neR (call3 sp_q17 (cons3 (v3 8) nil3)) (lst3 (cons3 (tup3 (cons3 (c3 (.int 0)) (cons3 (c3 (.int 0)) nil3))) (cons3 (tup3 (cons3 (c3 (.int 1)) (cons3 (c3 (.int 0)) nil3))) (cons3 (tup3 (cons3 (v3 7) (cons3 (v3 7) nil3))) (cons3 (tup3 (cons3 (o3 addR (v3 7) (c3 (.int 1))) (cons3 (v3 7) nil3))) nil3))))))) (ret3 (c3 (.bl false))) next3) (ya1 sp_q1 sp_q2 sp_q5 sp_q6 sp_q7 sp_q8 sp_q9 sp_q11 sp_q12 sp_q17 sp_q18 sp_q22))
noncomputable def za1 (sp_q1 sp_q2 sp_q5 sp_q6 sp_q7 sp_q8 sp_q9 sp_q11 sp_q12 sp_q17 sp_q18 sp_q22:Sp3):TS3 :=
 (seq3 (ifs3 (or3 (b3 (o3 neR (call3 sp_q18 (cons3 (v3 8) nil3)) (lst3 (cons3 (sl3 slR (v3 8) np3 (pt3 (c3 (.int 1)))) (cons3 (sl3 slR (v3 8) (pt3 (c3 (.int 1))) np3) nil3))))) (b3 (o3 neR (call3 sp_q22 (cons3 (v3 8) nil3)) (c3 (.int 2))))) (ret3 (c3 (.bl false))) next3) (xx1 sp_q1 sp_q2 sp_q5 sp_q6 sp_q7 sp_q8 sp_q9 sp_q11 sp_q12 sp_q17 sp_q18 sp_q22))
noncomputable def yx1 (sp_q1 sp_q2 sp_q5 sp_q6 sp_q7 sp_q8 sp_q9 sp_q11 sp_q12 sp_q17 sp_q18 sp_q22:Sp3):TS3 :=
 (seq3 (set3 8 (tup3 (cons3 (tup3 (cons3 (c3 (.int 0)) (cons3 (c3 (.int 0)) (cons3 (c3 (.int 0)) nil3)))) (cons3 (tup3 (cons3 (v3 7) (cons3 (v3 7) (cons3 (c3 (.int 0)) nil3)))) nil3)))) (za1 sp_q1 sp_q2 sp_q5 sp_q6 sp_q7 sp_q8 sp_q9 sp_q11 sp_q12 sp_q17 sp_q18 sp_q22))
noncomputable def wa1 (sp_q1 sp_q2 sp_q5 sp_q6 sp_q7 sp_q8 sp_q9 sp_q11 sp_q12 sp_q17 sp_q18 sp_q22:Sp3):TS3 :=
 (seq3 (set3 7 (o3 addR (c3 (.int 2)) (call3 sp_q1 (cons3 (v3 1) (cons3 (o3 powR (c3 (.int 10)) (c3 (.int 20))) nil3))))) (yx1 sp_q1 sp_q2 sp_q5 sp_q6 sp_q7 sp_q8 sp_q9 sp_q11 sp_q12 sp_q17 sp_q18 sp_q22))
noncomputable def va1 (sp_q1 sp_q2 sp_q5 sp_q6 sp_q7 sp_q8 sp_q9 sp_q11 sp_q12 sp_q17 sp_q18 sp_q22:Sp3):TS3 :=
 (seq3 (for3 (ir3 (cons3 (c3 (.int 2)) nil3)) (gn3 3) (seq3 (set3 4 (call3 sp_q18 (cons3 (v3 2) nil3))) (seq3 (set3 5 (call3 sp_q17 (cons3 (v3 2) nil3))) (seq3 (set3 6 (call3 sp_q9 (cons3 (v3 2) nil3))) (seq3 (ifs3 (or3 (not3 (b3 (call3 isiR (cons3 (v3 4) (cons3 (c3 (.ty "list")) nil3))))) (or3 (b3 (o3 neR (call3 lenR (cons3 (v3 4) nil3)) (call3 lenR (cons3 (v3 6) nil3)))) (not3 (b3 (call3 isiR (cons3 (v3 5) (cons3 (c3 (.ty "list")) nil3))))))) (ret3 (c3 (.bl false))) next3) (seq3 (ifs3 (not3 (b3 (call3 allR (cons3 (comp3 [none,none] (iz3 (cons3 (v3 4) (cons3 (v3 6) nil3))) (gtup3 2 (gcons3 (gn3 0) (gcons3 (gn3 1) gnil3))) tt3 (call3 sp_q5 (cons3 (v3 0) (cons3 (v3 1) nil3)))) nil3)))) (ret3 (c3 (.bl false))) next3) (seq3 (ifs3 (or3 (b3 (o3 neR (v3 5) (call3 sp_q7 (cons3 (v3 2) nil3)))) (not3 (b3 (call3 allR (cons3 (comp3 [none] (is3 (v3 5)) (gn3 0) tt3 (call3 isiR (cons3 (v3 0) (cons3 (c3 (.ty "tuple")) nil3)))) nil3))))) (ret3 (c3 (.bl false))) next3) (seq3 (drop3 (mt3 appR (v3 4) (cons3 (tup3 nil3) nil3))) (drop3 (mt3 appR (v3 5) (cons3 (tup3 (cons3 (c3 (.int 0)) (cons3 (c3 (.int 0)) nil3))) nil3))))))))))) (wa1 sp_q1 sp_q2 sp_q5 sp_q6 sp_q7 sp_q8 sp_q9 sp_q11 sp_q12 sp_q17 sp_q18 sp_q22))
noncomputable def zx1 (sp_q1 sp_q2 sp_q5 sp_q6 sp_q7 sp_q8 sp_q9 sp_q11 sp_q12 sp_q17 sp_q18 sp_q22:Sp3):TS3 :=
 (seq3 (ifs3 (b3 (o3 eqR (call3 sp_q1 (cons3 (v3 1) (cons3 (c3 (.int 2)) nil3))) (c3 (.int 1)))) (set3 2 (call3 sp_q2 (cons3 (v3 1) (cons3 (c3 (.int 16)) nil3)))) next3) (va1 sp_q1 sp_q2 sp_q5 sp_q6 sp_q7 sp_q8 sp_q9 sp_q11 sp_q12 sp_q17 sp_q18 sp_q22))
noncomputable def wx1 (sp_q1 sp_q2 sp_q5 sp_q6 sp_q7 sp_q8 sp_q9 sp_q11 sp_q12 sp_q17 sp_q18 sp_q22:Sp3):TS3 :=
 (seq3 (set3 2 (call3 sp_q8 (cons3 (v3 1) (cons3 (c3 (.int 12)) nil3)))) (zx1 sp_q1 sp_q2 sp_q5 sp_q6 sp_q7 sp_q8 sp_q9 sp_q11 sp_q12 sp_q17 sp_q18 sp_q22))
noncomputable def tu2 (sp_q1 sp_q2 sp_q5 sp_q6 sp_q7 sp_q8 sp_q9 sp_q11 sp_q12 sp_q17 sp_q18 sp_q22:Sp3):TS3 :=
 (seq3 (set3 1 (call3 sp_q11 (cons3 (v3 0) (cons3 (c3 (.int 0)) nil3)))) (wx1 sp_q1 sp_q2 sp_q5 sp_q6 sp_q7 sp_q8 sp_q9 sp_q11 sp_q12 sp_q17 sp_q18 sp_q22))
end Pv
namespace Pv
open PySem PySem.Spec PyProof.Rows L2
section
variable {P:Program} {w:World} {K:Fg} {mg:Str->Option Value} {base:Heap}
theorem sc_q13:FnScope yt2 ["picture"] (wa0 vg1):=⟨rfl,rfl,rfl,by decide +kernel,rfl,by decide +kernel,by decide +kernel⟩
theorem wz2 {k:Nat} {f:Addr} {cdv:Value} {A:Around} {outer:List Env} {s:Shared} {H:Hp} {E:XK} {sp_q14:Sp3} {k_q14:Nat} (c_q14:Cal P w K mg base k_q14 "check_stroke" ["stroke"] sp_q14) (l_q14:k_q14<=k) (z_len:mg "len" = none) (z_range:mg "range" = none) (hr:Room k (A.deeper (envOfC "check_picture" (wa0 vg1) s.heap.objs.size f cdv))) :
    RSs (cxOf CX0 P w K mg base yt2 "check_picture" (wa0 vg1) f cdv A outer s H E).nox (tb0 vg1) (xv2 sp_q14) :=
 (ta0 (se0 PassesOwn.never rfl (we0 (ya0 0)) (vb0 (i:=1) sc_q13.nd) (xb0 (tg0 (yb0 (c_q14.mono l_q14) hr (xa0 (ya0 1) va0))))) (xb0 (se0 PassesOwn.never rfl (um1 z_range sa0 (zb0 zn0 z_len xi0 (xa0 (ya0 0) va0))) (vb0 (i:=2) sc_q13.nd) (xb0 (zg0 (uc0 (td3 (hu64 hr)) (uf0 q_ix (ya0 0) (vc0 zn1 (ya0 2) sa0)) (uf0 q_ix (ya0 0) (ya0 2))) (xb0 wb1) xd0)))))
theorem vx2:FnScope zw1 ["stroke"] (wa0 wg1):=⟨rfl,rfl,rfl,by decide +kernel,rfl,by decide +kernel,by decide +kernel⟩
theorem zz2 {k:Nat} {f:Addr} {cdv:Value} {A:Around} {outer:List Env} {s:Shared} {H:Hp} {E:XK} (z_len:mg "len" = none) (g_WAYS:Gd K mg "WAYS" xv0) (hr:Room k (A.deeper (envOfC "check_stroke" (wa0 wg1) s.heap.objs.size f cdv))) :
    RSs (cxOf CX0 P w K mg base zw1 "check_stroke" (wa0 wg1) f cdv A outer s H E).nox (tb0 wg1) (sw1) :=
 (xb0 (zg0 (tt0 (wr0 (uc0 (q_ne (hu64 hr)) (zb0 zn0 z_len xi0 (xa0 (ya0 0) va0)) sa0) (wm0 (uc0 (uk2 (hu65 hr)) (uf0 q_ix (ya0 0) sa0) (re_g g_WAYS))))) (xb0 wb1) xd0))
theorem wx2:FnScope xt2 ["stroke"] (wa0 zg1):=⟨rfl,rfl,rfl,by decide +kernel,rfl,by decide +kernel,by decide +kernel⟩
theorem yz2 {k:Nat} {f:Addr} {cdv:Value} {A:Around} {outer:List Env} {s:Shared} {H:Hp} {E:XK} (hr:Room k (A.deeper (envOfC "ends_of" (wa0 zg1) s.heap.objs.size f cdv))) :
    RSs (cxOf CX0 P w K mg base xt2 "ends_of" (wa0 zg1) f cdv A outer s H E).nox (tb0 zg1) (su2) :=
 (ta0 (zg0 (uc0 (q_eq (hu64 hr)) (uf0 q_ix (ya0 0) sa0) sa0) (xb0 (yc0 (td0 (xa0 (td0 (xa0 (uf0 q_ix (ya0 0) sa0) (xa0 (uf0 q_ix (ya0 0) sa0) va0))) (xa0 (td0 (xa0 (vc0 xh0 (uf0 q_ix (ya0 0) sa0) sa0) (xa0 (uf0 q_ix (ya0 0) sa0) va0))) va0))))) xd0) (xb0 (yc0 (td0 (xa0 (td0 (xa0 (uf0 q_ix (ya0 0) sa0) (xa0 (uf0 q_ix (ya0 0) sa0) va0))) (xa0 (td0 (xa0 (uf0 q_ix (ya0 0) sa0) (xa0 (vc0 xh0 (uf0 q_ix (ya0 0) sa0) sa0) va0))) va0))))))
theorem sc_q18:FnScope ws2 ["picture"] (wa0 xg1):=⟨rfl,rfl,rfl,by decide +kernel,rfl,by decide +kernel,by decide +kernel⟩
theorem ty2 {k:Nat} {f:Addr} {cdv:Value} {A:Around} {outer:List Env} {s:Shared} {H:Hp} {E:XK} {sp_q13:Sp3} {k_q13:Nat} (c_q13:Cal P w K mg base k_q13 "check_picture" ["picture"] sp_q13) (l_q13:k_q13<=k) {sp_q19:Sp3} {k_q19:Nat} (c_q19:Cal P w K mg base k_q19 "piece_with" ["stroke", "at", "seen"] sp_q19) (l_q19:k_q19<=k) {sp_q20:Sp3} {k_q20:Nat} (c_q20:Cal P w K mg base k_q20 "strokes_at" ["picture"] sp_q20) (l_q20:k_q20<=k) (hr:Room k (A.deeper (envOfC "picture_pieces" (wa0 xg1) s.heap.objs.size f cdv))) :
    RSs (cxOf CX0 P w K mg base ws2 "picture_pieces" (wa0 xg1) f cdv A outer s H E).nox (tb0 xg1) (vu2 sp_q13 sp_q19 sp_q20) :=
 (ta0 (tg0 (yb0 (c_q13.mono l_q13) hr (xa0 (ya0 0) va0))) (ta0 (sb0 (i:=1) sc_q18.nd (yb0 (c_q20.mono l_q20) hr (xa0 (ya0 0) va0))) (ta0 (sb0 (i:=2) sc_q18.nd xc1) (ta0 (sb0 (i:=3) sc_q18.nd (zh0 va0)) (ta0 (se0 PassesOwn.never rfl (we0 (ya0 0)) (vb0 (i:=4) sc_q18.nd) (xb0 (zg0 (uc0 (wf2 (hu64 hr)) (ya0 4) (ya0 2)) (xb0 (tg0 (vh0 (ya0 3) (xa0 (yb0 (c_q19.mono l_q19) hr (xa0 (ya0 4) (xa0 (ya0 1) (xa0 (ya0 2) va0)))) va0)))) xd0))) (xb0 (yc0 (ya0 3))))))))
theorem sc_q20:FnScope ys2 ["picture"] (wa0 tf1):=⟨rfl,rfl,rfl,by decide +kernel,rfl,by decide +kernel,by decide +kernel⟩
theorem vy2 {k:Nat} {f:Addr} {cdv:Value} {A:Around} {outer:List Env} {s:Shared} {H:Hp} {E:XK} {sp_q15:Sp3} {k_q15:Nat} (c_q15:Cal P w K mg base k_q15 "ends_of" ["stroke"] sp_q15) (l_q15:k_q15<=k) (hr:Room k (A.deeper (envOfC "strokes_at" (wa0 tf1) s.heap.objs.size f cdv))) :
    RSs (cxOf CX0 P w K mg base ys2 "strokes_at" (wa0 tf1) f cdv A outer s H E).nox (tb0 tf1) (zu2 sp_q15) :=
 (ta0 (sb0 (i:=1) sc_q20.nd xc1) (ta0 (se0 PassesOwn.never rfl (we0 (ya0 0)) (vb0 (i:=2) sc_q20.nd) (xb0 (se0 PassesOwn.never rfl (we0 (yb0 (c_q15.mono l_q15) hr (xa0 (ya0 2) va0))) (vb0 (i:=3) sc_q20.nd) (xb0 (tg0 (vh0 (sq3 (hu64 hr) (ya0 1) (xa0 (ya0 3) (xa0 (zh0 va0) va0))) (xa0 (ya0 2) va0))))))) (xb0 (yc0 (ya0 1)))))
theorem sc_q19:FnScope zs2 ["stroke", "at", "seen"] (wa0 sf1):=⟨rfl,rfl,rfl,by decide +kernel,rfl,by decide +kernel,by decide +kernel⟩
theorem uy2 {k:Nat} {f:Addr} {cdv:Value} {A:Around} {outer:List Env} {s:Shared} {H:Hp} {E:XK} {sp_q15:Sp3} {k_q15:Nat} (c_q15:Cal P w K mg base k_q15 "ends_of" ["stroke"] sp_q15) (l_q15:k_q15<=k) {sp_q21:Sp3} {k_q21:Nat} (c_q21:Cal P w K mg base k_q21 "take_unseen" ["strokes", "seen"] sp_q21) (l_q21:k_q21<=k) (z_len:mg "len" = none) (z_sorted:mg "sorted" = none) (z_tuple:mg "tuple" = none) (hr:Room k (A.deeper (envOfC "piece_with" (wa0 sf1) s.heap.objs.size f cdv))) :
    RSs (cxOf CX0 P w K mg base zs2 "piece_with" (wa0 sf1) f cdv A outer s H E).nox (tb0 sf1) (wu2 sp_q15 sp_q21) :=
 (ta0 (yk0 (hu64 hr) (ya0 2) (ya0 0) yi0) (ta0 (sb0 (i:=3) sc_q19.nd (zh0 (xa0 (ya0 0) va0))) (ta0 (sb0 (i:=4) sc_q19.nd sa0) (ta0 (xy1 PassesOwn.never (uc0 q_lt (ya0 4) (zb0 zn0 z_len xi0 (xa0 (ya0 3) va0))) (ta0 (sb0 (i:=5) sc_q19.nd (uf0 q_ix (ya0 3) (ya0 4))) (ta0 (se0 PassesOwn.never rfl (we0 (yb0 (c_q15.mono l_q15) hr (xa0 (ya0 5) va0))) (vb0 (i:=6) sc_q19.nd) (xb0 (tg0 (sm1 (ya0 3) (xa0 (yb0 (c_q21.mono l_q21) hr (xa0 (zp0 (hu64 hr) (ya0 1) (ya0 6)) (xa0 (ya0 2) va0))) va0))))) (xb0 (sb0 (i:=4) sc_q19.nd (vc0 xh0 (ya0 4) sa0)))))) (xb0 (yc0 (wh0 xn0 z_tuple sf0 (xa0 (zb0 (yn0 rfl) z_sorted sh0 (xa0 (ya0 3) va0)) va0))))))))
theorem sc_q21:FnScope xs2 ["strokes", "seen"] (wa0 uf1):=⟨rfl,rfl,rfl,by decide +kernel,rfl,by decide +kernel,by decide +kernel⟩
theorem wy2 {k:Nat} {f:Addr} {cdv:Value} {A:Around} {outer:List Env} {s:Shared} {H:Hp} {E:XK} (hr:Room k (A.deeper (envOfC "take_unseen" (wa0 uf1) s.heap.objs.size f cdv))) :
    RSs (cxOf CX0 P w K mg base xs2 "take_unseen" (wa0 uf1) f cdv A outer s H E).nox (tb0 uf1) (yu2) :=
 (ta0 (yy1 (i:=2) sc_q21.nd (NN:=["stroke", "seen"]) (js:=[none,some 1]) rfl wo0 (we0 (ya0 0)) (λ _ _ _ _ _=>(vb0 (i:=0) (show List.Nodup (["stroke", "seen"]:List Str) by decide +kernel))) (λ _ _ _ _ _=>(vm0 (uc0 (wf2 (hu64 hr)) (ya0 0) (ya0 1)))) (λ _ _ _ _ _=>(ya0 0)) (by intro _; rfl)) (ta0 (se0 PassesOwn.never rfl (we0 (ya0 2)) (vb0 (i:=3) sc_q21.nd) (xb0 (yk0 (hu64 hr) (ya0 1) (ya0 3) yi0))) (xb0 (yc0 (ya0 2)))))
theorem sc_q17:FnScope vs2 ["picture"] (wa0 yg1):=⟨rfl,rfl,rfl,by decide +kernel,rfl,by decide +kernel,by decide +kernel⟩
theorem sy2 {k:Nat} {f:Addr} {cdv:Value} {A:Around} {outer:List Env} {s:Shared} {H:Hp} {E:XK} {sp_q13:Sp3} {k_q13:Nat} (c_q13:Cal P w K mg base k_q13 "check_picture" ["picture"] sp_q13) (l_q13:k_q13<=k) {sp_q20:Sp3} {k_q20:Nat} (c_q20:Cal P w K mg base k_q20 "strokes_at" ["picture"] sp_q20) (l_q20:k_q20<=k) (z_len:mg "len" = none) (z_sorted:mg "sorted" = none) (hr:Room k (A.deeper (envOfC "odd_points" (wa0 yg1) s.heap.objs.size f cdv))) :
    RSs (cxOf CX0 P w K mg base vs2 "odd_points" (wa0 yg1) f cdv A outer s H E).nox (tb0 yg1) (uu2 sp_q13 sp_q20) :=
 (ta0 (tg0 (yb0 (c_q13.mono l_q13) hr (xa0 (ya0 0) va0))) (ta0 (sb0 (i:=1) sc_q17.nd (yb0 (c_q20.mono l_q20) hr (xa0 (ya0 0) va0))) (xb0 (yc0 (zb0 yu0 z_sorted sh0 (xa0 (si0 (NN:=["point", "at"]) (js:=[none,some 1]) rfl wo0 (se2 (ya0 1)) (λ _ _ _ _ _=>(vb0 (i:=0) (show List.Nodup (["point", "at"]:List Str) by decide +kernel))) (λ _ _ _ _ _=>(vm0 (uc0 (q_eq (hu64 hr)) (vc0 zu0 (zb0 zn0 z_len xi0 (xa0 (zp0 (hu64 hr) (ya0 1) (ya0 0)) va0)) sa0) sa0))) (λ _ _ _ _ _=>(ya0 0)) (by intro _; rfl)) va0))))))
theorem zx2:FnScope sr2 ["picture"] (wa0 vf1):=⟨rfl,rfl,rfl,by decide +kernel,rfl,by decide +kernel,by decide +kernel⟩
theorem zy2 {k:Nat} {f:Addr} {cdv:Value} {A:Around} {outer:List Env} {s:Shared} {H:Hp} {E:XK} {sp_q18:Sp3} {k_q18:Nat} (c_q18:Cal P w K mg base k_q18 "picture_pieces" ["picture"] sp_q18) (l_q18:k_q18<=k) {sp_q23:Sp3} {k_q23:Nat} (c_q23:Cal P w K mg base k_q23 "trails_of_piece_needed" ["piece"] sp_q23) (l_q23:k_q23<=k) (z_sum:mg "sum" = none) (hr:Room k (A.deeper (envOfC "trails_needed" (wa0 vf1) s.heap.objs.size f cdv))) :
    RSs (cxOf CX0 P w K mg base sr2 "trails_needed" (wa0 vf1) f cdv A outer s H E).nox (tb0 vf1) (xu2 sp_q18 sp_q23) :=
 (xb0 (yc0 (zb0 yd3 z_sum uh2 (xa0 (wk0 (NN:=["piece"]) (by decide +kernel) (by decide +kernel) (by decide +kernel) (we0 (yb0 (c_q18.mono l_q18) hr (xa0 (ya0 0) va0))) (λ _ _ _ _ _=>(vb0 (i:=0) (show List.Nodup (["piece"]:List Str) by decide +kernel))) (λ _ _ _ _ _=>xk0) (λ _ _ _ _ _=>(yb0 (c_q23.mono l_q23) hr (xa0 (ya0 0) va0)))) va0))))
theorem yx2:FnScope tr2 ["piece"] (wa0 wf1):=⟨rfl,rfl,rfl,by decide +kernel,rfl,by decide +kernel,by decide +kernel⟩
theorem yy2 {k:Nat} {f:Addr} {cdv:Value} {A:Around} {outer:List Env} {s:Shared} {H:Hp} {E:XK} {sp_q17:Sp3} {k_q17:Nat} (c_q17:Cal P w K mg base k_q17 "odd_points" ["picture"] sp_q17) (l_q17:k_q17<=k) (z_len:mg "len" = none) (z_max:mg "max" = none) (hr:Room k (A.deeper (envOfC "trails_of_piece_needed" (wa0 wf1) s.heap.objs.size f cdv))) :
    RSs (cxOf CX0 P w K mg base tr2 "trails_of_piece_needed" (wa0 wf1) f cdv A outer s H E).nox (tb0 wf1) (tt2 sp_q17) :=
 (xb0 (yc0 (zb0 (q_mx rfl) z_max xv1 (xa0 sa0 (xa0 (vc0 zc1 (zb0 zn0 z_len xi0 (xa0 (yb0 (c_q17.mono l_q17) hr (xa0 (ya0 0) va0)) va0)) sa0) va0)))))
theorem vp3:FnScope N_q0 ["script", "k"] (wa0 s_q0):=⟨rfl,rfl,rfl,by decide +kernel,rfl,by decide +kernel,by decide +kernel⟩
theorem tq3 {k:Nat} {f:Addr} {cdv:Value} {A:Around} {outer:List Env} {s:Shared} {H:Hp} {E:XK} (z_len:mg "len" = none) (hr:Room k (A.deeper (envOfC "_law_cell_at" (wa0 s_q0) s.heap.objs.size f cdv))) :
    RSs (cxOf CX0 P w K mg base N_q0 "_law_cell_at" (wa0 s_q0) f cdv A outer s H E).nox (tb0 s_q0) (t_q0) :=
 (ta0 (zg0 (uc0 q_lt (ya0 1) (zb0 zn0 z_len xi0 (xa0 (ya0 0) va0))) (xb0 (yc0 (uf0 q_ix (ya0 0) (ya0 1)))) xd0) (xb0 (yc0 sa0)))
theorem ux2:FnScope wd2 ["found"] (wa0 ug1):=⟨rfl,rfl,rfl,by decide +kernel,rfl,by decide +kernel,by decide +kernel⟩
theorem vz2 {k:Nat} {f:Addr} {cdv:Value} {A:Around} {outer:List Env} {s:Shared} {H:Hp} {E:XK} (z_bool:mg "bool" = none) (z_int:mg "int" = none) (z_isinstance:mg "isinstance" = none) (hr:Room k (A.deeper (envOfC "_law_whole" (wa0 ug1) s.heap.objs.size f cdv))) :
    RSs (cxOf CX0 P w K mg base wd2 "_law_whole" (wa0 ug1) f cdv A outer s H E).nox (tb0 ug1) (ti2) :=
 (xb0 (yc0 (zf2 (zb0 ux0 z_isinstance vd0 (xa0 (ya0 0) (xa0 (vx0 z_int xn3) va0))) (yf2 (wa3 (zb0 ux0 z_isinstance vd0 (xa0 (ya0 0) (xa0 (vx0 z_bool wr2) va0))))))))
theorem sc_q11:FnScope vd2 ["script", "k"] (wa0 tg1):=⟨rfl,rfl,rfl,by decide +kernel,rfl,by decide +kernel,by decide +kernel⟩
theorem uz2 {k:Nat} {f:Addr} {cdv:Value} {A:Around} {outer:List Env} {s:Shared} {H:Hp} {E:XK} {sp_q0:Sp3} {k_q0:Nat} (c_q0:Cal P w K mg base k_q0 "_law_cell_at" ["script", "k"] sp_q0) (l_q0:k_q0<=k) (hr:Room k (A.deeper (envOfC "_law_state" (wa0 tg1) s.heap.objs.size f cdv))) :
    RSs (cxOf CX0 P w K mg base vd2 "_law_state" (wa0 tg1) f cdv A outer s H E).nox (tb0 tg1) (si2 sp_q0) :=
 (ta0 (sb0 (i:=2) sc_q11.nd (yb0 (c_q0.mono l_q0) hr (xa0 (ya0 0) (xa0 (ya0 1) va0)))) (ta0 (zg0 (uc0 (td3 (hu64 hr)) (ya0 2) (vc0 vk2 sa0 sa0)) (xb0 (yc0 (zh0 (xa0 (vc0 zn1 (ya0 2) (vc0 vk2 sa0 sa0)) (xa0 yi0 va0))))) xd0) (xb0 (yc0 (zh0 (xa0 (vc0 zu0 (ya0 2) sa0) (xa0 yi0 va0)))))))
theorem sc_q1:FnScope N_q1 ["state", "many"] (wa0 s_q1):=⟨rfl,rfl,rfl,by decide +kernel,rfl,by decide +kernel,by decide +kernel⟩
theorem uq3 {k:Nat} {f:Addr} {cdv:Value} {A:Around} {outer:List Env} {s:Shared} {H:Hp} {E:XK} (hr:Room k (A.deeper (envOfC "_law_choice" (wa0 s_q1) s.heap.objs.size f cdv))) :
    RSs (cxOf CX0 P w K mg base N_q1 "_law_choice" (wa0 s_q1) f cdv A outer s H E).nox (tb0 s_q1) (t_q1) :=
 (ta0 (zg0 (tk0 (uf0 q_ix (ya0 0) sa0)) (ta0 (sb0 (i:=2) sc_q1.nd (vc0 zu0 (uf0 q_ix (ya0 0) sa0) (ya0 1))) (ta0 (xu0 (vc0 zc1 (uf0 q_ix (ya0 0) sa0) (ya0 1)) (xf2 (ya0 0) sa0)) (xb0 (yc0 (ya0 2))))) xd0) (ta0 (xu0 (vc0 zu0 (vc0 xh0 (vc0 vn1 (uf0 q_ix (ya0 0) sa0) sa0) sa0) sa0) (xf2 (ya0 0) sa0)) (ta0 (sb0 (i:=3) sc_q1.nd (vc0 zu0 (vc0 xh0 (vc0 xh0 (vc0 vn1 (uf0 q_ix (ya0 0) sa0) (uf0 q_ix (ya0 0) sa0)) (vc0 vn1 sa0 (uf0 q_ix (ya0 0) sa0))) sa0) sa0)) (ta0 (sb0 (i:=3) sc_q1.nd (vc0 zu0 (vc0 xh0 (vc0 vn1 (ya0 3) (ya0 3)) (vc0 vn1 sa0 (ya0 3))) sa0)) (xb0 (yc0 (vc0 zu0 (vc0 zc1 (ya0 3) sa0) (ya0 1))))))))
theorem sc_q8:FnScope N_q8 ["state", "most"] (wa0 s_q8):=⟨rfl,rfl,rfl,by decide +kernel,rfl,by decide +kernel,by decide +kernel⟩
theorem sp3 {k:Nat} {f:Addr} {cdv:Value} {A:Around} {outer:List Env} {s:Shared} {H:Hp} {E:XK} {sp_q1:Sp3} {k_q1:Nat} (c_q1:Cal P w K mg base k_q1 "_law_choice" ["state", "many"] sp_q1) (l_q1:k_q1<=k) (z_range:mg "range" = none) (z_sorted:mg "sorted" = none) (z_tuple:mg "tuple" = none) (hr:Room k (A.deeper (envOfC "_law_picture" (wa0 s_q8) s.heap.objs.size f cdv))) :
    RSs (cxOf CX0 P w K mg base N_q8 "_law_picture" (wa0 s_q8) f cdv A outer s H E).nox (tb0 s_q8) (t_q8 sp_q1) :=
 (ta0 (sb0 (i:=2) sc_q8.nd xn1) (ta0 (xu0 (td0 (xa0 sa0 (xa0 sa0 va0))) (vb1 rfl (yf0 (vb0 (i:=3) sc_q8.nd) (yf0 (vb0 (i:=4) sc_q8.nd) ur0)))) (ta0 (sb0 (i:=5) sc_q8.nd (vc0 xh0 sa0 (yb0 (c_q1.mono l_q1) hr (xa0 (ya0 0) (xa0 sa0 va0))))) (ta0 (se0 PassesOwn.never rfl (ti0 z_range (yb0 (c_q1.mono l_q1) hr (xa0 (ya0 0) (xa0 (vc0 xh0 (ya0 1) sa0) va0)))) (vb0 (i:=6) sc_q8.nd) (ta0 (zg0 (uc0 (q_eq (hu64 hr)) (yb0 (c_q1.mono l_q1) hr (xa0 (ya0 0) (xa0 sa0 va0))) sa0) (ta0 (sb0 (i:=3) sc_q8.nd (vc0 zn1 (yb0 (c_q1.mono l_q1) hr (xa0 (ya0 0) (xa0 (ya0 5) va0))) sa0)) (xb0 (sb0 (i:=4) sc_q8.nd (vc0 zn1 (yb0 (c_q1.mono l_q1) hr (xa0 (ya0 0) (xa0 (ya0 5) va0))) sa0)))) xd0) (ta0 (sl1 (hu64 hr) (ya0 2) (xa0 (ya0 3) (xa0 (ya0 4) (xa0 (yb0 (c_q1.mono l_q1) hr (xa0 (ya0 0) (xa0 sa0 va0))) va0))) yi0) (ta0 (sb0 (i:=3) sc_q8.nd (vc0 xh0 (ya0 3) (uf0 q_ix (zh0 (xa0 sa0 (xa0 sa0 (xa0 (za3 zd3 sa0) (xa0 sa0 va0))))) (yb0 (c_q1.mono l_q1) hr (xa0 (ya0 0) (xa0 sa0 va0)))))) (xb0 (sb0 (i:=4) sc_q8.nd (vc0 xh0 (ya0 4) (uf0 q_ix (zh0 (xa0 sa0 (xa0 sa0 (xa0 sa0 (xa0 (za3 zd3 sa0) va0))))) (yb0 (c_q1.mono l_q1) hr (xa0 (ya0 0) (xa0 sa0 va0))))))))))) (xb0 (yc0 (wh0 xn0 z_tuple sf0 (xa0 (zb0 (yn0 rfl) z_sorted sh0 (xa0 (ya0 2) va0)) va0))))))))
theorem sc_q2:FnScope N_q2 ["state", "most"] (wa0 s_q2):=⟨rfl,rfl,rfl,by decide +kernel,rfl,by decide +kernel,by decide +kernel⟩
theorem vq3 {k:Nat} {f:Addr} {cdv:Value} {A:Around} {outer:List Env} {s:Shared} {H:Hp} {E:XK} {sp_q1:Sp3} {k_q1:Nat} (c_q1:Cal P w K mg base k_q1 "_law_choice" ["state", "many"] sp_q1) (l_q1:k_q1<=k) (z_range:mg "range" = none) (z_sorted:mg "sorted" = none) (z_tuple:mg "tuple" = none) (hr:Room k (A.deeper (envOfC "_law_dense" (wa0 s_q2) s.heap.objs.size f cdv))) :
    RSs (cxOf CX0 P w K mg base N_q2 "_law_dense" (wa0 s_q2) f cdv A outer s H E).nox (tb0 s_q2) (t_q2 sp_q1) :=
 (ta0 (sb0 (i:=2) sc_q2.nd xn1) (ta0 (sb0 (i:=3) sc_q2.nd (vc0 xh0 sa0 (yb0 (c_q1.mono l_q1) hr (xa0 (ya0 0) (xa0 sa0 va0))))) (ta0 (se0 PassesOwn.never rfl (ti0 z_range (yb0 (c_q1.mono l_q1) hr (xa0 (ya0 0) (xa0 (vc0 xh0 (ya0 1) sa0) va0)))) (vb0 (i:=4) sc_q2.nd) (xb0 (sl1 (hu64 hr) (ya0 2) (xa0 (yb0 (c_q1.mono l_q1) hr (xa0 (ya0 0) (xa0 (ya0 3) va0))) (xa0 (yb0 (c_q1.mono l_q1) hr (xa0 (ya0 0) (xa0 (ya0 3) va0))) (xa0 (yb0 (c_q1.mono l_q1) hr (xa0 (ya0 0) (xa0 sa0 va0))) va0))) yi0))) (xb0 (yc0 (wh0 xn0 z_tuple sf0 (xa0 (zb0 (yn0 rfl) z_sorted sh0 (xa0 (ya0 2) va0)) va0)))))))
theorem sc_q3:FnScope N_q3 ["stroke"] (wa0 s_q3):=⟨rfl,rfl,rfl,by decide +kernel,rfl,by decide +kernel,by decide +kernel⟩
theorem wq3 {k:Nat} {f:Addr} {cdv:Value} {A:Around} {outer:List Env} {s:Shared} {H:Hp} {E:XK} (hr:Room k (A.deeper (envOfC "_law_ends" (wa0 s_q3) s.heap.objs.size f cdv))) :
    RSs (cxOf CX0 P w K mg base N_q3 "_law_ends" (wa0 s_q3) f cdv A outer s H E).nox (tb0 s_q3) (t_q3) :=
 (ta0 (xu0 (ya0 0) (vb1 rfl (yf0 (vb0 (i:=1) sc_q3.nd) (yf0 (vb0 (i:=2) sc_q3.nd) (yf0 (vb0 (i:=3) sc_q3.nd) ur0))))) (xb0 (yc0 (td0 (xa0 (td0 (xa0 (ya0 1) (xa0 (ya0 2) va0))) (xa0 (td0 (xa0 (vc0 zn1 (vc0 xh0 (ya0 1) sa0) (ya0 3)) (xa0 (vc0 xh0 (ya0 2) (ya0 3)) va0))) va0))))))
theorem sc_q10:FnScope zt2 ["picture"] (wa0 sg1):=⟨rfl,rfl,rfl,by decide +kernel,rfl,by decide +kernel,by decide +kernel⟩
theorem tz2 {k:Nat} {f:Addr} {cdv:Value} {A:Around} {outer:List Env} {s:Shared} {H:Hp} {E:XK} {sp_q3:Sp3} {k_q3:Nat} (c_q3:Cal P w K mg base k_q3 "_law_ends" ["stroke"] sp_q3) (l_q3:k_q3<=k) (hr:Room k (A.deeper (envOfC "_law_points" (wa0 sg1) s.heap.objs.size f cdv))) :
    RSs (cxOf CX0 P w K mg base zt2 "_law_points" (wa0 sg1) f cdv A outer s H E).nox (tb0 sg1) (yv2 sp_q3) :=
 (ta0 (sb0 (i:=1) sc_q10.nd xc1) (ta0 (se0 PassesOwn.never rfl (we0 (ya0 0)) (vb0 (i:=2) sc_q10.nd) (ta0 (xu0 (yb0 (c_q3.mono l_q3) hr (xa0 (ya0 2) va0)) (vb1 rfl (yf0 (vb0 (i:=3) sc_q10.nd) (yf0 (vb0 (i:=4) sc_q10.nd) ur0)))) (ta0 (yk0 (hu64 hr) (ya0 1) (ya0 3) (vc0 xh0 (va3 (hu64 hr) (ya0 1) (xa0 (ya0 3) (xa0 sa0 va0))) sa0)) (xb0 (yk0 (hu64 hr) (ya0 1) (ya0 4) (vc0 xh0 (va3 (hu64 hr) (ya0 1) (xa0 (ya0 4) (xa0 sa0 va0))) sa0)))))) (xb0 (yc0 (ya0 1)))))
theorem sc_q9:FnScope N_q9 ["picture"] (wa0 s_q9):=⟨rfl,rfl,rfl,by decide +kernel,rfl,by decide +kernel,by decide +kernel⟩
theorem tp3 {k:Nat} {f:Addr} {cdv:Value} {A:Around} {outer:List Env} {s:Shared} {H:Hp} {E:XK} {sp_q3:Sp3} {k_q3:Nat} (c_q3:Cal P w K mg base k_q3 "_law_ends" ["stroke"] sp_q3) (l_q3:k_q3<=k) (z_len:mg "len" = none) (z_max:mg "max" = none) (z_min:mg "min" = none) (z_tuple:mg "tuple" = none) (hr:Room k (A.deeper (envOfC "_law_pieces" (wa0 s_q9) s.heap.objs.size f cdv))) :
    RSs (cxOf CX0 P w K mg base N_q9 "_law_pieces" (wa0 s_q9) f cdv A outer s H E).nox (tb0 s_q9) (t_q9 sp_q3) :=
 (ta0 (sb0 (i:=1) sc_q9.nd xc1) (ta0 (se0 PassesOwn.never rfl (we0 (ya0 0)) (vb0 (i:=2) sc_q9.nd) (xb0 (yk0 (hu64 hr) (ya0 1) (ya0 2) (ya0 2)))) (ta0 (se0 PassesOwn.never rfl (we0 (ya0 0)) (vb0 (i:=3) sc_q9.nd) (xb0 (se0 PassesOwn.never rfl (we0 (ya0 0)) (vb0 (i:=4) sc_q9.nd) (xb0 (zg0 (uc0 q_gt (zb0 zn0 z_len xi0 (xa0 (si0 (NN:=["end", "other"]) (js:=[none,some 4]) rfl wo0 (we0 (yb0 (c_q3.mono l_q3) hr (xa0 (ya0 3) va0))) (λ _ _ _ _ _=>(vb0 (i:=0) (show List.Nodup (["end", "other"]:List Str) by decide +kernel))) (λ _ _ _ _ _=>(vm0 (uc0 (q_in (hu65 hr)) (ya0 0) (yb0 (c_q3.mono l_q3) hr (xa0 (ya0 1) va0))))) (λ _ _ _ _ _=>(ya0 0)) (by intro _; rfl)) va0)) sa0) (ta0 (sb0 (i:=5) sc_q9.nd (zb0 (wd3 rfl (hu64 hr)) z_min sm3 (xa0 (zp0 (hu64 hr) (ya0 1) (ya0 3)) (xa0 (zp0 (hu64 hr) (ya0 1) (ya0 4)) va0)))) (ta0 (sb0 (i:=6) sc_q9.nd (zb0 (vd3 rfl (hu64 hr)) z_max xv1 (xa0 (zp0 (hu64 hr) (ya0 1) (ya0 3)) (xa0 (zp0 (hu64 hr) (ya0 1) (ya0 4)) va0)))) (xb0 (se0 PassesOwn.never rfl (we0 (ya0 0)) (vb0 (i:=2) sc_q9.nd) (xb0 (zg0 (uc0 (q_eq (hu64 hr)) (zp0 (hu64 hr) (ya0 1) (ya0 2)) (ya0 6)) (xb0 (yk0 (hu64 hr) (ya0 1) (ya0 2) (ya0 5))) xd0)))))) xd0))))) (ta0 (sb0 (i:=7) sc_q9.nd (zh0 va0)) (ta0 (se0 PassesOwn.never rfl (we0 (ya0 0)) (vb0 (i:=2) sc_q9.nd) (xb0 (zg0 (uc0 (q_eq (hu64 hr)) (zp0 (hu64 hr) (ya0 1) (ya0 2)) (ya0 2)) (xb0 (tg0 (vh0 (ya0 7) (xa0 (wh0 xn0 z_tuple sf0 (xa0 (si0 (NN:=["other", "stroke", "mark"]) (js:=[none,some 2,some 1]) rfl wo0 (we0 (ya0 0)) (λ _ _ _ _ _=>(vb0 (i:=0) (show List.Nodup (["other", "stroke", "mark"]:List Str) by decide +kernel))) (λ _ _ _ _ _=>(vm0 (uc0 (q_eq (hu64 hr)) (zp0 (hu64 hr) (ya0 2) (ya0 0)) (ya0 1)))) (λ _ _ _ _ _=>(ya0 0)) (by intro _; rfl)) va0)) va0)))) xd0))) (xb0 (yc0 (ya0 7))))))))
theorem sc_q7:FnScope N_q7 ["picture"] (wa0 s_q7):=⟨rfl,rfl,rfl,by decide +kernel,rfl,by decide +kernel,by decide +kernel⟩
theorem xq3 {k:Nat} {f:Addr} {cdv:Value} {A:Around} {outer:List Env} {s:Shared} {H:Hp} {E:XK} {sp_q10:Sp3} {k_q10:Nat} (c_q10:Cal P w K mg base k_q10 "_law_points" ["picture"] sp_q10) (l_q10:k_q10<=k) (z_sorted:mg "sorted" = none) (hr:Room k (A.deeper (envOfC "_law_odd_points" (wa0 s_q7) s.heap.objs.size f cdv))) :
    RSs (cxOf CX0 P w K mg base N_q7 "_law_odd_points" (wa0 s_q7) f cdv A outer s H E).nox (tb0 s_q7) (t_q7 sp_q10) :=
 (ta0 (sb0 (i:=1) sc_q7.nd (yb0 (c_q10.mono l_q10) hr (xa0 (ya0 0) va0))) (xb0 (yc0 (zb0 yu0 z_sorted sh0 (xa0 (si0 (NN:=["place", "places"]) (js:=[none,some 1]) rfl wo0 (se2 (ya0 1)) (λ _ _ _ _ _=>(vb0 (i:=0) (show List.Nodup (["place", "places"]:List Str) by decide +kernel))) (λ _ _ _ _ _=>(vm0 (uc0 (q_eq (hu64 hr)) (vc0 zu0 (zp0 (hu64 hr) (ya0 1) (ya0 0)) sa0) sa0))) (λ _ _ _ _ _=>(ya0 0)) (by intro _; rfl)) va0)))))
theorem wp3:FnScope N_q6 ["picture"] (wa0 s_q6):=⟨rfl,rfl,rfl,by decide +kernel,rfl,by decide +kernel,by decide +kernel⟩
theorem yq3 {k:Nat} {f:Addr} {cdv:Value} {A:Around} {outer:List Env} {s:Shared} {H:Hp} {E:XK} {sp_q7:Sp3} {k_q7:Nat} (c_q7:Cal P w K mg base k_q7 "_law_odd_points" ["picture"] sp_q7) (l_q7:k_q7<=k) {sp_q9:Sp3} {k_q9:Nat} (c_q9:Cal P w K mg base k_q9 "_law_pieces" ["picture"] sp_q9) (l_q9:k_q9<=k) (z_len:mg "len" = none) (z_max:mg "max" = none) (z_sum:mg "sum" = none) (hr:Room k (A.deeper (envOfC "_law_needed" (wa0 s_q6) s.heap.objs.size f cdv))) :
    RSs (cxOf CX0 P w K mg base N_q6 "_law_needed" (wa0 s_q6) f cdv A outer s H E).nox (tb0 s_q6) (t_q6 sp_q7 sp_q9) :=
 (xb0 (yc0 (zb0 yd3 z_sum uh2 (xa0 (wk0 (NN:=["piece"]) (by decide +kernel) (by decide +kernel) (by decide +kernel) (we0 (yb0 (c_q9.mono l_q9) hr (xa0 (ya0 0) va0))) (λ _ _ _ _ _=>(vb0 (i:=0) (show List.Nodup (["piece"]:List Str) by decide +kernel))) (λ _ _ _ _ _=>xk0) (λ _ _ _ _ _=>(zb0 (q_mx rfl) z_max xv1 (xa0 sa0 (xa0 (vc0 zc1 (zb0 zn0 z_len xi0 (xa0 (yb0 (c_q7.mono l_q7) hr (xa0 (ya0 0) va0)) va0)) sa0) va0))))) va0))))
theorem sc_q5:FnScope N_q5 ["found", "due"] (wa0 s_q5):=⟨rfl,rfl,rfl,by decide +kernel,rfl,by decide +kernel,by decide +kernel⟩
theorem zq3 {k:Nat} {f:Addr} {cdv:Value} {A:Around} {outer:List Env} {s:Shared} {H:Hp} {E:XK} {sp_q12:Sp3} {k_q12:Nat} (c_q12:Cal P w K mg base k_q12 "_law_whole" ["found"] sp_q12) (l_q12:k_q12<=k) (z_all:mg "all" = none) (z_isinstance:mg "isinstance" = none) (z_len:mg "len" = none) (z_tuple:mg "tuple" = none) (hr:Room k (A.deeper (envOfC "_law_is_picture" (wa0 s_q5) s.heap.objs.size f cdv))) :
    RSs (cxOf CX0 P w K mg base N_q5 "_law_is_picture" (wa0 s_q5) f cdv A outer s H E).nox (tb0 s_q5) (t_q5 sp_q12) :=
 (ta0 (zg0 (tt0 (wr0 (um0 (tk0 (zb0 ux0 z_isinstance vd0 (xa0 (ya0 0) (xa0 (vx0 z_tuple sf0) va0))))) (wm0 (uc0 (q_ne (hu64 hr)) (ya0 0) (ya0 1))))) (xb0 (yc0 yi0)) xd0) (ta0 (se0 PassesOwn.never rfl (we0 (ya0 0)) (vb0 (i:=2) sc_q5.nd) (xb0 (zg0 (tt0 (wr0 (um0 (tk0 (zb0 ux0 z_isinstance vd0 (xa0 (ya0 2) (xa0 (vx0 z_tuple sf0) va0))))) (wr0 (uc0 (q_ne (hu64 hr)) (zb0 zn0 z_len xi0 (xa0 (ya0 2) va0)) sa0) (wm0 (um0 (tk0 (zb0 sk2 z_all zv1 (xa0 (wk0 (NN:=["part"]) (by decide +kernel) (by decide +kernel) (by decide +kernel) (we0 (ya0 2)) (λ _ _ _ _ _=>(vb0 (i:=0) (show List.Nodup (["part"]:List Str) by decide +kernel))) (λ _ _ _ _ _=>xk0) (λ _ _ _ _ _=>(yb0 (c_q12.mono l_q12) hr (xa0 (ya0 0) va0)))) va0)))))))) (xb0 (yc0 yi0)) xd0))) (xb0 (yc0 yi0))))
theorem sc_q16:FnScope ss2 ["script"] (wa0 yp0):=⟨rfl,rfl,rfl,by decide +kernel,rfl,by decide +kernel,by decide +kernel⟩
theorem xz2 {k:Nat} {f:Addr} {cdv:Value} {A:Around} {outer:List Env} {s:Shared} {H:Hp} {E:XK} {sp_q1:Sp3} {k_q1:Nat} (c_q1:Cal P w K mg base k_q1 "_law_choice" ["state", "many"] sp_q1) (l_q1:k_q1<=k) {sp_q2:Sp3} {k_q2:Nat} (c_q2:Cal P w K mg base k_q2 "_law_dense" ["state", "most"] sp_q2) (l_q2:k_q2<=k) {sp_q5:Sp3} {k_q5:Nat} (c_q5:Cal P w K mg base k_q5 "_law_is_picture" ["found", "due"] sp_q5) (l_q5:k_q5<=k) {sp_q6:Sp3} {k_q6:Nat} (c_q6:Cal P w K mg base k_q6 "_law_needed" ["picture"] sp_q6) (l_q6:k_q6<=k) {sp_q7:Sp3} {k_q7:Nat} (c_q7:Cal P w K mg base k_q7 "_law_odd_points" ["picture"] sp_q7) (l_q7:k_q7<=k) {sp_q8:Sp3} {k_q8:Nat} (c_q8:Cal P w K mg base k_q8 "_law_picture" ["state", "most"] sp_q8) (l_q8:k_q8<=k) {sp_q9:Sp3} {k_q9:Nat} (c_q9:Cal P w K mg base k_q9 "_law_pieces" ["picture"] sp_q9) (l_q9:k_q9<=k) {sp_q11:Sp3} {k_q11:Nat} (c_q11:Cal P w K mg base k_q11 "_law_state" ["script", "k"] sp_q11) (l_q11:k_q11<=k) {sp_q12:Sp3} {k_q12:Nat} (c_q12:Cal P w K mg base k_q12 "_law_whole" ["found"] sp_q12) (l_q12:k_q12<=k) {sp_q17:Sp3} {k_q17:Nat} (c_q17:Cal P w K mg base k_q17 "odd_points" ["picture"] sp_q17) (l_q17:k_q17<=k) {sp_q18:Sp3} {k_q18:Nat} (c_q18:Cal P w K mg base k_q18 "picture_pieces" ["picture"] sp_q18) (l_q18:k_q18<=k) {sp_q22:Sp3} {k_q22:Nat} (c_q22:Cal P w K mg base k_q22 "trails_needed" ["picture"] sp_q22) (l_q22:k_q22<=k) (z_all:mg "all" = none) (z_isinstance:mg "isinstance" = none) (z_len:mg "len" = none) (z_list:mg "list" = none) (z_range:mg "range" = none) (z_tuple:mg "tuple" = none) (z_zip:mg "zip" = none) (hr:Room k (A.deeper (envOfC "law" (wa0 yp0) s.heap.objs.size f cdv))) :
    RSs (cxOf CX0 P w K mg base ss2 "law" (wa0 yp0) f cdv A outer s H E).nox (tb0 yp0) (tu2 sp_q1 sp_q2 sp_q5 sp_q6 sp_q7 sp_q8 sp_q9 sp_q11 sp_q12 sp_q17 sp_q18 sp_q22) :=
 (ta0 (sb0 (i:=1) sc_q16.nd (yb0 (c_q11.mono l_q11) hr (xa0 (ya0 0) (xa0 sa0 va0)))) (ta0 (sb0 (i:=2) sc_q16.nd (yb0 (c_q8.mono l_q8) hr (xa0 (ya0 1) (xa0 sa0 va0)))) (ta0 (zg0 (uc0 (q_eq (hu64 hr)) (yb0 (c_q1.mono l_q1) hr (xa0 (ya0 1) (xa0 sa0 va0))) sa0) (xb0 (sb0 (i:=2) sc_q16.nd (yb0 (c_q2.mono l_q2) hr (xa0 (ya0 1) (xa0 sa0 va0))))) xd0) (ta0 (se0 PassesOwn.never rfl (ti0 z_range sa0) (vb0 (i:=3) sc_q16.nd) (ta0 (sb0 (i:=4) sc_q16.nd (yb0 (c_q18.mono l_q18) hr (xa0 (ya0 2) va0))) (ta0 (sb0 (i:=5) sc_q16.nd (yb0 (c_q17.mono l_q17) hr (xa0 (ya0 2) va0))) (ta0 (sb0 (i:=6) sc_q16.nd (yb0 (c_q9.mono l_q9) hr (xa0 (ya0 2) va0))) (ta0 (zg0 (tt0 (wr0 (um0 (tk0 (zb0 ux0 z_isinstance vd0 (xa0 (ya0 4) (xa0 (vx0 z_list yv1) va0))))) (wr0 (uc0 (q_ne (hu64 hr)) (zb0 zn0 z_len xi0 (xa0 (ya0 4) va0)) (zb0 zn0 z_len xi0 (xa0 (ya0 6) va0))) (wm0 (um0 (tk0 (zb0 ux0 z_isinstance vd0 (xa0 (ya0 5) (xa0 (vx0 z_list yv1) va0))))))))) (xb0 (yc0 yi0)) xd0) (ta0 (zg0 (um0 (tk0 (zb0 sk2 z_all zv1 (xa0 (wk0 (NN:=["one", "other"]) (by decide +kernel) (by decide +kernel) (by decide +kernel) (ya3 z_zip (ya0 4) (ya0 6)) (λ _ _ _ _ _=>(vb1 rfl (yf0 (vb0 (i:=0) (show List.Nodup (["one", "other"]:List Str) by decide +kernel)) (yf0 (vb0 (i:=1) (show List.Nodup (["one", "other"]:List Str) by decide +kernel)) ur0)))) (λ _ _ _ _ _=>xk0) (λ _ _ _ _ _=>(yb0 (c_q5.mono l_q5) hr (xa0 (ya0 0) (xa0 (ya0 1) va0))))) va0)))) (xb0 (yc0 yi0)) xd0) (ta0 (zg0 (tt0 (wr0 (uc0 (q_ne (hu64 hr)) (ya0 5) (yb0 (c_q7.mono l_q7) hr (xa0 (ya0 2) va0))) (wm0 (um0 (tk0 (zb0 sk2 z_all zv1 (xa0 (wk0 (NN:=["place"]) (by decide +kernel) (by decide +kernel) (by decide +kernel) (we0 (ya0 5)) (λ _ _ _ _ _=>(vb0 (i:=0) (show List.Nodup (["place"]:List Str) by decide +kernel))) (λ _ _ _ _ _=>xk0) (λ _ _ _ _ _=>(zb0 ux0 z_isinstance vd0 (xa0 (ya0 0) (xa0 (vx0 z_tuple sf0) va0))))) va0))))))) (xb0 (yc0 yi0)) xd0) (ta0 (tg0 (vh0 (ya0 4) (xa0 (td0 va0) va0))) (xb0 (tg0 (vh0 (ya0 5) (xa0 (td0 (xa0 sa0 (xa0 sa0 va0))) va0)))))))))))) (ta0 (sb0 (i:=7) sc_q16.nd (vc0 xh0 sa0 (yb0 (c_q1.mono l_q1) hr (xa0 (ya0 1) (xa0 (vc0 vk2 sa0 sa0) va0))))) (ta0 (sb0 (i:=8) sc_q16.nd (td0 (xa0 (td0 (xa0 sa0 (xa0 sa0 (xa0 sa0 va0)))) (xa0 (td0 (xa0 (ya0 7) (xa0 (ya0 7) (xa0 sa0 va0)))) va0)))) (ta0 (zg0 (tt0 (wr0 (uc0 (q_ne (hu64 hr)) (yb0 (c_q18.mono l_q18) hr (xa0 (ya0 8) va0)) (zh0 (xa0 (sb1 q_sl (ya0 8) wm1 (zm1 sa0)) (xa0 (sb1 q_sl (ya0 8) (zm1 sa0) wm1) va0)))) (wm0 (uc0 (q_ne (hu64 hr)) (yb0 (c_q22.mono l_q22) hr (xa0 (ya0 8) va0)) sa0)))) (xb0 (yc0 yi0)) xd0) (ta0 (zg0 (uc0 (q_ne (hu64 hr)) (yb0 (c_q17.mono l_q17) hr (xa0 (ya0 8) va0)) (zh0 (xa0 (td0 (xa0 sa0 (xa0 sa0 va0))) (xa0 (td0 (xa0 sa0 (xa0 sa0 va0))) (xa0 (td0 (xa0 (ya0 7) (xa0 (ya0 7) va0))) (xa0 (td0 (xa0 (vc0 xh0 (ya0 7) sa0) (xa0 (ya0 7) va0))) va0)))))) (xb0 (yc0 yi0)) xd0) (ta0 (sb0 (i:=9) sc_q16.nd (wh0 xn0 z_tuple sf0 (xa0 (wk0 (NN:=["k"]) (by decide +kernel) (by decide +kernel) (by decide +kernel) (ti0 z_range sa0) (λ _ _ _ _ _=>(vb0 (i:=0) (show List.Nodup (["k"]:List Str) by decide +kernel))) (λ _ _ _ _ _=>xk0) (λ _ _ _ _ _=>(td0 (xa0 (ya0 0) (xa0 sa0 (xa0 sa0 va0)))))) va0))) (ta0 (zg0 (tt0 (sx2 (uc0 (q_eq (hu64 hr)) (yb0 (c_q1.mono l_q1) hr (xa0 (ya0 1) (xa0 sa0 va0))) sa0) (tj2 (tt0 (wr0 (uc0 (q_ne (hu64 hr)) (yb0 (c_q18.mono l_q18) hr (xa0 (ya0 9) va0)) (zh0 (xa0 (ya0 9) va0))) (wm0 (uc0 (q_ne (hu64 hr)) (yb0 (c_q17.mono l_q17) hr (xa0 (ya0 9) va0)) (zh0 (xa0 (td0 (xa0 sa0 (xa0 sa0 va0))) (xa0 (td0 (xa0 sa0 (xa0 sa0 va0))) va0)))))))))) (xb0 (yc0 yi0)) xd0) (ta0 (sb0 (i:=10) sc_q16.nd (yb0 (c_q22.mono l_q22) hr (xa0 (ya0 2) va0))) (xb0 (yc0 (zf2 (yb0 (c_q12.mono l_q12) hr (xa0 (ya0 10) va0)) (yf2 (ua3 (q_eq (hu64 hr)) (ya0 10) (yb0 (c_q6.mono l_q6) hr (xa0 (ya0 2) va0))))))))))))))))))
end
end Pv
namespace Pv
open PySem Mw
theorem kn_go_jump:((("go" : Str)=("jump" : Str))=False):=eq_false (by decide)
theorem kn_go_turn:((("go" : Str)=("turn" : Str))=False):=eq_false (by decide)
theorem kn_go_times:((("go" : Str)=("times" : Str))=False):=eq_false (by decide)
theorem kn_jump_go:((("jump" : Str)=("go" : Str))=False):=eq_false (by decide)
theorem kn_jump_turn:((("jump" : Str)=("turn" : Str))=False):=eq_false (by decide)
theorem kn_jump_times:((("jump" : Str)=("times" : Str))=False):=eq_false (by decide)
theorem kn_turn_go:((("turn" : Str)=("go" : Str))=False):=eq_false (by decide)
theorem kn_turn_jump:((("turn" : Str)=("jump" : Str))=False):=eq_false (by decide)
theorem kn_turn_times:((("turn" : Str)=("times" : Str))=False):=eq_false (by decide)
theorem kn_times_go:((("times" : Str)=("go" : Str))=False):=eq_false (by decide)
theorem kn_times_jump:((("times" : Str)=("jump" : Str))=False):=eq_false (by decide)
theorem kn_times_turn:((("times" : Str)=("turn" : Str))=False):=eq_false (by decide)
theorem kp_go:(["go", "jump", "turn"]:List Str).contains "go" = true:=by decide
theorem kp_jump:(["go", "jump", "turn"]:List Str).contains "jump" = true:=by decide
theorem kp_turn:(["go", "jump", "turn"]:List Str).contains "turn" = true:=by decide
theorem kp_times:(["go", "jump", "turn"]:List Str).contains "times" = false:=by decide
theorem kz_go:(["go", "times"]:List Str).contains "go" = true:=by decide
theorem kz_jump:(["go", "times"]:List Str).contains "jump" = false:=by decide
theorem kz_turn:(["go", "times"]:List Str).contains "turn" = false:=by decide
theorem kz_times:(["go", "times"]:List Str).contains "times" = true:=by decide
theorem cst0:((0:Nat):Int)=0:=rfl
theorem cst1:((1:Nat):Int)=1:=rfl
theorem cst2:((2:Nat):Int)=2:=rfl
theorem cst3:((3:Nat):Int)=3:=rfl
local macro_rules | `(tactic| simp_arith [$xs,*] $[$l]?)=>`(tactic| simp only [$xs,*,Pv.seq3,Pv.next3,Pv.never3,Pv.brk3,Pv.cnt3,Pv.drop3,Pv.ret3,Pv.retN3,Pv.ifs3,Pv.gn3,Pv.gnil3,Pv.gcons3,Pv.gtup3,Pv.set3,Pv.asg3,Pv.par3,Pv.sub3,Pv.for3,Pv.is3,Pv.ir3,Pv.ir23,Pv.v3,Pv.c3,Pv.o3,Pv.un3,Pv.b3,Pv.and3,Pv.or3,Pv.not3,Pv.andV3,Pv.orV3,Pv.notV3,Pv.if3,Pv.nil3,Pv.cons3,Pv.tup3,Pv.lst3,Pv.call3,Pv.mt3,Pv.comp3,Pv.tt3,Pv.getI,List.set_cons_zero,List.set_cons_succ,Pv.int2,Pv.int20,Pv.subR,Pv.mulR,Pv.intR,Pv.sl3,Pv.np3,Pv.pt3,Pv.slR,Pv.modR,Pv.fdivR,Pv.powR,Pv.ltR,Pv.leR,Pv.gtR,Pv.geR,Pv.negR,Pv.addR,Pv.eqR_ii,Pv.eqR_ss,Pv.eqR_bb,Pv.eqR_is,Pv.neR_ii,Pv.neR_ss,Pv.neR_bb,Pv.inR,Pv.ixR,Pv.lenR,Pv.absR,Pv.tupR,Pv.sumR,Pv.tyN,Pv.isIn,Pv.isiR,Pv.appR,Pv.extR,Pv.smt3,Pv.joinR,Pv.splitR,Pv.startsR,Pv.pop3,Pv.lrev3,Pv.strR,Pv.start3,List.map_cons,List.map_nil,List.cons_append,List.nil_append,List.length_cons,List.length_nil,List.replicate,Pv.atI0,Pv.atI1,Pv.atI2,Nat.reduceAdd,Nat.reduceSub,Nat.zero_add,reduceIte,Pv.strs?,Bool.not_true,Bool.not_false,Bool.false_eq_true,if_false,if_true,decide_eq_true_eq,Bool.not_eq_true',decide_eq_false_iff_not,Pv.ixN0,Pv.ixN1,Pv.ixN2,true_and,and_true,Pv.cst0,Pv.cst1,Pv.cst2,Pv.cst3,Int.reduceEq,Option.bind_none,Option.bind_some,Pv.kn_go_jump,Pv.kn_go_turn,Pv.kn_go_times,Pv.kn_jump_go,Pv.kn_jump_turn,Pv.kn_jump_times,Pv.kn_turn_go,Pv.kn_turn_jump,Pv.kn_turn_times,Pv.kn_times_go,Pv.kn_times_jump,Pv.kn_times_turn,Pv.kp_go,Pv.kp_jump,Pv.kp_turn,Pv.kp_times,Pv.kz_go,Pv.kz_jump,Pv.kz_turn,Pv.kz_times] $[$l]?)
noncomputable def wy (s:T3):Prop:=s.2.2=0 \/ s.2.2=1
noncomputable def gx (s:T3):Int:=s.1 + 1 - s.2.2
noncomputable def gy (s:T3):Int:=s.2.1 + s.2.2
noncomputable def encQ (p:Int × Int):D:=.tup [.int p.1,.int p.2]
noncomputable def decT (d:D):T3:=(t3? d).getD (0,0,0)
theorem z2:2<=sizeLine:=by decide
theorem z3:3<=sizeLine:=by decide
noncomputable def sa1:Sp3:=λ ds μ Q=>∃ s,ds=[encT s] /\ wy s /\ Q (.tup [encQ (s.1,s.2.1),encQ (gx s,gy s)]) μ
theorem sb3 (ds:List D) (μ:Mu) (Q:VK3) (h:sa1 ds μ Q):su2 { nx:=λ _ μ'=>Q .non μ',rt:=Q } (start3 xt2 ds) μ:=by
 obtain ⟨⟨x,y,w⟩,rfl,hw,q⟩:=h
 rcases hw with e | e
 ·dsimp only at e; subst e
  simp only [gx,gy,Int.sub_zero,Int.add_zero] at q
  exact ⟨z2,z2,z2,q⟩
 ·dsimp only at e; subst e
  simp only [gx,gy,Int.add_sub_cancel] at q
  exact ⟨z2,z2,z2,q⟩
noncomputable def sk1:Sp3:=λ ds μ Q=>∃ s,ds=[encT s] /\ wy s /\ Q .non μ
theorem xc3 (ds:List D) (μ:Mu) (Q:VK3) (h:sk1 ds μ Q):sw1 { nx:=λ _ μ'=>Q .non μ',rt:=Q } (start3 zw1 ds) μ:=by
 obtain ⟨⟨x,y,w⟩,rfl,hw,q⟩:=h
 rcases hw with e | e
 ·dsimp only at e; subst e
  simp_arith [sw1,zw1,encT,xv0]
  simp [inD,datM,dat,dats,PyData.eqv,PyData.depth,PyData.depthAll]
  exact q
 ·dsimp only at e; subst e
  simp_arith [sw1,zw1,encT,xv0]
  simp [inD,datM,dat,dats,PyData.eqv,PyData.depth,PyData.depthAll]
  exact q
noncomputable def Lt (a b:T3):Prop:=lt3 a b=true
noncomputable def Pc (ts:List T3):Prop:=ts.Pairwise Lt /\ (∀ t ∈ ts,wy t) /\ ts.length < 1010
theorem wz0 {ts:List T3} {i:Int} (h0:0<=i) (h1:i < ts.length):∃ h:i.toNat < ts.length,atI (ts.map encT) i=some (encT ts[i.toNat]):=by
 have h2:i.toNat < ts.length:=by omega
 refine ⟨h2,?_⟩
 unfold atI ixN
 rw [if_pos h0,if_pos (by rw [List.length_map]; omega)]
 simp [List.getElem?_eq_getElem h2]
noncomputable def xb1:Sp3:=λ ds μ Q=>∃ ts,ds=[.tup (ts.map encT)] /\ Pc ts /\ Q .non μ
theorem yc3 (ds:List D) (μ:Mu) (Q:VK3) (h:xb1 ds μ Q):xv2 sk1 { nx:=λ _ μ'=>Q .non μ',rt:=Q } (start3 yt2 ds) μ:=by
 obtain ⟨ts,rfl,⟨h1,h2,h3⟩,q⟩:=h
 refine ze0 (λ l ρ μ'=>μ'=μ /\ ∃ (us:List T3) (dd:Option D),l=us.map encT /\ (∀ t ∈ us,wy t) /\ ρ=[some (.tup (ts.map encT)),dd,none]) ?_ (λ _ _ _ _=>trivial) ?_ ?_
 ·exact ⟨rfl,ts,none,rfl,h2,rfl⟩
 ·rintro ρ μ' ⟨rfl,us,dd,e,_,rfl⟩
  simp_arith [cst0]
  refine ⟨⟨by decide,by decide,by rw [List.length_map]; omega,by rw [List.length_map]; omega⟩,?_⟩
  refine ze0 (λ l ρ ν=>ν=μ' /\ ∃ (k:Nat) (pp:Option D),l=rngD (1 + (k:Int)) (ts.length - 1 - k) /\ ρ=[some (.tup (ts.map encT)),dd,pp]) ?_ (λ _ _ _ _=>trivial) ?_ ?_
  ·refine ⟨rfl,0,none,?_,rfl⟩
   rw [List.length_map,show ((ts.length:Int) - 1).toNat=ts.length - 1 - 0 by omega]
   simp
  ·rintro ρ μ2 ⟨rfl,k,pp,_,rfl⟩
   exact q
  ·rintro x rest ρ μ2 ⟨rfl,k,pp,e,rfl⟩
   cases n:ts.length - 1 - k with
   | zero=>rw [n] at e; simp [rngD] at e
   | succ m =>
    rw [n,vm1] at e
    simp only [List.cons.injEq] at e
    obtain ⟨rfl,rfl⟩:=e
    obtain ⟨b1,e1⟩:=wz0 (ts:=ts) (i:=1 + (k:Int) - 1) (by omega) (by omega)
    obtain ⟨b2,e2⟩:=wz0 (ts:=ts) (i:=1 + (k:Int)) (by omega) (by omega)
    have lt:lt3 ts[(1 + (k:Int) - 1).toNat] ts[(1 + (k:Int)).toNat]=true:=List.pairwise_iff_getElem.mp h1 _ _ b1 b2 (by omega)
    simp_arith [e1,e2,encT,ge3R,lt]
    refine ⟨k + 1,_,?_,rfl⟩
    rw [show ts.length - 1 - (k + 1)=m by omega]
    congr 1
 ·rintro x rest ρ μ' ⟨rfl,us,dd,e,hw,rfl⟩
  cases us with
  | nil=>cases e
  | cons t us =>
   rw [List.map_cons] at e
   injection e with e1 e2
   subst e1 e2
   exact ⟨t,rfl,hw t (List.mem_cons_self ..),rfl,us,_,rfl,λ s hs=>hw s (List.mem_cons_of_mem _ hs),rfl⟩
theorem zp3 {p:Addr} {ts:List T3} {μ:Mu} {Q:VK3} (h:μ p=some (.lst (ts.map encT))) (h64:ts.length < 9000) (k:∀ us:List T3,us.Perm ts->us.Pairwise le3->∀ r,μ r=none->Q (.ref r) (updM μ r (.lst (us.map encT)))):sj0 [.ref p] μ Q:=by
 refine Or.inl ?_
 unfold srtR
 simp only [h,uk1]
 exact ⟨Nat.le_trans (Nat.le_of_lt h64) (by decide),k⟩
theorem zw2 {p:Addr} {kvs:List (T3 × D)} {μ:Mu} {Q:VK3} (h:μ p=some (.dct kvs)) (h64:kvs.length < 9000) (k:∀ us:List T3,us.Perm (kvs.map (·.1))->us.Pairwise le3->∀ r,μ r=none->Q (.ref r) (updM μ r (.lst (us.map encT)))):sj0 [.ref p] μ Q:=by
 refine Or.inr ?_
 unfold vx1
 simp only [h]
 exact ⟨Nat.le_trans (Nat.le_of_lt h64) (by decide),k⟩
theorem sj1 {p:Addr} {l:List D} {μ:Mu} {Q:VK3} (h:μ p=some (.lst l)) (k:Q (.tup l) μ):tupR [.ref p] μ Q:=by
 unfold tupR
 simp only [h]
 exact k
noncomputable def spLe:Sp3:=λ ds μ Q=>∃ s,ds=[encT s] /\ Q (.tup [encQ (s.1,s.2.1),encQ (gx s,gy s)]) μ
theorem ur3 (ds:List D) (μ:Mu) (Q:VK3) (h:spLe ds μ Q):t_q3 { nx:=λ _ μ'=>Q .non μ',rt:=Q } (start3 N_q3 ds) μ:=by
 obtain ⟨s,rfl,q⟩:=h
 simp_arith [t_q3,N_q3,encT]
 exact ⟨z2,z2,z2,q⟩
noncomputable def tk3 (t:T3):List Int:=[t.1,t.2.1,t.2.2]
noncomputable def xl1:Sp3:=λ ds μ Q=>∃ (ns:List Int) (k:Int),ds=[.fls (ns.map D.int),.int k] /\ 0<=k /\ ∀ i,Q (.int i) μ
theorem xs3 (ds:List D) (μ:Mu) (Q:VK3) (h:xl1 ds μ Q):t_q0 { nx:=λ _ μ'=>Q .non μ',rt:=Q } (start3 N_q0 ds) μ:=by
 obtain ⟨ns,k,rfl,hk,q⟩:=h
 simp_arith [t_q0,N_q0]
 split
 ·next h1 =>
  obtain ⟨d,hd,e⟩:=xi2 (l:=ns.map D.int) hk h1
  obtain ⟨i,_,rfl⟩:=List.mem_map.mp hd
  simp only [e]
  exact q i
 ·exact q 0
noncomputable def vg0:Sp3:=λ ds μ Q=>∃ (ns:List Int) (k:Int),ds=[.fls (ns.map D.int),.int k] /\ 0<=k /\ ∀ a b p,0<=a->μ p=none->Q (.ref p) (updM μ p (.lst [.int a,.bl b]))
theorem wc3 (ds:List D) (μ:Mu) (Q:VK3) (h:vg0 ds μ Q):si2 xl1 { nx:=λ _ μ'=>Q .non μ',rt:=Q } (start3 vd2 ds) μ:=by
 obtain ⟨ns,k,rfl,hk,q⟩:=h
 simp_arith [si2,vd2]
 refine ⟨ns,k,rfl,hk,λ i=>?_⟩
 simp_arith [ge3R]
 refine ⟨⟨by decide,by decide,by decide⟩,?_⟩
 have e:((10:Int) ^ (18:Int).toNat)=1000000000000000000:=by decide
 simp only [e]
 split
 ·next h1=>exact ⟨⟨by decide,by decide,by decide⟩,by decide,λ p hp=>q _ _ p (by omega) hp⟩
 ·exact ⟨by decide,by decide,λ p hp=>q _ _ p (Int.emod_nonneg _ (by decide)) hp⟩
noncomputable def sc0:Sp3:=λ ds μ Q=>∃ (p:Addr) (m a:Int) (b:Bool) (rest:List D),ds=[.ref p,.int m] /\ 0 < m /\ m < 2 ^ 120 /\ μ p=some (.lst (.int a :: .bl b :: rest)) /\ 0<=a ∧
 ∀ r a',0<=r->r < m->0<=a'->Q (.int r) (updM μ p (.lst (.int a' :: .bl b :: rest)))
theorem sr3 (ds:List D) (μ:Mu) (Q:VK3) (h:sc0 ds μ Q):t_q1 { nx:=λ _ μ'=>Q .non μ',rt:=Q } (start3 N_q1 ds) μ:=by
 obtain ⟨p,m,a,b,rest,rfl,h1,h2,h3,h4,q⟩:=h
 simp_arith [t_q1,N_q1,h3]
 split
 ·refine ⟨h1,⟨h1,h2⟩,?_⟩
  exact q _ _ (Int.emod_nonneg _ (by omega)) (Int.emod_lt_of_pos _ h1) (Int.ediv_nonneg h4 (by omega))
 ·refine ⟨.inl (.inr (by decide)),by decide,?_⟩
  simp_arith [za0]
  have n1:=Int.emod_nonneg (a * 48271 + 29) (show (2147483647:Int) ≠ 0 by decide)
  have n2:=Int.emod_lt_of_pos (a * 48271 + 29) (show (0:Int) < 2147483647 by decide)
  generalize (a * 48271 + 29) % 2147483647=c at n1 n2 ⊢
  refine ⟨.inl (.inl (by omega)),.inl (.inl (by decide)),by decide,?_⟩
  have n3:=Int.emod_nonneg (c * c + 39373 * c + 7) (show (2147483629:Int) ≠ 0 by decide)
  have n4:=Int.emod_lt_of_pos (c * c + 39373 * c + 7) (show (0:Int) < 2147483629 by decide)
  generalize (c * c + 39373 * c + 7) % 2147483629=e at n3 n4 ⊢
  refine ⟨.inl (.inl (by omega)),.inl (.inl (by decide)),by decide,⟨by decide,by decide⟩,h1,?_⟩
  exact q _ _ (Int.emod_nonneg _ (by omega)) (Int.emod_lt_of_pos _ h1) n1
noncomputable def WPic (z d:Addr) (most wide:Int) (c:Nat):List D->St3->Mu->Prop:=λ l ρ μ'=>∃ (kvs:List (T3 × D)) (x y a:Int) (b:Bool) (kk:Option D),l.length + kvs.length<=c ∧
 ρ=[some (.ref z),some (.int most),some (.ref d),some (.int x),some (.int y),some (.int wide),kk] /\ μ' z=some (.lst [.int a,.bl b]) /\ 0<=a /\ μ' d=some (.dct kvs) /\ (kvs.map (·.1)).Nodup /\ ∀ t ∈ kvs.map (·.1),wy t
noncomputable def yr0:Sp3:=λ ds μ Q=>∃ (z:Addr) (most a:Int) (b:Bool),ds=[.ref z,.int most] /\ μ z=some (.lst [.int a,.bl b]) /\ 0<=a /\ 0<=most /\ most < 50 /\ ∀ (us:List T3) (a':Int) (b':Bool) μ',Pc us->(us.length:Int)<=most->0<=a'->μ' z=some (.lst [.int a',.bl b'])->Q (.tup (us.map encT)) μ'
theorem wu0 {kvs:List (T3 × D)} {t:T3} {v:D} (hn:(kvs.map (·.1)).Nodup):((putT kvs t v).map (·.1)).Nodup /\ (putT kvs t v).length<=kvs.length + 1 /\ ∀ s ∈ (putT kvs t v).map (·.1),s=t \/ s ∈ kvs.map (·.1):=by
 unfold putT
 split
 ·have e:(kvs.map λ kv=>if kv.1=t then (kv.1,v) else kv).map (·.1)=kvs.map (·.1):=by
    rw [List.map_map]
    apply List.map_congr_left
    intro kv _
    show (if kv.1=t then (kv.1,v) else kv).1=kv.1
    split <;> rfl
  rw [e]
  exact ⟨hn,by rw [List.length_map]; omega,λ s hs=>.inr hs⟩
 ·next c =>
  have ht:t ∉ kvs.map (·.1):=λ hm=>by
   obtain ⟨kv,h1,h2⟩:=List.mem_map.mp hm
   exact c (List.any_eq_true.mpr ⟨kv,h1,decide_eq_true h2⟩)
  rw [List.map_append,List.length_append]
  refine ⟨?_,by simp,λ s hs=>?_⟩
  ·rw [List.nodup_append]
   refine ⟨hn,by simp,λ a ha b hb=>?_⟩
   have:b=t:=by simpa using hb
   subst this
   intro z
   subst z
   exact ht ha
  ·rcases List.mem_append.mp hs with h | h
   ·exact .inr h
   ·exact .inl (by simpa using h)
theorem yo2 {ks us:List T3} (hn:ks.Nodup) (hw:∀ t ∈ ks,wy t) (hl:ks.length < 1010) (a1:us.Perm ks) (a2:us.Pairwise le3):Pc us:=by
 have hn':us.Nodup:=a1.nodup_iff.mpr hn
 refine ⟨?_,λ t ht=>hw t (a1.mem_iff.mp ht),by rw [a1.length_eq]; exact hl⟩
 have both:us.Pairwise λ a b=>le3 a b /\ a ≠ b:=List.Pairwise.and a2 hn'
 refine both.imp λ {a b} h=>?_
 obtain ⟨x1,x2,x3⟩:=a
 obtain ⟨y1,y2,y3⟩:=b
 obtain ⟨h1,h2⟩:=h
 unfold le3 at h1
 unfold Lt
 simp only [ne_eq,Prod.mk.injEq] at h2
 simp only [lt3,Bool.or_eq_false_iff,Bool.and_eq_false_iff,decide_eq_false_iff_not,beq_eq_false_iff_ne,ne_eq] at h1
 simp only [lt3,Bool.or_eq_true,Bool.and_eq_true,decide_eq_true_eq,beq_iff_eq]
 omega
theorem sd1 {a b c d:Int}:∀ x ∈ ([D.int a,.int b,.int c,.int d]:List D),∃ i:Int,x=.int i:=by
 intro x hx
 simp only [List.mem_cons,List.not_mem_nil,or_false] at hx
 rcases hx with rfl | rfl | rfl | rfl <;> exact ⟨_,rfl⟩
theorem sq1 {p:Addr} {l:List D} {i:Int} {d:D} {μ:Mu} {K:VK3} (h:μ p=some (.lst l)) (e:atI l i=some d) (k:K d μ):ixR (.ref p) (.int i) μ K:=by
 unfold ixR
 simp only [h,e]
 exact k
theorem th2 {l:List D} (h:∀ d ∈ l,∃ i:Int,d=.int i) {i:Int} (h0:0<=i) (h1:i < l.length):∃ x:Int,atI l i=some (.int x):=by
 obtain ⟨dv,hd,e⟩:=xi2 h0 h1
 obtain ⟨x,rfl⟩:=h dv hd
 exact ⟨x,e⟩
theorem yr3 (ds:List D) (μ:Mu) (Q:VK3) (h:yr0 ds μ Q):t_q8 sc0 { nx:=λ _ μ'=>Q .non μ',rt:=Q } (start3 N_q8 ds) μ:=by
 obtain ⟨z,most,a,b,rfl,hm,ha,m0,m1,q⟩:=h
 intro d hd
 have hzd:z ≠ d:=ub0 hm hd
 show ve0 sc0 { nx:=λ _ μ'=>Q .non μ',rt:=Q } [some (.ref z),some (.int most),some (.ref d),none,none,none,none] (updM μ d (.dct []))
 simp_arith [ve0]
 refine ⟨z2,?_⟩
 refine ⟨z,5,a,b,[],rfl,by decide,by decide,by rw [ua0 hzd]; exact hm,ha,λ w0 a1 w1 w2 a1n=>?_⟩
 refine ⟨z,most + 1,a1,b,[],rfl,by omega,by omega,za0,a1n,λ c a2 c0 c1 a2n=>⟨⟨by omega,by omega⟩,?_⟩⟩
 refine ze0 (WPic z d most (1 + w0) c.toNat) ?_ (λ _ _ _ _=>trivial) ?_ ?_
 ·refine ⟨[],0,0,a2,b,none,?_,rfl,za0,a2n,?_,List.nodup_nil,λ t ht=>by simp at ht⟩
  ·simp [rngD]
  ·rw [ua0 (Ne.symm hzd),ua0 (Ne.symm hzd),za0]
 ·rintro ρ μ' ⟨kvs,x,y,a3,b3,kk,el,rfl,ez,a3n,ed,hn,hw⟩
  rw [List.length_nil,Nat.zero_add] at el
  refine zw2 ed (by omega) λ us e1 e2 r hr=>sj1 za0 (q us a3 b3 _ (yo2 hn hw (by rw [List.length_map]; omega) e1 e2) (by rw [e1.length_eq,List.length_map]; omega) a3n (by rw [ua0 (ub0 ez hr)]; exact ez))
 ·rintro dd rest ρ μ' ⟨kvs,x,y,a3,b3,kk,el,rfl,ez,a3n,ed,hn,hw⟩
  rw [List.length_cons] at el
  have main:∀ (x y a4:Int) (ν:Mu),ν z=some (.lst [.int a4,.bl b3])->0<=a4->ν d=some (.dct kvs)->(seq3 (wc2 (v3 2) (cons3 (v3 3) (cons3 (v3 4) (cons3 (call3 sc0 (cons3 (v3 0) (cons3 (c3 (.int 2)) nil3))) nil3))) (c3 (.bl true))) (seq3 (set3 3 (o3 addR (v3 3) (o3 ixR (lst3 (cons3 (c3 (.int 1)) (cons3 (c3 (.int 0)) (cons3 (un3 negR (c3 (.int 1))) (cons3 (c3 (.int 0)) nil3))))) (call3 sc0 (cons3 (v3 0) (cons3 (c3 (.int 4)) nil3)))))) (set3 4 (o3 addR (v3 4) (o3 ixR (lst3 (cons3 (c3 (.int 0)) (cons3 (c3 (.int 1)) (cons3 (c3 (.int 0)) (cons3 (un3 negR (c3 (.int 1))) nil3))))) (call3 sc0 (cons3 (v3 0) (cons3 (c3 (.int 4)) nil3)))))))) { nx:=WPic z d most (1 + w0) c.toNat rest,rt:=Q,bk:=λ ρ μ=>yg0 sc0 { nx:=λ _ μ'=>Q .non μ',rt:=Q } ρ μ,ct:=WPic z d most (1 + w0) c.toNat rest } [some (.ref z),some (.int most),some (.ref d),some (.int x),some (.int y),some (.int (1 + w0)),some dd] ν:=λ x y a4 ν ez a4n ed=>by
   refine ⟨z,2,a4,b3,[],rfl,by decide,by decide,ez,a4n,λ w a5 w3 w4 a5n=>?_⟩
   have ed2:updM ν z (.lst [.int a5,.bl b3]) d=some (.dct kvs):=by rw [ua0 (Ne.symm hzd)]; exact ed
   conv=>whnf
   rw [ed2]
   refine ⟨by omega,?_⟩
   obtain ⟨k1,k2,k3⟩:=wu0 (t:=(x,y,w)) (v:=.bl true) hn
   refine ⟨(show 4<=sizeLine by decide),λ p hp=>?_⟩
   have hzp:z ≠ p:=ub0 (by rw [ua0 hzd]; exact za0) hp
   have hdp:d ≠ p:=ub0 za0 hp
   refine ⟨z,4,a5,b3,[],rfl,by decide,by decide,by rw [ua0 hzp,ua0 hzd]; exact za0,a5n,λ i a6 i0 i1 a6n=>?_⟩
   obtain ⟨dx,e5⟩:=th2 (l:=[D.int 1,.int 0,.int (-1),.int 0]) sd1 i0 (by simp only [List.length_cons,List.length_nil]; omega)
   refine sq1 (by rw [ua0 (Ne.symm hzp),za0]) e5 ?_
   refine ⟨(show 4<=sizeLine by decide),λ p2 hp2=>?_⟩
   have hzp2:z ≠ p2:=ub0 za0 hp2
   have hdp2:d ≠ p2:=ub0 (by rw [ua0 (Ne.symm hzd),ua0 hdp]; exact za0) hp2
   refine ⟨z,4,a6,b3,[],rfl,by decide,by decide,by rw [ua0 hzp2]; exact za0,a6n,λ j a7 j0 j1 a7n=>?_⟩
   obtain ⟨dy,e6⟩:=th2 (l:=[D.int 0,.int 1,.int 0,.int (-1)]) sd1 j0 (by simp only [List.length_cons,List.length_nil]; omega)
   refine sq1 (by rw [ua0 (Ne.symm hzp2),za0]) e6 ?_
   refine ⟨putT kvs (x,y,w) (.bl true),x + dx,y + dy,a7,b3,some dd,by omega,rfl,za0,a7n,?_,k1,λ t ht=>?_⟩
   ·rw [ua0 (Ne.symm hzd),ua0 hdp2,ua0 (Ne.symm hzd),ua0 hdp,za0]
   ·rcases k3 t ht with rfl | h
    ·show w=0 \/ w=1
     omega
    ·exact hw t h
  refine ⟨z,3,a3,b3,[],rfl,by decide,by decide,ez,a3n,λ r a4 r0 r1 a4n=>?_⟩
  have ed1:updM μ' z (.lst [.int a4,.bl b3]) d=some (.dct kvs):=by rw [ua0 (Ne.symm hzd)]; exact ed
  by_cases c3:r=0
  ·subst c3
   refine ⟨z,1 + w0,a4,b3,[],rfl,by omega,by omega,za0,a4n,λ x2 a5 x0 x1 a5n=>?_⟩
   refine ⟨z,1 + w0,a5,b3,[],rfl,by omega,by omega,za0,a5n,λ y2 a6 y0 y1 a6n=>?_⟩
   exact main _ _ a6 _ za0 a6n (by rw [ua0 (Ne.symm hzd),ua0 (Ne.symm hzd)]; exact ed1)
  ·have er:(decide (r=0))=false:=decide_eq_false c3
   simp_arith [cst0]
   simp only [c3,if_false]
   exact main x y a4 _ za0 a4n ed1
noncomputable def pT (s:T3):PyData:=.tuple [.int s.1,.int s.2.1,.int s.2.2]
theorem wt1:∀ L:List T3,dats (L.map encT)=some (L.map pT)
 | []=>rfl
 | t :: r=>by simp only [List.map_cons,dats,encT,dat,wt1 r,pT]
theorem xz0:∀ L:List T3,PyData.depthAll (L.map pT)<=2
 | []=>by simp [PyData.depthAll]
 | t :: r=>by
  have:=xz0 r
  simp only [List.map_cons,PyData.depthAll,pT,PyData.depth]
  omega
theorem ye1 (L:List T3):(PyData.tuple (L.map pT)).depth<=64:=by
 have:=xz0 L
 simp only [PyData.depth]
 omega
theorem lt_le {a b:T3} (h:Lt a b):le3 a b:=by
 obtain ⟨x1,x2,x3⟩:=a
 obtain ⟨y1,y2,y3⟩:=b
 simp only [Lt,lt3,Bool.or_eq_true,Bool.and_eq_true,decide_eq_true_eq,beq_iff_eq] at h
 simp only [le3,lt3,Bool.or_eq_false_iff,Bool.and_eq_false_iff,decide_eq_false_iff_not,beq_eq_false_iff_ne,ne_eq]
 omega
theorem yu3 {ts:List T3} (h:Pc ts):ts.Pairwise le3:=h.1.imp lt_le
theorem xj0 {ts:List T3} (h:Pc ts):ts.Nodup:=h.1.imp λ {a b} h e=>by
 subst e
 simp [Lt,lt3] at h
theorem tg2 (s t:T3):PyData.eqv (pT s) (pT t)=decide (s=t):=by
 obtain ⟨a,b,c⟩:=s
 obtain ⟨d,e,f⟩:=t
 have q:∀ x y:Int,(x == y)=decide (x=y):=λ x y=>by by_cases h:x=y <;> simp [h]
 simp [pT,PyData.eqv,PyData.eqvAll,Bool.and_assoc,q]
theorem sg2:∀ L M:List T3,PyData.eqvAll (L.map pT) (M.map pT)=decide (L=M)
 | [],[]=>by simp [PyData.eqvAll]
 | [],_ :: _=>by simp [PyData.eqvAll]
 | _ :: _,[]=>by simp [PyData.eqvAll]
 | s :: L,t :: M=>by
  simp only [List.map_cons,PyData.eqvAll,sg2 L M,tg2]
  simp
theorem vj0 {S:Mu->Prop} {p:Addr} {tc:TT3} {Q:VK3} {l:List D} {o:Option D} {rest:St3} {μ:Mu} (f:D->Bool) (hp:μ p=none) (hl:l.length<=sizeLine) (hS:∀ μ',Ext μ μ'->S μ')
    (hx:∀ x ∈ l,∀ μ' R,Ext μ μ'->R (f x) μ'->tc (some x :: rest) μ' R) (hQ:∀ μ',Ext μ μ'->μ' p=some (.lst (l.filter f))->Q (.ref p) μ'):tc2 S p (gn3 0) tc (v3 0) Q l (o :: rest) (updM μ p (.lst [])):=by
 refine ⟨λ r ys ρ μ'=>Ext μ μ' /\ μ' p=some (.lst ys) /\ (∃ o',ρ=o' :: rest) /\ ∃ a,a ++ r=l /\ ys=a.filter f,?_,?_,?_,?_⟩
 ·exact ⟨Ext.new hp,za0,⟨o,rfl⟩,[],rfl,rfl⟩
 ·rintro r ys ρ μ' ⟨h1,h2,_⟩
  exact ⟨hS _ h1,h2⟩
 ·rintro ys ρ μ' ⟨h1,h2,_,a,e,rfl⟩
  rw [List.append_nil] at e
  subst e
  exact hQ _ h1 h2
 ·rintro x r ys ρ μ' ⟨h1,h2,⟨o',rfl⟩,a,e,rfl⟩
  refine ⟨?_,?_⟩
  ·have h3:=congrArg List.length e
   rw [List.length_append,List.length_cons] at h3
   have:=List.length_filter_le f a
   omega
  ·refine hx x (by rw [<- e]; simp) μ' _ h1 ?_
   have e2:(a ++ [x]) ++ r=l:=by rw [<- e]; simp
   cases c:f x with
   | true =>
    refine ⟨h2,λ b v hb=>?_,za0,⟨_,rfl⟩,a ++ [x],e2,?_⟩
    ·rw [ua0 (ub0 hb hp)]
     exact h1 b v hb
    ·rw [List.filter_append]
     simp [c]
   | false =>
    refine ⟨h1,h2,⟨_,rfl⟩,a ++ [x],e2,?_⟩
    rw [List.filter_append]
    simp [c]
theorem zs1 (g:T3->Bool) (A:List T3):(A.map encT).filter (λ d=>g (decT d))=(A.filter g).map encT:=by
 rw [List.filter_map]
 rfl
noncomputable def ug0:Sp3:=λ ds μ Q=>∃ (z:Addr) (most a:Int) (b:Bool),ds=[.ref z,.int most] /\ μ z=some (.lst [.int a,.bl b]) /\ 0<=a /\ 0<=most /\ most < 50 /\ ∀ (us:List T3) (a':Int) (b':Bool) μ',Pc us->(us.length:Int)<=most->0<=a'->μ' z=some (.lst [.int a',.bl b'])->Q (.tup (us.map encT)) μ'
theorem tr3 (ds:List D) (μ:Mu) (Q:VK3) (h:ug0 ds μ Q):t_q2 sc0 { nx:=λ _ μ'=>Q .non μ',rt:=Q } (start3 N_q2 ds) μ:=by
 obtain ⟨z,most,a,b,rfl,hm,ha,m0,m1,q⟩:=h
 intro d hd
 have hzd:z ≠ d:=ub0 hm hd
 refine ⟨z,3,a,b,[],rfl,by decide,by decide,by rw [ua0 hzd]; exact hm,ha,λ w0 a1 w1 w2 a1n=>?_⟩
 refine ⟨z,most + 1,a1,b,[],rfl,by omega,by omega,za0,a1n,λ c a2 c0 c1 a2n=>⟨⟨by omega,by omega⟩,?_⟩⟩
 refine ze0 (λ l ρ μ'=>∃ (kvs:List (T3 × D)) (a:Int) (kk:Option D),l.length + kvs.length<=c.toNat /\ ρ=[some (.ref z),some (.int most),some (.ref d),some (.int (2 + w0)),kk] /\ μ' z=some (.lst [.int a,.bl b]) /\ 0<=a /\ μ' d=some (.dct kvs) /\ (kvs.map (·.1)).Nodup /\ ∀ t ∈ kvs.map (·.1),wy t) ?_ (λ _ _ _ _=>trivial) ?_ ?_
 ·refine ⟨[],a2,none,?_,rfl,za0,a2n,?_,List.nodup_nil,λ t ht=>by simp at ht⟩
  ·simp [rngD]
  ·rw [ua0 (Ne.symm hzd),ua0 (Ne.symm hzd),za0]
 ·rintro ρ μ' ⟨kvs,a3,kk,el,rfl,ez,a3n,ed,hn,hw⟩
  rw [List.length_nil,Nat.zero_add] at el
  refine zw2 ed (by omega) λ us e1 e2 r hr=>sj1 za0 (q us a3 b _ (yo2 hn hw (by rw [List.length_map]; omega) e1 e2) (by rw [e1.length_eq,List.length_map]; omega) a3n (by rw [ua0 (ub0 ez hr)]; exact ez))
 ·rintro dd rest ρ μ' ⟨kvs,a3,kk,el,rfl,ez,a3n,ed,hn,hw⟩
  rw [List.length_cons] at el
  refine ⟨z,2 + w0,a3,b,[],rfl,by omega,by omega,ez,a3n,λ x a4 x0 x1 a4n=>?_⟩
  refine ⟨z,2 + w0,a4,b,[],rfl,by omega,by omega,za0,a4n,λ y a5 y0 y1 a5n=>?_⟩
  refine ⟨z,2,a5,b,[],rfl,by decide,by decide,za0,a5n,λ w a6 w3 w4 a6n=>?_⟩
  have ed2:updM (updM (updM μ' z (.lst [.int a4,.bl b])) z (.lst [.int a5,.bl b])) z (.lst [.int a6,.bl b]) d=some (.dct kvs):=by rw [ua0 (Ne.symm hzd),ua0 (Ne.symm hzd),ua0 (Ne.symm hzd)]; exact ed
  conv=>whnf
  rw [ed2]
  obtain ⟨k1,k2,k3⟩:=wu0 (t:=(x,y,w)) (v:=.bl true) hn
  refine ⟨by omega,putT kvs (x,y,w) (.bl true),a6,some dd,by omega,rfl,by rw [ua0 hzd]; exact za0,a6n,za0,k1,λ t ht=>?_⟩
  rcases k3 t ht with rfl | h
  ·show w=0 \/ w=1
   omega
  ·exact hw t h
theorem sr1 {g:TG3} {tb:TS3} {D':Ends3} {x y:D} {ρ:St3} {μ:Mu} (N1 N2:St3->Mu->Prop) (h1:g x ρ μ λ ρ1 μ1=>tb { D' with nx:=N1,ct:=N1,bk:=D'.nx } ρ1 μ1)
    (h2:∀ ρ μ,N1 ρ μ->g y ρ μ λ ρ1 μ1=>tb { D' with nx:=N2,ct:=N2,bk:=D'.nx } ρ1 μ1) (h3:∀ ρ μ,N2 ρ μ->D'.nx ρ μ):xs1 (λ _=>True) g tb D' [x,y] ρ μ :=
 ⟨trivial,N1,λ ρ' μ' n=>⟨trivial,N2,λ ρ2 μ2 n2=>⟨trivial,h3 ρ2 μ2 n2⟩,h2 ρ' μ' n⟩,h1⟩
noncomputable def ptk (p:Pt):List Int:=[p.1,p.2]
theorem ta2 (p:Pt):keyI (encQ p)=some (ptk p):=rfl
noncomputable def atk (A:List (Pt × Addr)):List (List Int × D):=A.map λ x=>(ptk x.1,.ref x.2)
theorem zi0 {p q:Pt} (h:ptk p=ptk q):p=q:=by
 unfold ptk at h
 injection h with h1 h2
 injection h2 with h2 _
 exact Prod.ext h1 h2
theorem wj1:∀ {A:List (Pt × Addr)} {p:Pt} {q:Addr},(A.map (·.1)).Nodup->(p,q) ∈ A->valL (atk A) (ptk p)=some (.ref q)
 | (p',q') :: A,p,q,hn,hm=>by
  rw [List.map_cons,List.nodup_cons] at hn
  by_cases c:p'=p
  ·subst c
   rcases List.mem_cons.mp hm with e | e
   ·cases e; simp [valL,atk]
   ·exact absurd (List.mem_map.mpr ⟨_,e,rfl⟩) hn.1
  ·rcases List.mem_cons.mp hm with e | e
   ·cases e; exact absurd rfl c
   ·have c':¬ ptk p'=ptk p:=λ z=>c (zi0 z)
    have:=wj1 hn.2 e
    simp only [valL,atk,List.map_cons,List.find?_cons,c',decide_false] at this ⊢
    exact this
theorem xe2:∀ {A:List (Pt × Addr)} {p:Pt},p ∉ A.map (·.1)->valL (atk A) (ptk p)=none
 | [],p,_=>rfl
 | (p',q') :: A,p,hm=>by
  rw [List.map_cons,List.mem_cons,not_or] at hm
  have c':¬ ptk p'=ptk p:=λ z=>hm.1 (zi0 z).symm
  have:=xe2 hm.2
  simp only [valL,atk,List.map_cons,List.find?_cons,c',decide_false] at this ⊢
  exact this
theorem ze3 {A:List (Pt × Addr)} {p:Pt} {y:D} (h:p ∉ A.map (·.1)):putL (atk A) (ptk p) y=atk A ++ [(ptk p,y)]:=by
 unfold putL
 rw [if_neg]
 intro z
 obtain ⟨kv,h1,h2⟩:=List.any_eq_true.mp z
 obtain ⟨x,hx,rfl⟩:=List.mem_map.mp h1
 exact h (List.mem_map.mpr ⟨x,hx,zi0 (of_decide_eq_true h2)⟩)
theorem sw2 {d:Addr} {kvs:List (List Int × D)} {p:Pt} {v:D} {μ:Mu} {Q:VK3} {o0 o2:Option D} (h:μ d=some (.dcl kvs)) (hl:kvs.length < 90000) (hv:valL kvs (ptk p)=some v) (k:∀ r,μ r=none->Q v (updM μ r (.lst []))) :
    sdf3 (v3 1) (cons3 (v3 3) (cons3 (lst3 nil3) nil3)) [o0,some (.ref d),o2,some (encQ p)] μ Q:=by
 conv=>whnf
 rw [h]
 refine ⟨Nat.zero_le _,λ r hr=>?_⟩
 have hd:updM μ r (.lst []) d=some (.dcl kvs):=by rw [ua0 (ub0 h hr)]; exact h
 conv=>whnf
 rw [hd]
 refine ⟨hl,?_⟩
 have hv':valL kvs [p.1,p.2]=some v:=hv
 rw [hv']
 exact k r hr
theorem xx2 {d:Addr} {kvs:List (List Int × D)} {p:Pt} {μ:Mu} {Q:VK3} {o0 o2:Option D} (h:μ d=some (.dcl kvs)) (hl:kvs.length < 90000) (hv:valL kvs (ptk p)=none) (k:∀ r,μ r=none->Q (.ref r) (updM (updM μ r (.lst [])) d (.dcl (putL kvs (ptk p) (.ref r))))) :
    sdf3 (v3 1) (cons3 (v3 3) (cons3 (lst3 nil3) nil3)) [o0,some (.ref d),o2,some (encQ p)] μ Q:=by
 conv=>whnf
 rw [h]
 refine ⟨Nat.zero_le _,λ r hr=>?_⟩
 have hd:updM μ r (.lst []) d=some (.dcl kvs):=by rw [ua0 (ub0 h hr)]; exact h
 conv=>whnf
 rw [hd]
 refine ⟨hl,?_⟩
 have hv':valL kvs [p.1,p.2]=none:=hv
 rw [hv']
 exact k r hr
theorem sv1 {q:Addr} {l:List D} {x:D} {μ:Mu} {Q:VK3} (h:μ q=some (.lst l)) (hl:l.length < sizeLine) (k:Q .non (updM μ q (.lst (l ++ [x])))):appR (.ref q) [x] μ Q:=by
 unfold appR
 simp only [h]
 exact ⟨hl,k⟩
noncomputable def here {α:Type} (L:List (Pt × α)) (p:Pt):List α:=(L.filter λ y=>decide (y.1=p)).map (·.2)
theorem wv0 {α:Type} (L:List (Pt × α)) (p:Pt) (t:α):here (L ++ [(p,t)]) p=here L p ++ [t]:=by
 unfold here; rw [List.filter_append]; simp
theorem ur1 {α:Type} (L:List (Pt × α)) {p q:Pt} (t:α) (h:q ≠ p):here (L ++ [(p,t)]) q=here L q:=by
 unfold here; rw [List.filter_append]
 have:¬ p=q:=λ z=>h z.symm
 simp [this]
theorem up2 {α:Type} {L:List (Pt × α)} {p:Pt} (h:p ∉ L.map (·.1)):here L p=[]:=by
 unfold here
 rw [List.filter_eq_nil_iff.mpr]; rfl
 intro y hy z
 exact h (List.mem_map.mpr ⟨y,hy,of_decide_eq_true z⟩)
theorem yc2 {α:Type} (L:List (Pt × α)) (p:Pt):(here L p).length<=L.length:=by
 unfold here; rw [List.length_map]; exact List.length_filter_le _ _
structure AtI {α:Type} (en:α->D) (μ0 μ:Mu) (d:Addr) (L:List (Pt × α)) (A:List (Pt × Addr)):Prop where
 ex:Ext μ0 μ
 fr:μ0 d=none
 dc:μ d=some (.dcl (atk A))
 nd:(A.map (·.1)).Nodup
 me:∀ p,p ∈ A.map (·.1) ↔ p ∈ L.map (·.1)
 le:A.length<=L.length
 n2:(A.map (·.2)).Nodup
 fr2:∀ x ∈ A,μ0 x.2=none
 ls:∀ x ∈ A,μ x.2=some (.lst ((here L x.1).map en))
theorem Ext.upd {μ0 μ:Mu} {p:Addr} {o:MO} (e:Ext μ0 μ) (h:μ0 p=none):Ext μ0 (updM μ p o):=λ a u q=>by
 rw [ua0 (ub0 q h)]; exact e a u q
theorem uu0 {α β γ:Type} {l:List γ} {f:γ->α} (h:(l.map f).Nodup):∀ {x y:γ},x ∈ l->y ∈ l->f x=f y->x=y:=by
 induction l with
 | nil=>intro x y hx; cases hx
 | cons z r ih =>
  intro x y hx hy e
  rw [List.map_cons,List.nodup_cons] at h
  rcases List.mem_cons.mp hx with x1 | x1
  ·rcases List.mem_cons.mp hy with y1 | y1
   ·rw [x1,y1]
   ·rw [x1] at e; exact absurd (List.mem_map.mpr ⟨y,y1,e.symm⟩) h.1
  ·rcases List.mem_cons.mp hy with y1 | y1
   ·rw [y1] at e; exact absurd (List.mem_map.mpr ⟨x,x1,e⟩) h.1
   ·exact ih h.2 x1 y1 e
theorem vp1 {A:List (Pt × Addr)} {p q:Pt} {a:Addr} (h:(A.map (·.2)).Nodup) (x:(p,a) ∈ A) (y:(q,a) ∈ A):p=q:=congrArg Prod.fst (uu0 (β:=Nat) h x y rfl)
theorem wp1 {A:List (Pt × Addr)} {p:Pt} {a b:Addr} (h:(A.map (·.1)).Nodup) (x:(p,a) ∈ A) (y:(p,b) ∈ A):a=b:=congrArg Prod.snd (uu0 (β:=Nat) h x y rfl)
theorem uv1 {α:Type} {en:α->D} {μ0 μ:Mu} {d:Addr} {L:List (Pt × α)} {A:List (Pt × Addr)} {p:Pt} {t:α} {o0:Option D} {Q:VK3} (I:AtI en μ0 μ d L A) (hL:L.length < 5000) (q:∀ μ' A',AtI en μ0 μ' d (L ++ [(p,t)]) A'->Q .non μ') :
    mt3 appR (sdf3 (v3 1) (cons3 (v3 3) (cons3 (lst3 nil3) nil3))) (cons3 (v3 2) nil3) [o0,some (.ref d),some (en t),some (encQ p)] μ Q:=by
 have hz:(20000:Nat) < sizeLine:=by decide
 have hA:(atk A).length < 90000:=by unfold atk; rw [List.length_map]; have:=I.le; omega
 by_cases c:p ∈ A.map (·.1)
 ·obtain ⟨⟨p',a⟩,ha,e⟩:=List.mem_map.mp c
  dsimp only at e; subst e
  refine sw2 I.dc hA (wj1 I.nd ha) λ r hr=>?_
  have hl:=I.ls _ ha
  have hla:updM μ r (.lst []) a=some (.lst ((here L p').map en)):=by rw [ua0 (ub0 hl hr)]; exact hl
  conv=>whnf
  rw [hla]
  refine sv1 hla (by rw [List.length_map]; have:=yc2 L p'; omega) (q _ A ⟨?_,I.fr,?_,I.nd,?_,?_,I.n2,I.fr2,?_⟩)
  ·exact (I.ex.trans (Ext.new hr)).upd (I.fr2 _ ha)
  ·rw [ua0 (λ z=>by subst z; rw [I.dc] at hl; cases hl),ua0 (ub0 I.dc hr)]; exact I.dc
  ·intro p
   rw [I.me,List.map_append,List.mem_append]
   refine ⟨.inl,?_⟩
   rintro (h | h)
   ·exact h
   ·have e:p=p':=by simpa using h
    subst e
    exact (I.me _).mp c
  ·rw [List.length_append]; have:=I.le; omega
  ·rintro ⟨p2,a2⟩ h2
   dsimp only
   by_cases c2:a2=a
   ·subst c2
    have e:p2=p':=by
     exact vp1 I.n2 h2 ha
    subst e
    rw [za0,wv0,List.map_append]; rfl
   ·have c3:p2 ≠ p':=λ z=>by subst z; exact c2 (wp1 I.nd h2 ha)
    rw [ua0 c2,ua0 (ub0 (I.ls _ h2) hr),ur1 _ _ c3]
    exact I.ls _ h2
 ·refine xx2 I.dc hA (xe2 c) λ r hr=>?_
  have hrd:r ≠ d:=λ z=>by subst z; rw [I.dc] at hr; cases hr
  have hla:updM (updM μ r (.lst [])) d (.dcl (putL (atk A) (ptk p) (.ref r))) r=some (.lst []):=by rw [ua0 hrd,za0]
  conv=>whnf
  rw [hla]
  have hL':here L p=[]:=up2 λ z=>c ((I.me p).mpr z)
  refine sv1 hla (Nat.lt_of_lt_of_le (by decide:0 < 20000) (Nat.le_of_lt hz)) (q _ (A ++ [(p,r)]) ⟨?_,I.fr,?_,?_,?_,?_,?_,?_,?_⟩)
  ·exact ((I.ex.trans (Ext.new hr)).upd I.fr).upd (I.ex.free hr)
  ·rw [ua0 (Ne.symm hrd),za0,ze3 c]
   unfold atk; rw [List.map_append]; rfl
  ·rw [List.map_append,List.nodup_append]
   refine ⟨I.nd,by simp,λ a ha b hb e=>?_⟩
   have:b=p:=by simpa using hb
   subst this; subst e
   exact c ha
  ·intro p2
   rw [List.map_append,List.map_append,List.mem_append,List.mem_append,I.me]; rfl
  ·rw [List.length_append,List.length_append]; have:=I.le; simp only [List.length_cons,List.length_nil]; omega
  ·rw [List.map_append,List.nodup_append]
   refine ⟨I.n2,by simp,λ a ha b hb e=>?_⟩
   have:b=r:=by simpa using hb
   subst this; subst e
   obtain ⟨x,hx,rfl⟩:=List.mem_map.mp ha
   have:=I.ls x hx
   rw [hr] at this; cases this
  ·intro x hx
   rcases List.mem_append.mp hx with h | h
   ·exact I.fr2 x h
   ·have:x=(p,r):=by simpa using h
    subst this
    exact I.ex.free hr
  ·intro x hx
   rcases List.mem_append.mp hx with h | h
   ·have hl:=I.ls x h
    have c3:x.1 ≠ p:=λ z=>c (List.mem_map.mpr ⟨x,h,z⟩)
    have c4:x.2 ≠ d:=λ z=>by rw [z,I.dc] at hl; cases hl
    rw [ua0 (ub0 hl hr),ua0 c4,ua0 (ub0 hl hr),ur1 _ _ c3]
    exact hl
   ·have:x=(p,r):=by simpa using h
    subst this
    dsimp only
    rw [za0,wv0,hL']; rfl
noncomputable def incs (ts:List T3):List (Pt × T3):=ts.flatMap λ t=>[(e0 t,t),(e1 t,t)]
theorem wr1 (ts:List T3) (s:T3):incs (ts ++ [s])=incs ts ++ [(e0 s,s)] ++ [(e1 s,s)]:=by
 unfold incs; rw [List.flatMap_append]; simp
theorem wd1 (ts:List T3):(incs ts).length=2 * ts.length:=by
 induction ts with
 | nil=>rfl
 | cons s r ih=>unfold incs at ih ⊢; rw [List.flatMap_cons,List.length_append,ih]; simp; omega
theorem vv0 (p:Pt):∀ ts:List T3,here (incs ts) p=ts.filter (has p)
 | []=>rfl
 | s :: r=>by
  have ih:=vv0 p r
  have e:incs (s :: r)=(e0 s,s) :: (e1 s,s) :: incs r:=rfl
  rw [e,List.filter_cons]
  unfold here at ih ⊢
  rw [List.filter_cons,List.filter_cons]
  dsimp only
  have ne:=e_ne s
  have hh:has p s=(decide (e0 s=p) || decide (e1 s=p)):=rfl
  rw [hh]
  by_cases c0:e0 s=p
  ·have c1:¬ e1 s=p:=λ z=>ne (c0.trans z.symm)
   simp only [c0,c1,decide_true,decide_false,if_true,Bool.true_or,List.map_cons,Bool.false_eq_true,if_false,ih]
  ·by_cases c1:e1 s=p
   ·simp only [c0,c1,decide_true,decide_false,if_true,Bool.false_or,List.map_cons,Bool.false_eq_true,if_false,ih]
   ·simp only [c0,c1,decide_false,Bool.or_self,Bool.false_eq_true,if_false,ih]
theorem tb2 {ts:List T3} {p:Pt}:p ∈ (incs ts).map (·.1) ↔ ∃ s ∈ ts,has p s=true:=by
 constructor
 ·intro h
  obtain ⟨⟨p',t⟩,h1,rfl⟩:=List.mem_map.mp h
  obtain ⟨s,hs,h2⟩:=List.mem_flatMap.mp h1
  rcases List.mem_cons.mp h2 with e | h2
  ·cases e; exact ⟨_,hs,tv0 _⟩
  ·have e:=List.mem_singleton.mp h2
   cases e; exact ⟨_,hs,uv0 _⟩
 ·rintro ⟨s,hs,h⟩
  rcases wq0 h with rfl | rfl
  ·exact List.mem_map.mpr ⟨(e0 s,s),List.mem_flatMap.mpr ⟨s,hs,by simp⟩,rfl⟩
  ·exact List.mem_map.mpr ⟨(e1 s,s),List.mem_flatMap.mpr ⟨s,hs,by simp⟩,rfl⟩
noncomputable def spAt:Sp3:=λ ds μ Q=>∃ ts:List T3,ds=[.tup (ts.map encT)] /\ (∀ t ∈ ts,wy t) /\ ts.length < 1010 /\ ∀ d A μ',AtI encT μ μ' d (incs ts) A->Q (.ref d) μ'
theorem zb3 (ds:List D) (μ:Mu) (Q:VK3) (h:spAt ds μ Q):zu2 sa1 { nx:=λ _ μ'=>Q .non μ',rt:=Q } (start3 ys2 ds) μ:=by
 obtain ⟨ts,rfl,hw,hl,q⟩:=h
 intro d hd
 refine ze0 (λ l ρ μ'=>∃ (us vs:List T3) (A:List (Pt × Addr)) (o2 o3:Option D),l=us.map encT /\ vs ++ us=ts /\ ρ=[some (.tup (ts.map encT)),some (.ref d),o2,o3] /\ AtI encT μ μ' d (incs vs) A) ?_ (λ _ _ _ _=>trivial) ?_ ?_
 ·exact ⟨ts,[],[],none,none,rfl,rfl,rfl,Ext.new hd,hd,za0,List.nodup_nil,λ p=>Iff.rfl,Nat.le_refl _,List.nodup_nil,λ _ h=>(nomatch h),λ _ h=>(nomatch h)⟩
 ·rintro ρ μ' ⟨us,vs,A,o2,o3',e,ev,rfl,I⟩
  cases us with
  | cons _ _=>cases e
  | nil =>
   rw [List.append_nil] at ev
   subst ev
   exact q d A μ' I
 ·rintro x rest ρ μ' ⟨us,vs,A,o2,o3',e,ev,rfl,I⟩
  cases us with
  | nil=>cases e
  | cons s us =>
   rw [List.map_cons] at e
   injection e with e1 e2
   subst e1 e2
   have hs:s ∈ ts:=by rw [<- ev]; simp
   have hl2:vs.length < 1010:=by rw [<- ev,List.length_append] at hl; omega
   have ln:(incs vs).length < 4000:=by rw [wd1]; omega
   refine ⟨s,rfl,hw s hs,?_⟩
   refine sr1 (λ ρ μ'=>∃ A o3,ρ=[some (.tup (ts.map encT)),some (.ref d),some (encT s),o3] /\ AtI encT μ μ' d (incs vs ++ [(e0 s,s)]) A) (λ ρ μ'=>∃ A o3,ρ=[some (.tup (ts.map encT)),some (.ref d),some (encT s),o3] /\ AtI encT μ μ' d (incs vs ++ [(e0 s,s)] ++ [(e1 s,s)]) A) ?_ ?_ ?_
   ·exact uv1 (p:=e0 s) I (by omega) λ μ2 A2 I2=>⟨A2,_,rfl,I2⟩
   ·rintro ρ μ1 ⟨A1,o3'',rfl,I1⟩
    exact uv1 (p:=e1 s) I1 (by rw [List.length_append]; simp only [List.length_cons,List.length_nil]; omega) λ μ2 A2 I2=>⟨A2,_,rfl,I2⟩
   ·rintro ρ μ1 ⟨A1,o3'',rfl,I1⟩
    rw [<- wr1] at I1
    exact ⟨us,vs ++ [s],A1,_,_,rfl,by rw [<- ev]; simp,rfl,I1⟩
theorem zp2 (t:T3):keyI (encT t)=some (tk3 t):=rfl
noncomputable def snk (S:List T3):List (List Int × D):=S.map λ t=>(tk3 t,.bl true)
theorem zm0 {a b:T3} (h:tk3 a=tk3 b):a=b:=by
 unfold tk3 at h
 injection h with h1 h2
 injection h2 with h2 h3
 injection h3 with h3 _
 exact Prod.ext h1 (Prod.ext h2 h3)
theorem zj1:∀ (S:List T3) (t:T3),(valL (snk S) (tk3 t)).isSome=decide (t ∈ S)
 | [],t=>by simp [valL,snk]
 | s :: S,t=>by
  have ih:=zj1 S t
  by_cases c:s=t
  ·subst c; simp [valL,snk]
  ·have c':¬ tk3 s=tk3 t:=λ z=>c (zm0 z)
   have c2:¬ t=s:=λ z=>c z.symm
   simp only [valL,snk,List.map_cons,List.find?_cons,c',decide_false,List.mem_cons,c2,false_or] at ih ⊢
   exact ih
theorem ye3 {S:List T3} {t:T3} (h:t ∉ S):putL (snk S) (tk3 t) (.bl true)=snk (S ++ [t]):=by
 unfold putL
 rw [if_neg]
 ·unfold snk; rw [List.map_append]; rfl
 ·intro z
  obtain ⟨kv,h1,h2⟩:=List.any_eq_true.mp z
  obtain ⟨x,hx,rfl⟩:=List.mem_map.mp h1
  have e:=zm0 (of_decide_eq_true h2)
  exact h (e ▸ hx)
theorem zm3 {s:Addr} {S:List T3} {t:T3} {μ:Mu} {Q:VK3} (h:μ s=some (.dcl (snk S))) (k:Q (.bl (!decide (t ∈ S))) μ):dinR true (encT t) (.ref s) μ Q:=by
 unfold dinR
 simp only [zp2,h,zj1]
 exact k
theorem we3 {s:Addr} {S:List T3} {t:T3} {μ:Mu} {D':Ends3} {ρ:St3} {to ti:TE3} (h:μ s=some (.dcl (snk S))) (hl:S.length < 90000) (ht:t ∉ S) (h1:∀ R,R (.ref s) μ->to ρ μ R) (h2:∀ R,R (encT t) μ->ti ρ μ R) (k:D'.nx ρ (updM μ s (.dcl (snk (S ++ [t]))))):uh0 to ti (c3 (.bl true)) D' ρ μ:=by
 refine h1 _ (h2 _ ?_)
 simp only [zp2,h]
 refine ⟨by unfold snk; rw [List.length_map]; exact hl,?_⟩
 rw [ye3 ht]
 exact k
noncomputable def ta1:Sp3:=λ ds μ Q=>∃ (q s:Addr) (l S:List T3),ds=[.ref q,.ref s] /\ μ q=some (.lst (l.map encT)) /\ μ s=some (.dcl (snk S)) /\ l.Nodup /\ S.length + l.length < 5000 ∧
 ∀ r μ',ExtB s μ μ'->μ r=none->μ' r=some (.lst ((l.filter λ t=>!decide (t ∈ S)).map encT))->μ' s=some (.dcl (snk (S ++ l.filter λ t=>!decide (t ∈ S))))->Q (.ref r) μ'
theorem yb3 (ds:List D) (μ:Mu) (Q:VK3) (h:ta1 ds μ Q):yu2 { nx:=λ _ μ'=>Q .non μ',rt:=Q } (start3 xs2 ds) μ:=by
 obtain ⟨q,s,l,S,rfl,hq,hs,hn,hl,k⟩:=h
 have hz:(20000:Nat) < sizeLine:=by decide
 have hqs:q ≠ s:=λ z=>by subst z; rw [hq] at hs; cases hs
 conv=>whnf
 rw [hq]
 intro p hp
 refine vj0 (rest:=[some (.ref s)]) (λ d=>!decide (decT d ∈ S)) hp (by rw [List.length_map]; omega) (λ μ' ex=>ex _ _ hq) ?_ ?_
 ·intro x hx μ' R ex kk
  obtain ⟨t,ht,rfl⟩:=List.mem_map.mp hx
  exact zm3 (Q:=λ d μ1=>match d with | .bl c=>R c μ1 | _=>False) (ex _ _ hs) kk
 ·intro μ1 ex e1
  rw [zs1 (λ t=>!decide (t ∈ S))] at e1
  have hs1:=ex _ _ hs
  have hps:p ≠ s:=λ z=>by subst z; rw [hs1] at e1; cases e1
  generalize hL:(l.filter λ t=>!decide (t ∈ S))=L at e1 k
  have LS:∀ t ∈ L,t ∉ S:=λ t ht=>by
   rw [<- hL,List.mem_filter] at ht
   simpa using ht.2
  have Ln:L.Nodup:=by rw [<- hL]; exact hn.filter _
  have Ll:L.length<=l.length:=by rw [<- hL]; exact List.length_filter_le _ _
  conv=>whnf
  rw [e1]
  refine ze0 (λ l' ρ μ'=>∃ (us vs:List T3) (o:Option D),l'=us.map encT /\ vs ++ us=L /\ ρ=[some (.ref q),some (.ref s),some (.ref p),o] /\ ExtB s μ1 μ' /\ μ' s=some (.dcl (snk (S ++ vs)))) ?_ ?_ ?_ ?_
  ·exact ⟨L,[],none,rfl,rfl,rfl,ExtB.refl _ _,by rw [List.append_nil]; exact hs1⟩
  ·rintro l' ρ μ' ⟨us,vs,o,_,_,_,eb,_⟩
   exact eb _ _ hps e1
  ·rintro ρ μ' ⟨us,vs,o,e,ev,rfl,eb,hs'⟩
   cases us with
   | cons _ _=>cases e
   | nil =>
    rw [List.append_nil] at ev
    subst ev
    exact k p μ' ((ex.b s).trans eb) hp (eb _ _ hps e1) hs'
  ·rintro x rest ρ μ' ⟨us,vs,o,e,ev,rfl,eb,hs'⟩
   cases us with
   | nil=>cases e
   | cons t us =>
    rw [List.map_cons] at e
    injection e with e2 e3
    subst e2 e3
    have ht:t ∉ S ++ vs:=λ z=>by
     rcases List.mem_append.mp z with z | z
     ·exact LS t (by rw [<- ev]; simp) z
     ·rw [<- ev] at Ln
      exact (List.nodup_append.mp Ln).2.2 t z t (by simp) rfl
    have ll:(S ++ vs).length < 90000:=by rw [List.length_append]; rw [<- ev,List.length_append] at Ll; omega
    refine we3 (to:=v3 1) (ti:=v3 3) hs' ll ht (λ R r=>r) (λ R r=>r) ⟨us,vs ++ [t],_,rfl,by rw [<- ev]; simp,rfl,eb.trans ExtB.upd,?_⟩
    rw [za0,List.append_assoc]
structure AtD (μ:Mu) (d:Addr) (ts:List T3) (A:List (Pt × Addr)):Prop where
 dc:μ d=some (.dcl (atk A))
 nd:(A.map (·.1)).Nodup
 me:∀ p,p ∈ A.map (·.1) ↔ ∃ s ∈ ts,has p s=true
 le:A.length<=2 * ts.length
 ls:∀ x ∈ A,μ x.2=some (.lst ((ts.filter (has x.1)).map encT))
theorem AtI.d {μ0 μ:Mu} {d:Addr} {ts:List T3} {A:List (Pt × Addr)} (I:AtI encT μ0 μ d (incs ts) A):AtD μ d ts A :=
 ⟨I.dc,I.nd,λ p=>(I.me p).trans tb2,by rw [<- wd1]; exact I.le,λ x hx=>by rw [I.ls x hx,vv0]⟩
theorem AtD.ext {μ μ':Mu} {d s:Addr} {ts:List T3} {A:List (Pt × Addr)} {S:List (List Int × D)} (a:AtD μ d ts A) (hs:μ s=some (.dcl S)) (ne:d ≠ s) (e:ExtB s μ μ'):AtD μ' d ts A :=
 ⟨e _ _ ne a.dc,a.nd,a.me,a.le,λ x hx=>e _ _ (λ z=>by have:=a.ls x hx; rw [z,hs] at this; cases this) (a.ls x hx)⟩
theorem AtD.mono {μ μ':Mu} {d:Addr} {ts:List T3} {A:List (Pt × Addr)} (a:AtD μ d ts A) (e:Ext μ μ'):AtD μ' d ts A:=⟨e _ _ a.dc,a.nd,a.me,a.le,λ x hx=>e _ _ (a.ls x hx)⟩
theorem vm3 {μ:Mu} {d:Addr} {ts:List T3} {A:List (Pt × Addr)} {p:Pt} {Q:VK3} (a:AtD μ d ts A) (h:∃ s ∈ ts,has p s=true) (k:∀ q,μ q=some (.lst ((ts.filter (has p)).map encT))->Q (.ref q) μ):dgR (.ref d) (encQ p) μ Q:=by
 obtain ⟨⟨p',q⟩,hx,e⟩:=List.mem_map.mp ((a.me p).mpr h)
 dsimp only at e; subst e
 unfold dgR
 simp only [ta2,a.dc,wj1 a.nd hx]
 exact k q (a.ls _ hx)
theorem zw3 {p q:Addr} {l m:List D} {μ:Mu} {Q:VK3} (h1:μ p=some (.lst l)) (h2:μ q=some (.lst m)) (hl:l.length + m.length<=sizeLine) (k:Q .non (updM μ p (.lst (l ++ m)))):extR (.ref p) [.ref q] μ Q:=by
 unfold extR
 simp only [h1,h2]
 exact ⟨hl,k⟩
structure Mk (ts S:List T3) (a:T3) (P:List T3):Prop where
 nd:P.Nodup
 sub:∀ x ∈ P,x ∈ ts /\ x ∉ S
 hd:a ∈ P
 co:∀ x ∈ P,Conn ts a x
theorem Mk.len {ts S P:List T3} {a:T3} (m:Mk ts S a P):P.length<=ts.length:=List.Nodup.length_le_of_subset m.nd λ x hx=>(m.sub x hx).1
theorem Mk.add {ts S P:List T3} {a h:T3} {p:Pt} (hn:ts.Nodup) (m:Mk ts S a P) (hh:h ∈ P) (hp:has p h=true):Mk ts S a (P ++ (ts.filter (has p)).filter λ t=>!decide (t ∈ S ++ P)):=by
 refine ⟨?_,λ x hx=>?_,List.mem_append_left _ m.hd,λ x hx=>?_⟩
 ·rw [List.nodup_append]
  refine ⟨m.nd,(hn.filter _).filter _,λ x hx y hy e=>?_⟩
  subst e
  rw [List.mem_filter] at hy
  simp [hx] at hy
 ·rcases List.mem_append.mp hx with hx | hx
  ·exact m.sub x hx
  ·rw [List.mem_filter,List.mem_filter] at hx
   have:=hx.2
   simp at this
   exact ⟨hx.1.1,this.1⟩
 ·rcases List.mem_append.mp hx with hx | hx
  ·exact m.co x hx
  ·rw [List.mem_filter,List.mem_filter] at hx
   exact .step (m.co h hh) hx.1.1 ⟨p,hp,hx.1.2⟩
structure Wp (μ μ':Mu) (ts S:List T3) (a:T3) (s pc:Addr) (P:List T3):Prop where
 eb:ExtB s μ μ'
 fr:μ pc=none
 pl:μ' pc=some (.lst (P.map encT))
 sn:μ' s=some (.dcl (snk (S ++ P)))
 mkk:Mk ts S a P
theorem ExtB.updn {μ0 μ:Mu} {s p:Addr} {o:MO} (e:ExtB s μ0 μ) (h:μ0 p=none):ExtB s μ0 (updM μ p o):=λ a u n q=>by
 rw [ua0 (ub0 q h)]; exact e a u n q
theorem un1 {μ μ':Mu} {ts S P:List T3} {a h:T3} {d s pc:Addr} {A:List (Pt × Addr)} {p:Pt} {o0 o4 o5:Option D} {Q:VK3} (hn:ts.Nodup) (hl:ts.length < 1010) (hS:S.length < 1010) (hs:∃ S,μ s=some (.dcl S)) (hd:AtD μ d ts A) (ne:d ≠ s) (W:Wp μ μ' ts S a s pc P) (hh:h ∈ P) (hp:has p h=true)
    (k:∀ μ2 N,Wp μ μ2 ts S a s pc (P ++ N)->(∀ c ∈ ts,has p c=true->c ∈ S ++ (P ++ N))->Q .non μ2) :
    mt3 extR (v3 3) (cons3 (call3 ta1 (cons3 (o3 dgR (v3 1) (v3 6)) (cons3 (v3 2) nil3))) nil3) [o0,some (.ref d),some (.ref s),some (.ref pc),o4,o5,some (encQ p)] μ' Q:=by
 have hz:(20000:Nat) < sizeLine:=by decide
 obtain ⟨S0,hs0⟩:=hs
 have a':=hd.ext hs0 ne W.eb
 have lP:=W.mkk.len
 conv=>whnf
 rw [W.pl]
 show dgR (.ref d) (encQ p) μ' (λ x μ1=>_)
 refine vm3 a' ⟨h,(W.mkk.sub h hh).1,hp⟩ λ q hq=>?_
 have lf:(ts.filter (has p)).length<=ts.length:=List.length_filter_le _ _
 refine ⟨q,s,ts.filter (has p),S ++ P,rfl,hq,W.sn,hn.filter _,by rw [List.length_append]; omega,λ r μ2 eb hr er es=>?_⟩
 have hps:pc ≠ s:=λ z=>by have:=W.pl; rw [z,W.sn] at this; cases this
 have hpr:pc ≠ r:=ub0 W.pl hr
 refine zw3 (eb _ _ hps W.pl) er ?_ ?_
 ·rw [List.length_map,List.length_map]
  have:=List.length_filter_le (λ t=>!decide (t ∈ S ++ P)) (ts.filter (has p))
  omega
 ·rw [<- List.map_append]
  refine k _ _ ⟨(W.eb.trans eb).updn W.fr,W.fr,za0,?_,W.mkk.add hn hh hp⟩ λ c hc hpc=>?_
  ·rw [ua0 (Ne.symm hps),es,List.append_assoc]
  ·by_cases z:c ∈ S ++ P
   ·rw [<- List.append_assoc]; exact List.mem_append_left _ z
   ·rw [<- List.append_assoc]
    refine List.mem_append_right _ (List.mem_filter.mpr ⟨List.mem_filter.mpr ⟨hc,hpc⟩,?_⟩)
    simpa using z
noncomputable def spPw:Sp3:=λ ds μ Q=>∃ (ts S:List T3) (a:T3) (d s:Addr) (A:List (Pt × Addr)),ds=[encT a,.ref d,.ref s] /\ Pc ts /\ AtD μ d ts A /\ μ s=some (.dcl (snk S)) /\ d ≠ s /\ a ∈ ts /\ a ∉ S /\ S.length < 1010 ∧
 ∀ (P us:List T3) μ',ExtB s μ μ'->μ' s=some (.dcl (snk (S ++ P)))->Mk ts S a P->(∀ x ∈ P,∀ c ∈ ts,tch x c->c ∈ S ++ P)->us.Perm P->us.Pairwise le3->Q (.tup (us.map encT)) μ'
theorem wb3 (ds:List D) (μ:Mu) (Q:VK3) (h:spPw ds μ Q):wu2 sa1 ta1 { nx:=λ _ μ'=>Q .non μ',rt:=Q } (start3 zs2 ds) μ:=by
 obtain ⟨ts,S,a,d,s,A,rfl,hP,hd,hs,ne,ha,haS,hS,q⟩:=h
 have hn:=xj0 hP
 have hl:=hP.2.2
 refine we3 (t:=a) (to:=v3 2) (ti:=v3 0) (ρ:=[some (encT a),some (.ref d),some (.ref s),none,none,none,none]) hs (by omega) haS (λ R r=>r) (λ R r=>r) ?_
 refine ⟨(show 1<=sizeLine by decide),λ pc hpc=>?_⟩
 have hps:pc ≠ s:=λ z=>by subst z; rw [za0] at hpc; cases hpc
 have hpf:μ pc=none:=by rw [ua0 hps] at hpc; exact hpc
 have m0:Mk ts S a [a]:=⟨by simp,λ x hx=>by rw [List.mem_singleton] at hx; subst hx; exact ⟨ha,haS⟩,by simp,λ x hx=>by rw [List.mem_singleton] at hx; subst hx; exact .refl⟩
 refine ⟨λ m ρ μ'=>∃ (n:Nat) (P:List T3) (o5 o6:Option D),m=ts.length - n /\ n<=P.length /\ ρ=[some (encT a),some (.ref d),some (.ref s),some (.ref pc),some (.int n),o5,o6] /\ Wp μ μ' ts S a s pc P /\ ∀ j x,j < n->P[j]?=some x->∀ c ∈ ts,tch x c->c ∈ S ++ P,⟨ts.length - 0,0,[a],none,none,rfl,Nat.zero_le _,rfl,⟨ExtB.upd.updn hpf,hpf,za0,?_,m0⟩,λ j x hj=>absurd hj (Nat.not_lt_zero _)⟩,?_⟩
 ·rw [ua0 (Ne.symm hps),za0]
 ·rintro m ρ μ' ⟨n,P,o5,o6,rfl,hnP,rfl,W,cv⟩
  have lP:=W.mkk.len
  conv=>whnf
  rw [W.pl]
  show if decide ((n:Int) < ((P.map encT).length:Int))=true then _ else _
  by_cases cn:n < P.length
  ·rw [if_pos (decide_eq_true (by rw [List.length_map]; omega))]
   refine ⟨λ ρ1 μ1=>∃ (P1:List T3) (o5 o6:Option D),n + 1<=P1.length /\ ρ1=[some (encT a),some (.ref d),some (.ref s),some (.ref pc),some (.int ((n:Int) + 1)),o5,o6] /\ Wp μ μ1 ts S a s pc P1 /\ ∀ j x,j < n + 1->P1[j]?=some x->∀ c ∈ ts,tch x c->c ∈ S ++ P1,?_,?_⟩
   ·rintro ρ1 μ1 ⟨P1,o5',o6',hn1,rfl,W1,cv1⟩
    exact ⟨ts.length - (n + 1),by omega,n + 1,P1,o5',o6',rfl,hn1,rfl,W1,cv1⟩
   ·obtain ⟨b1,ea⟩:=wz0 (ts:=P) (i:=(n:Int)) (by omega) (by omega)
    refine sq1 W.pl ea ?_
    have ei:((n:Int)).toNat=n:=by omega
    have hg:P[n]?=some (P[n]'cn):=List.getElem?_eq_getElem cn
    have eh:P[((n:Int)).toNat]=P[n]'cn:=by congr 1
    rw [eh]
    generalize P[n]'cn=h at hg
    have hh:h ∈ P:=List.mem_of_getElem? hg
    have hw:wy h:=hP.2.1 h (W.mkk.sub h hh).1
    refine ⟨h,rfl,hw,?_⟩
    refine sr1 (λ ρ1 μ1=>∃ N o6,ρ1=[some (encT a),some (.ref d),some (.ref s),some (.ref pc),some (.int n),some (encT h),o6] /\ Wp μ μ1 ts S a s pc (P ++ N) /\ ∀ c ∈ ts,has (e0 h) c=true->c ∈ S ++ (P ++ N))
     (λ ρ1 μ1=>∃ N o6,ρ1=[some (encT a),some (.ref d),some (.ref s),some (.ref pc),some (.int n),some (encT h),o6] /\ Wp μ μ1 ts S a s pc (P ++ N) /\ (∀ c ∈ ts,has (e0 h) c=true->c ∈ S ++ (P ++ N)) /\ ∀ c ∈ ts,has (e1 h) c=true->c ∈ S ++ (P ++ N)) ?_ ?_ ?_
    ·exact un1 (p:=e0 h) hn hl hS ⟨_,hs⟩ hd ne W hh (tv0 h) λ μ2 N W2 cv2=>⟨N,_,rfl,W2,cv2⟩
    ·rintro ρ1 μ1 ⟨N,o6',rfl,W1,cv1⟩
     refine un1 (p:=e1 h) hn hl hS ⟨_,hs⟩ hd ne W1 (List.mem_append_left _ hh) (uv0 h) λ μ2 N2 W2 cv2=>⟨N ++ N2,_,rfl,by rw [<- List.append_assoc]; exact W2,λ c hc hp=>?_,λ c hc hp=>by have z:=cv2 c hc hp; rw [List.append_assoc P] at z; exact z⟩
     rw [<- List.append_assoc,<- List.append_assoc]
     refine List.mem_append_left _ ?_
     rw [List.append_assoc]
     exact cv1 c hc hp
    ·rintro ρ1 μ1 ⟨N,o6',rfl,W1,cv0,cv1⟩
     refine ⟨P ++ N,_,_,by rw [List.length_append]; omega,rfl,W1,λ j x hj ex c hc ht=>?_⟩
     by_cases cj:j < n
     ·rw [List.getElem?_append_left (by omega)] at ex
      rcases List.mem_append.mp (cv j x cj ex c hc ht) with z | z
      ·exact List.mem_append_left _ z
      ·exact List.mem_append_right _ (List.mem_append_left _ z)
     ·have ej:j=n:=by omega
      subst ej
      rw [List.getElem?_append_left (by omega),hg] at ex
      cases ex
      obtain ⟨p,p1,p2⟩:=ht
      rcases wq0 p1 with rfl | rfl
      ·exact cv0 c hc p2
      ·exact cv1 c hc p2
  ·rw [if_neg (λ z=>cn (by have:=of_decide_eq_true z; rw [List.length_map] at this; omega))]
   refine zp3 W.pl (by omega) λ us a1 a2 r hr=>sj1 za0 (q P us _ (W.eb.trans (Ext.b s (Ext.new hr))) ?_ W.mkk ?_ a1 a2)
   ·rw [ua0 (ub0 W.sn hr)]; exact W.sn
   ·intro x hx c hc ht
    obtain ⟨j,hj,ej⟩:=List.getElem_of_mem hx
    exact cv j x (by omega) (by rw [List.getElem?_eq_getElem hj,ej]) c hc ht
noncomputable def encU (u:List T3):D:=.tup (u.map encT)
structure Wq (ts S:List T3) (us:List (List T3)):Prop where
 perm:us.flatten.Perm S
 nd:S.Nodup
 sub:∀ x ∈ S,x ∈ ts
 ne:∀ u ∈ us,u ≠ []
 up:∀ u ∈ us,u.Pairwise le3
 cl:∀ u ∈ us,∀ a ∈ u,∀ c ∈ ts,tch a c->c ∈ u
 co:∀ u ∈ us,∀ a ∈ u,∀ b ∈ u,Conn ts a b
theorem Wq.scl {ts S:List T3} {us:List (List T3)} (w:Wq ts S us) {x c:T3} (hx:x ∈ S) (hc:c ∈ ts) (ht:tch x c):c ∈ S:=by
 obtain ⟨u,hu,xu⟩:=List.mem_flatten.mp (w.perm.mem_iff.mpr hx)
 exact w.perm.mem_iff.mp (List.mem_flatten.mpr ⟨u,hu,w.cl u hu x xu c hc ht⟩)
theorem Wq.add {ts S P u:List T3} {us:List (List T3)} {a:T3} (ha:a ∈ ts) (w:Wq ts S us) (m:Mk ts S a P) (cv:∀ x ∈ P,∀ c ∈ ts,tch x c->c ∈ S ++ P) (hu:u.Perm P) (hs:u.Pairwise le3):Wq ts (S ++ P) (us ++ [u]):=by
 have clP:∀ x ∈ P,∀ c ∈ ts,tch x c->c ∈ P:=λ x hx c hc ht=>by
  rcases List.mem_append.mp (cv x hx c hc ht) with z | z
  ·exact absurd (w.scl z (m.sub x hx).1 ht.symm) (m.sub x hx).2
  ·exact z
 have each:∀ {C:List T3->Prop},(∀ v ∈ us,C v)->C u->∀ v ∈ us ++ [u],C v:=λ h k v hv=>by
  rcases List.mem_append.mp hv with hv | hv
  ·exact h v hv
  ·rw [List.mem_singleton] at hv; subst hv; exact k
 refine ⟨?_,?_,λ x hx=>?_,each w.ne ?_,each w.up hs,each w.cl ?_,each w.co ?_⟩
 ·rw [List.flatten_append]
  exact List.Perm.append w.perm (by simpa using hu)
 ·rw [List.nodup_append]
  exact ⟨w.nd,m.nd,λ x hx y hy e=>(m.sub y hy).2 (e ▸ hx)⟩
 ·rcases List.mem_append.mp hx with z | z
  ·exact w.sub x z
  ·exact (m.sub x z).1
 ·intro z; subst z; exact absurd (hu.symm.mem_iff.mp m.hd) (by simp)
 ·intro x hx c hc ht
  exact hu.mem_iff.mpr (clP x (hu.mem_iff.mp hx) c hc ht)
 ·intro x hx y hy
  exact ((m.co x (hu.mem_iff.mp hx)).symm ha).trans (m.co y (hu.mem_iff.mp hy))
noncomputable def Asc (us:List (List T3)):Prop:=us.Pairwise λ u v=>∃ a ∈ u,∀ b ∈ v,Lt a b
theorem xv3 {a b:T3} (h:Lt a b) (k:Lt b a):False:=by
 obtain ⟨x1,x2,x3⟩:=a
 obtain ⟨y1,y2,y3⟩:=b
 simp only [Lt,lt3,Bool.or_eq_true,Bool.and_eq_true,decide_eq_true_eq,beq_iff_eq] at h k
 omega
theorem Asc.one {us vs:List (List T3)} (h:us.Perm vs) (a:Asc us) (b:Asc vs):us=vs:=by
 refine List.Perm.eq_of_pairwise (λ u v _ _ ⟨x,hx,p⟩ ⟨y,hy,q⟩=>?_) a b h
 exact (xv3 (p y hy) (q x hx)).elim
noncomputable def te0:Sp3:=λ ds μ Q=>∃ ts:List T3,ds=[.tup (ts.map encT)] /\ Pc ts /\ ∀ r (us:List (List T3)) μ',Ext μ μ'->μ r=none->μ' r=some (.lst (us.map encU))->IsP ts us->Asc us->Q (.ref r) μ'
theorem vb3 (ds:List D) (μ:Mu) (Q:VK3) (h:te0 ds μ Q):vu2 xb1 spPw spAt { nx:=λ _ μ'=>Q .non μ',rt:=Q } (start3 ws2 ds) μ:=by
 obtain ⟨ts,rfl,hP,q⟩:=h
 have hn:=xj0 hP
 have hl:=hP.2.2
 have hz:(20000:Nat) < sizeLine:=by decide
 refine ⟨ts,rfl,hP,ts,rfl,hP.2.1,hl,λ d A μ1 I=>?_⟩
 intro s hs
 refine ⟨Nat.zero_le _,λ pl hpl=>?_⟩
 have hds:d ≠ s:=ub0 I.dc hs
 have hpls:pl ≠ s:=λ z=>by subst z; rw [za0] at hpl; cases hpl
 have hpl1:μ1 pl=none:=by rw [ua0 hpls] at hpl; exact hpl
 refine ze0 (λ l ρ μ'=>∃ (ks js S:List T3) (us:List (List T3)) (o:Option D),l=ks.map encT /\ js ++ ks=ts /\ ρ=[some (.tup (ts.map encT)),some (.ref d),some (.ref s),some (.ref pl),o] /\ Ext μ1 μ' /\ μ' s=some (.dcl (snk S)) /\ μ' pl=some (.lst (us.map encU)) /\ Wq ts S us /\ us.length<=S.length /\ (∀ x ∈ js,x ∈ S) /\ Asc us /\ ∀ u ∈ us,∃ a ∈ u,a ∈ js) ?_ (λ _ _ _ _=>trivial) ?_ ?_
 ·refine ⟨ts,[],[],[],none,rfl,rfl,rfl,(Ext.new hs).trans (Ext.new hpl),?_,za0,⟨by simp,List.nodup_nil,λ _ h=>(nomatch h),λ _ h=>(nomatch h),λ _ h=>(nomatch h),λ _ h=>(nomatch h),λ _ h=>(nomatch h)⟩,Nat.le_refl _,(λ _ h=>(nomatch h)),List.Pairwise.nil,λ _ h=>(nomatch h)⟩
  rw [ua0 (Ne.symm hpls),za0]; rfl
 ·rintro ρ μ' ⟨ks,js,S,us,o,e,ej,rfl,ex,es,ep,w,lu,hj,as,hd⟩
  cases ks with
  | cons _ _=>cases e
  | nil =>
   rw [List.append_nil] at ej
   subst ej
   refine q pl us μ' (I.ex.trans ex) (I.ex.free hpl1) ep ⟨w.perm.trans ((List.perm_ext_iff_of_nodup w.nd hn).mpr λ x=>⟨w.sub x,hj x⟩),w.ne,w.up,w.cl,w.co⟩ as
 ·rintro x rest ρ μ' ⟨ks,js,S,us,o,e,ej,rfl,ex,es,ep,w,lu,hj,as,hd⟩
  cases ks with
  | nil=>cases e
  | cons a ks =>
   rw [List.map_cons] at e
   injection e with e2 e3
   subst e2 e3
   have ha:a ∈ ts:=by rw [<- ej]; simp
   have lS:S.length<=ts.length:=List.Nodup.length_le_of_subset w.nd w.sub
   conv=>whnf
   rw [es]
   show if (!(valL (snk S) (tk3 a)).isSome)=true then _ else _
   rw [zj1]
   by_cases c:a ∈ S
   ·rw [decide_eq_true c]
    refine ⟨ks,js ++ [a],S,us,_,rfl,by rw [<- ej]; simp,rfl,ex,es,ep,w,lu,λ x hx=>?_,as,λ u hu=>let ⟨y,y1,y2⟩:=hd u hu; ⟨y,y1,List.mem_append_left _ y2⟩⟩
    rcases List.mem_append.mp hx with z | z
    ·exact hj x z
    ·rw [List.mem_singleton] at z; subst z; exact c
   ·rw [decide_eq_false c]
    conv=>whnf
    rw [ep]
    refine ⟨ts,S,a,d,s,A,rfl,hP,I.d.mono ex,es,hds,ha,c,by omega,λ P v μ2 eb es2 m cv v1 v2=>?_⟩
    have ep2:=eb pl _ hpls ep
    have lP:=m.len
    have w2:=w.add ha m cv v1 v2
    have lS2:(S ++ P).length<=ts.length:=List.Nodup.length_le_of_subset w2.nd w2.sub
    have hP1:1<=P.length:=List.length_pos_of_mem m.hd
    conv=>whnf
    rw [ep2]
    refine ⟨by rw [List.length_map]; omega,?_⟩
    refine ⟨ks,js ++ [a],S ++ P,us ++ [v],_,rfl,by rw [<- ej]; simp,rfl,?_,?_,?_,w2,?_,λ x hx=>?_,?_,λ u hu=>?_⟩
    ·intro b o' hb
     have n1:b ≠ s:=ub0 hb hs
     have n2:b ≠ pl:=ub0 hb hpl1
     rw [ua0 n2]
     exact eb b o' n1 (ex b o' hb)
    ·rw [ua0 (Ne.symm hpls)]; exact es2
    ·rw [za0,List.map_append]; rfl
    ·rw [List.length_append,List.length_append]; simp only [List.length_cons,List.length_nil]; omega
    ·rcases List.mem_append.mp hx with z | z
     ·exact List.mem_append_left _ (hj x z)
     ·rw [List.mem_singleton] at z; subst z; exact List.mem_append_right _ m.hd
    ·refine List.pairwise_append.mpr ⟨as,List.pairwise_singleton _ _,λ u hu v' hv=>?_⟩
     rw [List.mem_singleton] at hv; subst hv
     obtain ⟨y,y1,y2⟩:=hd u hu
     refine ⟨y,y1,λ b hb=>?_⟩
     have hbP:=v1.mem_iff.mp hb
     have hb1:=m.sub b hbP
     have hb2:b ∈ a :: ks:=by
      have:b ∈ js ++ a :: ks:=by rw [ej]; exact hb1.1
      rcases List.mem_append.mp this with z | z
      ·exact absurd (hj b z) hb1.2
      ·exact z
     have pw:=hP.1
     rw [<- ej,List.pairwise_append] at pw
     exact pw.2.2 y y2 b hb2
    ·rcases List.mem_append.mp hu with z | z
     ·obtain ⟨y,y1,y2⟩:=hd u z; exact ⟨y,y1,List.mem_append_left _ y2⟩
     ·rw [List.mem_singleton] at z; subst z
      exact ⟨a,v1.mem_iff.mpr m.hd,by simp⟩
noncomputable def decQ (d:D):Pt:=match d with
 | .tup [.int a,.int b]=>(a,b)
 | _=>(0,0)
theorem ym0 (p:Pt):decQ (encQ p)=p:=rfl
theorem yl3 (g:Pt->Bool) (A:List Pt):(A.map encQ).filter (λ d=>g (decQ d))=(A.filter g).map encQ:=by
 rw [List.filter_map]; rfl
theorem ue2 {p:Addr} {ps:List Pt} {μ:Mu} {Q:VK3} (h:μ p=some (.lst (ps.map encQ))) (h64:ps.length < 9000) (k:∀ us:List Pt,us.Perm ps->us.Pairwise le2->∀ r,μ r=none->Q (.ref r) (updM μ r (.lst (us.map encQ)))):yf1 [.ref p] μ Q:=by
 have e:t2s? (ps.map encQ)=some ps:=tk1 ps
 unfold yf1
 simp only [h,e]
 exact ⟨Nat.le_trans (Nat.le_of_lt h64) (by decide),k⟩
noncomputable def so0:Sp3:=λ ds μ Q=>∃ ts:List T3,ds=[.tup (ts.map encT)] /\ Pc ts /\ ts.length < 1010 /\ ∀ r (ps:List Pt) μ',Ext μ μ'->μ r=none->μ' r=some (.lst (ps.map encQ))->ps.Perm (Od ts)->ps.Pairwise le2->Q (.ref r) μ'
theorem ub3 (ds:List D) (μ:Mu) (Q:VK3) (h:so0 ds μ Q):uu2 xb1 spAt { nx:=λ _ μ'=>Q .non μ',rt:=Q } (start3 vs2 ds) μ:=by
 obtain ⟨ts,rfl,hP,h31,q⟩:=h
 have hz:(20000:Nat) < sizeLine:=by decide
 refine ⟨ts,rfl,hP,ts,rfl,hP.2.1,hP.2.2,λ d A μ1 I=>?_⟩
 have a:=I.d
 have lA:=a.le
 conv=>whnf
 rw [I.dc]
 intro p hp
 have el:((atk A).map λ kv=>tupI kv.1)=(A.map (·.1)).map encQ:=by
  unfold atk; rw [List.map_map,List.map_map]; rfl
 rw [el]
 refine vj0 (rest:=[some (.ref d)]) (λ x=>decide (deg ts (decQ x) % 2=1)) hp (by rw [List.length_map,List.length_map]; omega) (λ μ' ex=>ex _ _ I.dc) ?_ ?_
 ·intro x hx μ' R ex kk
  obtain ⟨p',hp',rfl⟩:=List.mem_map.mp hx
  show dgR (.ref d) (encQ p') μ' (λ x μ1=>_)
  refine vm3 (a.mono ex) ((a.me p').mp hp') λ r hr=>?_
  conv=>whnf
  rw [hr]
  refine ⟨(show (0:Int) < 2 by decide),?_⟩
  have e:decide ((((ts.filter (has p')).map encT).length:Int) % 2=1)=decide (deg ts (decQ (encQ p')) % 2=1):=by
   rw [ym0,List.length_map]
   unfold deg
   rw [List.countP_eq_length_filter]
   exact decide_eq_decide.mpr (by omega)
  show R (decide ((((ts.filter (has p')).map encT).length:Int) % 2=1)) μ'
  rw [e]
  exact kk
 ·intro μ2 ex e2
  rw [yl3 (λ p=>decide (deg ts p % 2=1))] at e2
  have lF:=List.length_filter_le (λ p=>decide (deg ts p % 2=1)) (A.map (·.1))
  rw [List.length_map] at lF
  refine ue2 e2 (by omega) λ us u1 u2 r hr=>q r us _ (I.ex.trans (ex.trans (Ext.new hr))) ((I.ex.trans ex).free hr) za0 (u1.trans ?_) u2
  refine (List.perm_ext_iff_of_nodup (a.nd.filter _) (vz0 _)).mpr λ p=>?_
  rw [List.mem_filter,xx0,decide_eq_true_eq]
  refine ⟨λ z=>z.2,λ z=>⟨(a.me p).mpr (tq2 z),z⟩⟩
noncomputable def spOf:Sp3:=λ ds μ Q=>∃ ts:List T3,ds=[encU ts] /\ Pc ts /\ ts.length < 1010 /\ ∀ μ',Ext μ μ'->Q (.int (need ts)) μ'
theorem sa3 (ds:List D) (μ:Mu) (Q:VK3) (h:spOf ds μ Q):tt2 so0 { nx:=λ _ μ'=>Q .non μ',rt:=Q } (start3 tr2 ds) μ:=by
 obtain ⟨ts,rfl,hP,h31,q⟩:=h
 refine ⟨ts,rfl,hP,h31,λ r ps μ1 ex hr er p1 p2=>?_⟩
 conv=>whnf
 rw [er]
 refine ⟨⟨(show (0:Int) < 2 by decide),(show (2:Int) < 2 ^ 120 by decide)⟩,?_⟩
 have z:=q μ1 ex
 have e:(need ts:Int)=if (1:Int) < (((ps.map encQ).length:Nat):Int) / 2 then (((ps.map encQ).length:Nat):Int) / 2 else 1:=by
  rw [List.length_map,p1.length_eq]
  unfold need
  split <;> omega
 rw [e] at z
 show mxR [.int 1,.int ((((ps.map encQ).length:Nat):Int) / 2)] μ1 Q
 rw [xg2]
 exact z
theorem IsP.pc {ts:List T3} {us:List (List T3)} (hP:Pc ts) (h:IsP ts us) {u:List T3} (hu:u ∈ us):Pc u /\ u.length<=ts.length:=by
 have hn:=xj0 hP
 have nu:=(h.two hn).1 u hu
 have lu:u.length<=ts.length:=List.Nodup.length_le_of_subset nu λ x hx=>h.mem hu hx
 exact ⟨yo2 nu (λ t ht=>hP.2.1 t (h.mem hu ht)) (by have:=hP.2.2; omega) (List.Perm.refl _) (h.up u hu),lu⟩
noncomputable def decU (d:D):List T3:=match d with
 | .tup l=>l.map decT
 | _=>[]
theorem xm0 (u:List T3):decU (encU u)=u:=by
 show (u.map encT).map decT=u
 rw [List.map_map]
 exact List.map_id _
theorem sq0:∀ l:List Nat,(l.map (λ n:Nat=>(n:Int))).sum=((l.sum:Nat):Int)
 | []=>rfl
 | n :: r=>by rw [List.map_cons,List.sum_cons,List.sum_cons,sq0 r]; omega
theorem ys0:∀ l:List Nat,ints? (l.map λ n:Nat=>D.int (n:Int))=some (l.map λ n:Nat=>(n:Int))
 | []=>rfl
 | n :: r=>by simp only [List.map_cons,ints?,ys0 r]
theorem IsP.len {ts:List T3} {us:List (List T3)} (hn:ts.Nodup) (h:IsP ts us):us.length<=ts.length:=by
 rw [<- h.perm.length_eq,List.length_flatten]
 have key:∀ us:List (List T3),(∀ u ∈ us,u ≠ [])->us.length<=(us.map List.length).sum:=by
  intro us
  induction us with
  | nil=>intro _; exact Nat.le_refl _
  | cons u r ih =>
   intro hne
   have h1:=ih λ v hv=>hne v (List.mem_cons_of_mem _ hv)
   have h2:1<=u.length:=List.length_pos_iff.mpr (hne u (List.mem_cons_self ..))
   rw [List.length_cons,List.map_cons,List.sum_cons]
   omega
 exact key us h.ne
noncomputable def spTn:Sp3:=λ ds μ Q=>∃ ts:List T3,ds=[.tup (ts.map encT)] /\ Pc ts /\ ts.length < 1010 /\ ∀ (us:List (List T3)) μ',Ext μ μ'->IsP ts us->Q (.int (wp0 us)) μ'
theorem xb3 (ds:List D) (μ:Mu) (Q:VK3) (h:spTn ds μ Q):xu2 te0 spOf { nx:=λ _ μ'=>Q .non μ',rt:=Q } (start3 sr2 ds) μ:=by
 obtain ⟨ts,rfl,hP,h31,q⟩:=h
 have hz:(20000:Nat) < sizeLine:=by decide
 refine ⟨ts,rfl,hP,λ r us μ1 ex hr er ip _=>?_⟩
 have lu:=ip.len (xj0 hP)
 conv=>whnf
 rw [er]
 intro p hp
 refine wj0 (rest:=[]) (λ d=>.int (need (decU d))) hp (by rw [List.length_map]; omega) (λ μ' e=>e _ _ er) ?_ ?_
 ·intro x hx μ' R e kk
  obtain ⟨u,hu,rfl⟩:=List.mem_map.mp hx
  obtain ⟨p1,p2⟩:=ip.pc hP hu
  exact ⟨u,rfl,p1,by omega,λ μ2 e2=>by have z:=kk μ2 e2; rw [xm0] at z; exact z⟩
 ·intro μ2 e2 ep
  have el:(us.map encU).map (λ d=>D.int (need (decU d)))=(us.map need).map λ n:Nat=>D.int (n:Int):=by
   rw [List.map_map,List.map_map]
   apply List.map_congr_left
   intro u _
   show D.int (need (decU (encU u)):Nat)=_
   rw [xm0]; rfl
  rw [el] at ep
  conv=>whnf
  rw [ep]
  show (match ints? ((us.map need).map λ n:Nat=>D.int (n:Int)) with
   | some ns=>Q (.int ns.sum) μ2
   | none=>False)
  rw [ys0]
  show Q (.int ((us.map need).map λ n:Nat=>(n:Int)).sum) μ2
  rw [sq0]
  exact q us μ2 (ex.trans e2) ip
noncomputable def mrk (ts:List T3) (mk:T3->T3):List (List Int × D):=ts.map λ t=>(tk3 t,encT (mk t))
theorem yj0 {ts:List T3} {f g:T3->T3} (h:∀ t ∈ ts,f t=g t):mrk ts f=mrk ts g:=by
 unfold mrk
 exact List.map_congr_left λ t ht=>by rw [h t ht]
theorem tp1 {mk:T3->T3} {t:T3}:∀ {ts:List T3},t ∈ ts->valL (mrk ts mk) (tk3 t)=some (encT (mk t))
 | x :: r,h=>by
  unfold valL mrk
  rw [List.map_cons,List.find?_cons]
  by_cases c:x=t
  ·subst c; simp
  ·have c1:¬ tk3 x=tk3 t:=λ z=>c (zm0 z)
   simp only [c1,decide_false]
   exact tp1 (mk:=mk) ((List.mem_cons.mp h).resolve_left (Ne.symm c))
theorem to2 {mk:T3->T3} {t m:T3} {ts:List T3} (h:t ∈ ts):putL (mrk ts mk) (tk3 t) (encT m)=mrk ts (λ x=>if x=t then m else mk x):=by
 unfold putL
 rw [if_pos]
 ·unfold mrk
  rw [List.map_map]
  apply List.map_congr_left
  intro x _
  show (if tk3 x=tk3 t then (tk3 x,encT m) else (tk3 x,encT (mk x)))=_
  by_cases c:x=t
  ·subst c; rw [if_pos rfl]; simp
  ·rw [if_neg (λ z=>c (zm0 z))]; dsimp only; rw [if_neg c]
 ·exact List.any_eq_true.mpr ⟨(tk3 t,encT (mk t)),List.mem_map.mpr ⟨t,h,rfl⟩,decide_eq_true rfl⟩
theorem xp2 {t:T3} {ts:List T3} (h:t ∉ ts):putL (mrk ts id) (tk3 t) (encT t)=mrk (ts ++ [t]) id:=by
 unfold putL
 rw [if_neg]
 ·unfold mrk; rw [List.map_append]; rfl
 ·intro z
  obtain ⟨x,hx,e⟩:=List.any_eq_true.mp z
  obtain ⟨y,hy,rfl⟩:=List.mem_map.mp hx
  have:=zm0 (of_decide_eq_true e)
  subst this
  exact h hy
theorem dg_m {d:Addr} {ts:List T3} {mk:T3->T3} {t:T3} {μ:Mu} {Q:VK3} (h:μ d=some (.dcl (mrk ts mk))) (ht:t ∈ ts) (k:Q (encT (mk t)) μ):dgR (.ref d) (encT t) μ Q:=by
 have hv:=tp1 (mk:=mk) ht
 unfold dgR
 simp only [zp2,h,hv]
 exact k
theorem zq2 (a b:T3) (μ:Mu) (K:VK3):eqR (encT a) (encT b) μ K=K (.bl (decide (a=b))) μ:=by
 have hd:∀ a:T3,(pT a).depth<=64:=λ a=>by simp [pT,PyData.depth,PyData.depthAll]
 rw [wq2 rfl (show datM μ (encT a)=some (pT a) from rfl) (show datM μ (encT b)=some (pT b) from rfl) (hd a) (hd b),tg2]
noncomputable def mn3 (a b:T3):T3:=if lt3 b a=true then b else a
noncomputable def mx3 (a b:T3):T3:=if lt3 a b=true then b else a
theorem mn_t (a b:T3) (μ:Mu) (K:VK3):uh1 [encT a,encT b] μ K=K (encT (mn3 a b)) μ:=rfl
theorem mx_t (a b:T3) (μ:Mu) (K:VK3):sh1 [encT a,encT b] μ K=K (encT (mx3 a b)) μ:=rfl
noncomputable def tchb (a b:T3):Bool:=has (e0 a) b || has (e1 a) b
theorem tchb_iff {a b:T3}:tchb a b=true ↔ tch a b:=by
 unfold tchb tch
 rw [Bool.or_eq_true]
 constructor
 ·rintro (h | h)
  ·exact ⟨e0 a,tv0 a,h⟩
  ·exact ⟨e1 a,uv0 a,h⟩
 ·rintro ⟨p,h1,h2⟩
  rcases wq0 h1 with rfl | rfl
  ·exact .inl h2
  ·exact .inr h2
noncomputable def upm (mk:T3->T3) (lo hi:T3) (x:T3):T3:=if mk x=hi then lo else mk x
noncomputable def stp (mk:T3->T3) (a b:T3):T3->T3:=if tchb a b=true then upm mk (mn3 (mk a) (mk b)) (mx3 (mk a) (mk b)) else mk
structure MkI (ts:List T3) (mk:T3->T3) (P:T3->T3->Prop):Prop where
 cn:∀ t ∈ ts,mk t ∈ ts /\ Conn ts t (mk t)
 le:∀ t ∈ ts,le3 (mk t) t
 rp:∀ t ∈ ts,mk (mk t)=mk t
 pr:∀ a ∈ ts,∀ b ∈ ts,P a b->tch a b->mk a=mk b
theorem wq1 (a:T3):le3 a a:=by
 obtain ⟨x,y,z⟩:=a
 simp [le3,lt3]
theorem yj3 {a b c:T3} (h:le3 a b) (k:le3 b c):le3 a c:=by
 obtain ⟨x1,x2,x3⟩:=a
 obtain ⟨y1,y2,y3⟩:=b
 obtain ⟨z1,z2,z3⟩:=c
 simp only [le3,lt3,Bool.or_eq_false_iff,Bool.and_eq_false_iff,decide_eq_false_iff_not,beq_eq_false_iff_ne] at h k ⊢
 omega
theorem su3 {a b:T3}:le3 (mn3 a b) (mx3 a b) /\ ((mn3 a b=a /\ mx3 a b=b) \/ (mn3 a b=b /\ mx3 a b=a)):=by
 obtain ⟨x1,x2,x3⟩:=a
 obtain ⟨y1,y2,y3⟩:=b
 unfold mn3 mx3
 by_cases c1:lt3 (y1,y2,y3) (x1,x2,x3)=true
 ·rw [if_pos c1]
  have c2:¬ lt3 (x1,x2,x3) (y1,y2,y3)=true:=by
   simp only [lt3,Bool.or_eq_true,Bool.and_eq_true,decide_eq_true_eq,beq_iff_eq] at c1 ⊢
   omega
  rw [if_neg c2]
  refine ⟨?_,.inr ⟨rfl,rfl⟩⟩
  unfold le3
  simpa using c2
 ·rw [if_neg c1]
  by_cases c2:lt3 (x1,x2,x3) (y1,y2,y3)=true
  ·rw [if_pos c2]
   refine ⟨?_,.inl ⟨rfl,rfl⟩⟩
   unfold le3
   simpa using c1
  ·rw [if_neg c2]
   have e:(x1,x2,x3)=(y1,y2,y3):=by
    simp only [lt3,Bool.or_eq_true,Bool.and_eq_true,decide_eq_true_eq,beq_iff_eq] at c1 c2
    have h1:x1=y1:=by omega
    have h2:x2=y2:=by omega
    have h3:x3=y3:=by omega
    rw [h1,h2,h3]
   exact ⟨wq1 _,.inl ⟨rfl,e⟩⟩
theorem MkI.step {ts:List T3} {mk:T3->T3} {P:T3->T3->Prop} {a b:T3} (I:MkI ts mk P) (ha:a ∈ ts) (hb:b ∈ ts):MkI ts (stp mk a b) (λ x y=>P x y \/ (x=a /\ y=b)):=by
 unfold stp
 by_cases c:tchb a b=true
 ·rw [if_pos c]
  have ht:=tchb_iff.mp c
  obtain ⟨hle,hcs⟩:=su3 (a:=mk a) (b:=mk b)
  generalize mn3 (mk a) (mk b)=lo at hle hcs ⊢
  generalize mx3 (mk a) (mk b)=hi at hle hcs ⊢
  have ca:=I.cn a ha
  have cb:=I.cn b hb
  have hab:Conn ts a b:=.step .refl hb ht
  have lo1:lo ∈ ts /\ mk lo=lo:=by
   rcases hcs with ⟨e,_⟩ | ⟨e,_⟩
   ·rw [e]; exact ⟨ca.1,I.rp a ha⟩
   ·rw [e]; exact ⟨cb.1,I.rp b hb⟩
  have hil:Conn ts hi lo:=by
   have h1:Conn ts (mk a) (mk b):=((ca.2.symm ha).trans hab).trans cb.2
   rcases hcs with ⟨e,e'⟩ | ⟨e,e'⟩
   ·rw [e,e']; exact h1.symm ca.1
   ·rw [e,e']; exact h1
  have ul:upm mk lo hi lo=lo:=by unfold upm; split <;> first | rfl | exact lo1.2
  refine ⟨λ t ht'=>?_,λ t ht'=>?_,λ t ht'=>?_,λ x hx y hy hp ht'=>?_⟩
  ·unfold upm
   split
   ·next e=>exact ⟨lo1.1,((I.cn t ht').2.trans (by rw [e]; exact hil))⟩
   ·exact I.cn t ht'
  ·unfold upm
   split
   ·next e=>exact yj3 hle (by rw [<- e]; exact I.le t ht')
   ·exact I.le t ht'
  ·by_cases e:mk t=hi
   ·have:upm mk lo hi t=lo:=by unfold upm; rw [if_pos e]
    rw [this]; exact ul
   ·have h1:upm mk lo hi t=mk t:=by unfold upm; rw [if_neg e]
    rw [h1]
    unfold upm
    rw [I.rp t ht',if_neg e]
  ·rcases hp with hp | ⟨rfl,rfl⟩
   ·unfold upm; rw [I.pr x hx y hy hp ht']
   ·rcases hcs with ⟨e,e'⟩ | ⟨e,e'⟩
    ·have h2:upm mk lo hi y=lo:=by unfold upm; rw [if_pos e'.symm]
     rw [h2]
     unfold upm
     split <;> first | rfl | exact e.symm
    ·have h2:upm mk lo hi x=lo:=by unfold upm; rw [if_pos e'.symm]
     rw [h2]
     unfold upm
     split <;> first | rfl | exact e
 ·rw [if_neg c]
  refine ⟨I.cn,I.le,I.rp,λ x hx y hy hp ht'=>?_⟩
  rcases hp with hp | ⟨rfl,rfl⟩
  ·exact I.pr x hx y hy hp ht'
  ·exact absurd (tchb_iff.mpr ht') c
theorem MkI.mono {ts:List T3} {mk:T3->T3} {P P':T3->T3->Prop} (I:MkI ts mk P) (h:∀ x ∈ ts,∀ y ∈ ts,P' x y->P x y):MkI ts mk P':=⟨I.cn,I.le,I.rp,λ a ha b hb p=>I.pr a ha b hb (h a ha b hb p)⟩
noncomputable def cls (ts:List T3) (mk:T3->T3) (js:List T3):List (List T3):=(js.filter λ t=>decide (mk t=t)).map λ t=>ts.filter λ o=>decide (mk o=t)
theorem xu1 {ts:List T3} {mk:T3->T3} (hP:Pc ts) (I:MkI ts mk λ _ _=>True):IsP ts (cls ts mk ts):=by
 have hn:=xj0 hP
 have hm:∀ u ∈ cls ts mk ts,∃ t ∈ ts,mk t=t /\ u=ts.filter λ o=>decide (mk o=t):=λ u hu=>by
  obtain ⟨t,ht,rfl⟩:=List.mem_map.mp hu
  obtain ⟨h1,h2⟩:=List.mem_filter.mp ht
  exact ⟨t,h1,of_decide_eq_true h2,rfl⟩
 have um:∀ {t x:T3},x ∈ (ts.filter λ o=>decide (mk o=t)) ↔ x ∈ ts /\ mk x=t:=λ {t x}=>by rw [List.mem_filter,decide_eq_true_eq]
 refine ⟨?_,λ u hu=>?_,λ u hu=>?_,λ u hu a ha c hc ht=>?_,λ u hu a ha b hb=>?_⟩
 ·refine (List.perm_ext_iff_of_nodup ?_ hn).mpr λ x=>?_
  ·refine List.pairwise_flatten.mpr ⟨λ u hu=>?_,?_⟩
   ·obtain ⟨t,_,_,rfl⟩:=hm u hu
    exact hn.filter _
   ·unfold cls
    refine List.pairwise_map.mpr ?_
    refine (hn.filter _).imp λ {t t'} ne x hx y hy e=>?_
    subst e
    exact ne ((um.mp hx).2.symm.trans (um.mp hy).2)
  ·rw [List.mem_flatten]
   constructor
   ·rintro ⟨u,hu,hx⟩
    obtain ⟨t,_,_,rfl⟩:=hm u hu
    exact (um.mp hx).1
   ·intro hx
    refine ⟨ts.filter λ o=>decide (mk o=mk x),List.mem_map.mpr ⟨mk x,List.mem_filter.mpr ⟨(I.cn x hx).1,decide_eq_true (I.rp x hx)⟩,rfl⟩,um.mpr ⟨hx,rfl⟩⟩
 ·obtain ⟨t,ht,e,rfl⟩:=hm u hu
  intro z
  have:t ∈ (ts.filter λ o=>decide (mk o=t)):=um.mpr ⟨ht,e⟩
  rw [z] at this; cases this
 ·obtain ⟨t,ht,e,rfl⟩:=hm u hu
  exact (yu3 hP).filter _
 ·obtain ⟨t,_,e,rfl⟩:=hm u hu
  obtain ⟨h1,h2⟩:=um.mp ha
  exact um.mpr ⟨hc,(I.pr a h1 c hc trivial ht).symm.trans h2⟩
 ·obtain ⟨t,_,e,rfl⟩:=hm u hu
  obtain ⟨h1,h2⟩:=um.mp ha
  obtain ⟨h3,h4⟩:=um.mp hb
  have c1:=(I.cn a h1).2
  have c2:=(I.cn b h3).2
  rw [h2] at c1
  rw [h4] at c2
  exact c1.trans (c2.symm h3)
theorem wn3:∀ ts:List T3,(Od ts).length<=2 * ts.length
 | []=>Nat.le_refl _
 | s :: r=>by
  have ih:=wn3 r
  have t:∀ (p:Pt) (l:List Pt),(tog p l).length<=l.length + 1:=λ p l=>by
   unfold tog
   split
   ·have:=List.length_erase_le (a:=p) (l:=l); omega
   ·simp
  have h1:=t (e1 s) (tog (e0 s) (Od r))
  have h2:=t (e0 s) (Od r)
  show (tog (e1 s) (tog (e0 s) (Od r))).length<=2 * (s :: r).length
  rw [List.length_cons]
  omega
theorem xa2 {a b c:T3} (h:Lt a b) (k:le3 b c):Lt a c:=by
 obtain ⟨x1,x2,x3⟩:=a
 obtain ⟨y1,y2,y3⟩:=b
 obtain ⟨z1,z2,z3⟩:=c
 simp only [Lt,lt3,Bool.or_eq_true,Bool.and_eq_true,decide_eq_true_eq,beq_iff_eq] at h ⊢
 simp only [le3,lt3,Bool.or_eq_false_iff,Bool.and_eq_false_iff,decide_eq_false_iff_not,beq_eq_false_iff_ne,ne_eq] at k
 omega
theorem zr2 {ts:List T3} {mk:T3->T3} (hP:Pc ts) (I:MkI ts mk λ _ _=>True):Asc (cls ts mk ts):=by
 unfold cls Asc
 refine List.pairwise_map.mpr ?_
 refine List.Pairwise.imp_of_mem ?_ (hP.1.filter _)
 intro a b ha hb l
 rw [List.mem_filter,decide_eq_true_eq] at ha hb
 refine ⟨a,List.mem_filter.mpr ⟨ha.1,decide_eq_true ha.2⟩,λ c hc=>?_⟩
 rw [List.mem_filter,decide_eq_true_eq] at hc
 have h:=I.le c hc.1
 rw [hc.2] at h
 exact xa2 l h
noncomputable def pr (f:Int):List T3:=[(0,0,0),(f,f,0)]
noncomputable def prU (f:Int):List (List T3):=[[(0,0,0)],[(f,f,0)]]
noncomputable def prO (f:Int):List Pt:=[(0,0),(1,0),(f,f),(f + 1,f)]
theorem wf3 {f:Int} (h:2<=f):Lt (0,0,0) (f,f,0):=by
 simp only [Lt,lt3,Bool.or_eq_true,Bool.and_eq_true,decide_eq_true_eq,beq_iff_eq]
 omega
theorem sn1 {f:Int} (h:2<=f):Pc (pr f):=by
 refine ⟨?_,λ t ht=>?_,(show 2 < 1010 by decide)⟩
 ·refine List.pairwise_cons.mpr ⟨λ b hb=>?_,List.pairwise_singleton _ _⟩
  rw [List.mem_singleton] at hb; subst hb
  exact wf3 h
 ·simp only [pr,List.mem_cons,List.not_mem_nil,or_false] at ht
  rcases ht with rfl | rfl <;> exact .inl rfl
theorem zm2 {f:Int} (h:2<=f) {p:Pt} (a:has p (0,0,0)=true) (b:has p (f,f,0)=true):False:=by
 have a1:=wq0 a
 have b1:=wq0 b
 obtain ⟨x,y⟩:=p
 simp only [e0,e1,Prod.mk.injEq] at a1 b1
 omega
theorem vf2 {f:Int} (h:2<=f):IsP (pr f) (prU f) where
 perm:=by simp [pr,prU]
 ne:=λ u hu=>by
  simp only [prU,List.mem_cons,List.not_mem_nil,or_false] at hu
  rcases hu with rfl | rfl <;> simp
 up:=λ u hu=>by
  simp only [prU,List.mem_cons,List.not_mem_nil,or_false] at hu
  rcases hu with rfl | rfl <;> exact List.pairwise_singleton _ _
 cl:=λ u hu a ha c hc ht=>by
  obtain ⟨p,p1,p2⟩:=ht
  simp only [prU,List.mem_cons,List.not_mem_nil,or_false] at hu
  simp only [pr,List.mem_cons,List.not_mem_nil,or_false] at hc
  rcases hu with rfl | rfl <;> rw [List.mem_singleton] at ha <;> subst ha <;> rcases hc with rfl | rfl
  ·simp
  ·exact (zm2 h p1 p2).elim
  ·exact (zm2 h p2 p1).elim
  ·simp
 co:=λ u hu a ha b hb=>by
  simp only [prU,List.mem_cons,List.not_mem_nil,or_false] at hu
  rcases hu with rfl | rfl <;> rw [List.mem_singleton] at ha hb <;> subst ha <;> subst hb <;> exact .refl
theorem vf3 {f:Int} (h:2<=f):Asc (prU f):=by
 refine List.pairwise_cons.mpr ⟨λ v hv=>?_,List.pairwise_singleton _ _⟩
 rw [List.mem_singleton] at hv; subst hv
 exact ⟨_,List.mem_singleton.mpr rfl,λ b hb=>by rw [List.mem_singleton] at hb; subst hb; exact wf3 h⟩
theorem zn3 (s:T3):(Od [s]).length=2:=by
 unfold Od Od
 have:e1 s ∉ [e0 s]:=λ z=>e_ne s (List.mem_singleton.mp z).symm
 rw [show tog (e0 s) []=[e0 s] from by unfold tog; rw [if_neg (by simp)]]
 unfold tog
 rw [if_neg this]
 rfl
theorem wm2 (f:Int):wp0 (prU f)=2:=by
 unfold wp0 prU need
 simp [zn3]
theorem zt3 {f:Int} (h:2<=f) {ps:List Pt} (p1:ps.Perm (Od (pr f))) (p2:ps.Pairwise le2):ps=prO f:=by
 refine uq2 (p1.trans ((List.perm_ext_iff_of_nodup (vz0 _) ?_).mpr λ p=>?_)) p2 ?_
 ·simp only [prO,List.nodup_cons,List.mem_cons,List.not_mem_nil,or_false,not_or,Prod.mk.injEq,List.nodup_nil,not_false_eq_true,and_true]
  omega
 ·rw [xx0]
  unfold deg pr
  rw [List.countP_cons,List.countP_cons,List.countP_nil]
  have e1':has p (0,0,0)=true ↔ p=(0,0) \/ p=(1,0):=by
   unfold has e0 e1
   rw [Bool.or_eq_true,decide_eq_true_eq,decide_eq_true_eq]
   exact ⟨λ z=>z.imp (λ z=>z.symm) (λ z=>z.symm),λ z=>z.imp (λ z=>z.symm) (λ z=>z.symm)⟩
  have e2':has p (f,f,0)=true ↔ p=(f,f) \/ p=(f + 1,f):=by
   unfold has e0 e1
   simp only [Int.sub_zero,Int.add_zero]
   rw [Bool.or_eq_true,decide_eq_true_eq,decide_eq_true_eq]
   exact ⟨λ z=>z.imp (λ z=>z.symm) (λ z=>z.symm),λ z=>z.imp (λ z=>z.symm) (λ z=>z.symm)⟩
  have em:p ∈ prO f ↔ has p (0,0,0)=true \/ has p (f,f,0)=true:=by
   rw [e1',e2']
   simp only [prO,List.mem_cons,List.not_mem_nil,or_false,or_assoc]
  rw [em]
  cases a:has p (0,0,0) <;> cases b:has p (f,f,0)
  ·simp
  ·simp
  ·simp
  ·exact (zm2 h a b).elim
 ·simp only [prO,List.pairwise_cons,List.mem_cons,List.not_mem_nil,or_false,forall_eq_or_imp,forall_eq,List.Pairwise.nil,le2,lt2,Bool.or_eq_false_iff,Bool.and_eq_false_iff,decide_eq_false_iff_not,beq_eq_false_iff_ne,ne_eq]
  simp
  omega
noncomputable def row (n:Nat):List T3:=(List.range n).map λ i:Nat=>((i:Int),0,0)
theorem te2 (n:Nat):(row n).Pairwise Lt:=by
 refine List.pairwise_map.mpr ((List.pairwise_lt_range (n:=n)).imp λ {a b} h=>?_)
 simp only [Lt,lt3,Bool.or_eq_true,Bool.and_eq_true,decide_eq_true_eq,beq_iff_eq]
 omega
theorem xm1 (n:Nat):(row n).length=n:=by simp [row]
theorem sz2:Pc (row 1000):=⟨te2 _,λ t ht=>by obtain ⟨i,_,rfl⟩:=List.mem_map.mp ht; exact .inl rfl,by rw [xm1]; decide⟩
theorem vr0 (n:Nat):∀ i,i < n->Conn (row n) (0,0,0) ((i:Int),0,0)
 | 0,_=>.refl
 | i + 1,h=>by
  refine .step (vr0 n i (by omega)) (List.mem_map.mpr ⟨i + 1,List.mem_range.mpr h,rfl⟩) ⟨((i:Int) + 1,0),?_,?_⟩
  ·have:=uv0 ((i:Int),0,0)
   simpa [e1] using this
  ·have:=tv0 (((i + 1:Nat):Int),0,0)
   simpa [e0] using this
theorem xk2 {n:Nat} (h:0 < n):IsP (row n) [row n] where
 perm:=by simp
 ne:=λ u hu=>by rw [List.mem_singleton] at hu; subst hu; intro z; have:=xm1 n; rw [z] at this; simp at this; omega
 up:=λ u hu=>by rw [List.mem_singleton] at hu; subst hu; exact (te2 n).imp lt_le
 cl:=λ u hu a ha c hc _=>by rw [List.mem_singleton] at hu; subst hu; exact hc
 co:=λ u hu a ha b hb=>by
  rw [List.mem_singleton] at hu; subst hu
  obtain ⟨i,hi,rfl⟩:=List.mem_map.mp ha
  obtain ⟨j,hj,rfl⟩:=List.mem_map.mp hb
  have h0:((0:Int),(0:Int),(0:Int)) ∈ row n:=List.mem_map.mpr ⟨0,List.mem_range.mpr h,rfl⟩
  exact ((vr0 n i (List.mem_range.mp hi)).symm h0).trans (vr0 n j (List.mem_range.mp hj))
theorem ind (P:Prop) [Decidable P]:(P /\ (if P then 1 else 0:Nat)=1) \/ (¬ P /\ (if P then 1 else 0:Nat)=0):=by
 by_cases c:P
 ·exact .inl ⟨c,if_pos c⟩
 ·exact .inr ⟨c,if_neg c⟩
theorem ym1 (x y:Int):∀ n:Nat,deg (row n) (x,y)=(if y=0 /\ 0<=x /\ x < n then 1 else 0) + (if y=0 /\ 1<=x /\ x<=n then 1 else 0)
 | 0=>by
  rw [if_neg (by omega),if_neg (by omega)]; rfl
 | n + 1=>by
  have ih:=ym1 x y n
  have er:row (n + 1)=row n ++ [((n:Int),0,0)]:=by unfold row; rw [List.range_succ,List.map_append]; rfl
  unfold deg at ih ⊢
  rw [er,List.countP_append,ih,List.countP_cons,List.countP_nil]
  have eh:has (x,y) ((n:Int),0,0)=true ↔ (y=0 /\ x=n) \/ (y=0 /\ x=n + 1):=by
   unfold has e0 e1
   simp only [Bool.or_eq_true,decide_eq_true_eq,Prod.mk.injEq]
   omega
  have i1:=ind (y=0 /\ 0<=x /\ x < (n:Int))
  have i2:=ind (y=0 /\ 1<=x /\ x<=(n:Int))
  have i3:=ind (y=0 /\ 0<=x /\ x < ((n + 1:Nat):Int))
  have i4:=ind (y=0 /\ 1<=x /\ x<=((n + 1:Nat):Int))
  have i5:=ind (has (x,y) ((n:Int),0,0)=true)
  clear ih er
  generalize (if y=0 /\ 0<=x /\ x < (n:Int) then 1 else 0:Nat)=k1 at *
  generalize (if y=0 /\ 1<=x /\ x<=(n:Int) then 1 else 0:Nat)=k2 at *
  generalize (if y=0 /\ 0<=x /\ x < ((n + 1:Nat):Int) then 1 else 0:Nat)=k3 at *
  generalize (if y=0 /\ 1<=x /\ x<=((n + 1:Nat):Int) then 1 else 0:Nat)=k4 at *
  generalize (if has (x,y) ((n:Int),0,0)=true then 1 else 0:Nat)=k5 at *
  rw [eh] at i5
  omega
theorem xa3 {ps:List Pt} (p1:ps.Perm (Od (row 1000))) (p2:ps.Pairwise le2):ps=[(0,0),(1000,0)]:=by
 refine uq2 (p1.trans ((List.perm_ext_iff_of_nodup (vz0 _) (by simp)).mpr λ p=>?_)) p2 (by simp [le2,lt2])
 obtain ⟨x,y⟩:=p
 rw [xx0,ym1]
 simp only [List.mem_cons,List.not_mem_nil,or_false,Prod.mk.injEq]
 (repeat' split) <;> omega
theorem in_2 (p a b:Pt) (μ:Mu) (K:VK3):inR false (encQ p) (.tup [encQ a,encQ b]) μ K=K (.bl (decide (a=p \/ b=p))) μ:=by
 show inD false (encQ p) (.tup [encQ a,encQ b]) μ K=_
 unfold inD
 have eqv:∀ p q:Pt,PyData.eqv (.tuple [.int p.1,.int p.2]) (.tuple [.int q.1,.int q.2])=decide (p=q):=λ p q=>by
  obtain ⟨a,b⟩:=p
  obtain ⟨c,d⟩:=q
  simp [PyData.eqv,PyData.eqvAll]
  rfl
 rw [show datM μ (encQ p)=some (.tuple [.int p.1,.int p.2]) from rfl,show datM μ (.tup [encQ a,encQ b])=some (.tuple [.tuple [.int a.1,.int a.2],.tuple [.int b.1,.int b.2]]) from rfl]
 dsimp only
 have e:(([.tuple [.int a.1,.int a.2],.tuple [.int b.1,.int b.2]]:List PyData).any λ e=>PyData.eqv e (.tuple [.int p.1,.int p.2]))=decide (a=p \/ b=p):=by
  rw [List.any_cons,List.any_cons,List.any_nil,eqv,eqv,Bool.or_false,Bool.decide_or]
 rw [e]
 have d1:(PyData.tuple [.int p.1,.int p.2]).depth<=64:=by simp [PyData.depth,PyData.depthAll]
 have d2:(PyData.tuple [.tuple [.int a.1,.int a.2],.tuple [.int b.1,.int b.2]]).depth<=64:=by simp [PyData.depth,PyData.depthAll]
 exact propext ⟨λ h=>h.2,λ k=>⟨⟨d1,d2⟩,k⟩⟩
noncomputable def ty0 (b:T3) (d:D):Bool:=decide (e0 b=decQ d \/ e1 b=decQ d)
theorem ui2 (a b:T3):(decide ((0:Int) < ((([encQ (e0 a),encQ (e1 a)]:List D).filter (ty0 b)).length:Int)))=tchb a b:=by
 have h0:ty0 b (encQ (e0 a))=has (e0 a) b:=by
  unfold ty0 has; rw [ym0,Bool.decide_or]
 have h1:ty0 b (encQ (e1 a))=has (e1 a) b:=by
  unfold ty0 has; rw [ym0,Bool.decide_or]
 unfold tchb
 rw [List.filter_cons,List.filter_cons,List.filter_nil,h0,h1]
 cases has (e0 a) b <;> cases has (e1 a) b <;> simp
noncomputable def upj (mk:T3->T3) (lo hi:T3) (js:List T3) (x:T3):T3:=if x ∈ js /\ mk x=hi then lo else mk x
theorem za2 {ts:List T3} {mk:T3->T3} {lo hi:T3} {d:Addr} {μ:Mu} {y2 y3 y4:Option D} {D':Ends3} (hn:ts.Nodup) (hl:ts.length < 1010) (hd:μ d=some (.dcl (mrk ts mk)))
    (k:∀ μ' y2,(∀ b,b ≠ d->μ' b=μ b)->μ' d=some (.dcl (mrk ts (upm mk lo hi)))->D'.nx [some (.tup (ts.map encT)),some (.ref d),y2,y3,y4,some (encT lo),some (encT hi),none] μ') :
    (for3 (is3 (v3 0)) (gn3 2) (ifs3 (b3 (o3 eqR (o3 dgR (v3 1) (v3 2)) (v3 6))) (uh0 (v3 1) (v3 2) (v3 5)) next3)) D' [some (.tup (ts.map encT)),some (.ref d),y2,y3,y4,some (encT lo),some (encT hi),none] μ:=by
 refine ze0 (λ l ρ μ'=>∃ (js ks:List T3) (y2:Option D),l=ks.map encT /\ js ++ ks=ts /\ ρ=[some (.tup (ts.map encT)),some (.ref d),y2,y3,y4,some (encT lo),some (encT hi),none] /\ (∀ b,b ≠ d->μ' b=μ b) /\ μ' d=some (.dcl (mrk ts (upj mk lo hi js)))) ?_ (λ _ _ _ _=>trivial) ?_ ?_
 ·refine ⟨[],ts,y2,rfl,rfl,rfl,λ _ _=>rfl,?_⟩
  rw [hd,show mrk ts (upj mk lo hi [])=mrk ts mk from yj0 λ t _=>by simp [upj]]
 ·rintro ρ μ' ⟨js,ks,o2',e,ej,rfl,eo,ed⟩
  cases ks with
  | cons _ _=>cases e
  | nil =>
   rw [List.append_nil] at ej
   subst ej
   refine k μ' o2' eo ?_
   rw [ed]; congr 2
   exact yj0 λ t ht=>by simp [upj,upm,ht]
 ·rintro x rest ρ μ' ⟨js,ks,o2',e,ej,rfl,eo,ed⟩
  cases ks with
  | nil=>cases e
  | cons t ks =>
   rw [List.map_cons] at e
   injection e with e1 e2
   subst e1 e2
   have ht:t ∈ ts:=by rw [<- ej]; simp
   have hnj:t ∉ js:=λ h=>by
    rw [<- ej,List.nodup_append] at hn
    exact hn.2.2 t h t (by simp) rfl
   have hm:upj mk lo hi js t=mk t:=by unfold upj; rw [if_neg (λ h=>hnj h.1)]
   show dgR (.ref d) (encT t) μ' (λ x μ1=>_)
   refine dg_m ed ht ?_
   rw [hm]
   show eqR (encT (mk t)) (encT hi) μ' (λ d μ1=>match d with
    | .bl c=>(if c=true then _ else _)
    | _=>False)
   rw [zq2]
   dsimp only
   by_cases c:mk t=hi
   ·rw [decide_eq_true c]
    show uh0 (v3 1) (v3 2) (v3 5) _ _ μ'
    conv=>whnf
    rw [ed]
    refine ⟨by unfold mrk; rw [List.length_map]; omega,?_⟩
    have ep:=to2 (mk:=upj mk lo hi js) (m:=lo) ht
    refine ⟨js ++ [t],ks,_,rfl,by rw [<- ej]; simp,rfl,λ b hb=>by rw [ua0 hb]; exact eo b hb,?_⟩
    rw [za0]
    congr 2
    refine Eq.trans ep (yj0 λ x _=>?_)
    unfold upj
    by_cases c2:x=t
    ·subst c2; simp [c]
    ·simp [c2]
   ·rw [decide_eq_false c]
    refine ⟨js ++ [t],ks,_,rfl,by rw [<- ej]; simp,rfl,eo,?_⟩
    rw [ed]; congr 2
    refine yj0 λ x _=>?_
    unfold upj
    by_cases c2:x=t
    ·subst c2; simp [c]
    ·simp [c2]
theorem to1 {ts:List T3} {mk:T3->T3} {a b:T3} {d:Addr} {μ:Mu} {y2 y5 y6:Option D} {D':Ends3} (hn:ts.Nodup) (hl:ts.length < 1010) (ha:a ∈ ts) (hb:b ∈ ts) (hd:μ d=some (.dcl (mrk ts mk)))
    (k:∀ μ' y2 y5 y6,ExtB d μ μ'->μ' d=some (.dcl (mrk ts (stp mk a b)))->D'.nx [some (.tup (ts.map encT)),some (.ref d),y2,some (encT a),some (encT b),y5,y6,none] μ') :
    (ifs3 (b3 (o3 gtR (call3 lenR (cons3 (comp3 [none,some 4] (is3 (call3 spLe (cons3 (v3 3) nil3))) (gn3 0) (b3 (o3 (inR false) (v3 0) (call3 spLe (cons3 (v3 1) nil3)))) (v3 0)) nil3)) (c3 (.int 0)))) (seq3 (set3 5 (call3 uh1 (cons3 (o3 dgR (v3 1) (v3 3)) (cons3 (o3 dgR (v3 1) (v3 4)) nil3)))) (seq3 (set3 6 (call3 sh1 (cons3 (o3 dgR (v3 1) (v3 3)) (cons3 (o3 dgR (v3 1) (v3 4)) nil3)))) (for3 (is3 (v3 0)) (gn3 2) (ifs3 (b3 (o3 eqR (o3 dgR (v3 1) (v3 2)) (v3 6))) (uh0 (v3 1) (v3 2) (v3 5)) next3)))) next3) D' [some (.tup (ts.map encT)),some (.ref d),y2,some (encT a),some (encT b),y5,y6,none] μ:=by
 refine ⟨a,rfl,λ p hp=>?_⟩
 refine vj0 (rest:=[some (encT b)]) (ty0 b) hp (show 2<=sizeLine by decide) (λ _ _=>trivial) ?_ ?_
 ·intro x hx μ' R ex kk
  have hxx:∃ q:Pt,x=encQ q:=by
   rcases List.mem_cons.mp hx with rfl | hx
   ·exact ⟨_,rfl⟩
   ·rw [List.mem_singleton] at hx; exact ⟨_,hx⟩
  obtain ⟨q,rfl⟩:=hxx
  refine ⟨b,rfl,?_⟩
  show inR false (encQ q) (.tup [encQ (e0 b),encQ (e1 b)]) μ' (λ d μ1=>match d with
   | .bl c=>R c μ1
   | _=>False)
  rw [in_2]
  exact kk
 ·intro μ1 ex ep
  dsimp only [nil3]
  have et:=ui2 a b
  have hd1:=ex _ _ hd
  conv=>whnf
  rw [ep]
  show if decide ((0:Int) < ((([encQ (e0 a),encQ (e1 a)]:List D).filter (ty0 b)).length:Int))=true then _ else _
  rw [et]
  by_cases c:tchb a b=true
  ·rw [if_pos c]
   show dgR (.ref d) (encT a) μ1 (λ x μ1=>_)
   refine dg_m hd1 ha ?_
   show dgR (.ref d) (encT b) μ1 (λ x μ1=>_)
   refine dg_m hd1 hb ?_
   dsimp only
   rw [mn_t]
   show dgR (.ref d) (encT a) μ1 (λ x μ1=>_)
   refine dg_m hd1 ha ?_
   show dgR (.ref d) (encT b) μ1 (λ x μ1=>_)
   refine dg_m hd1 hb ?_
   dsimp only
   rw [mx_t]
   refine za2 hn hl hd1 λ μ2 z2 eo ed=>?_
   refine k μ2 z2 _ _ (λ x u ne q=>by rw [eo x ne]; exact ex x u q) ?_
   rw [ed]; unfold stp; rw [if_pos c]
  ·rw [if_neg c]
   refine k μ1 _ _ _ (λ x u ne q=>ex x u q) ?_
   rw [hd1]; unfold stp; rw [if_neg c]
theorem ExtB.tr {s:Addr} {μ μ1 μ2:Mu} (h:ExtB s μ μ1) (k:ExtB s μ1 μ2):ExtB s μ μ2:=λ a u n q=>k a u n (h a u n q)
theorem yh1 {ts:List T3} {d:Addr} {μ:Mu} {y2 y3 y4 y5 y6:Option D} {D':Ends3} (hP:Pc ts) (hd:μ d=some (.dcl (mrk ts id)))
    (k:∀ μ' mk y2 y3 y4 y5 y6,ExtB d μ μ'->μ' d=some (.dcl (mrk ts mk))->MkI ts mk (λ _ _=>True)->D'.nx [some (.tup (ts.map encT)),some (.ref d),y2,y3,y4,y5,y6,none] μ') :
    (for3 (is3 (v3 0)) (gn3 3) (for3 (is3 (v3 0)) (gn3 4) (ifs3 (b3 (o3 gtR (call3 lenR (cons3 (comp3 [none,some 4] (is3 (call3 spLe (cons3 (v3 3) nil3))) (gn3 0) (b3 (o3 (inR false) (v3 0) (call3 spLe (cons3 (v3 1) nil3)))) (v3 0)) nil3)) (c3 (.int 0)))) (seq3 (set3 5 (call3 uh1 (cons3 (o3 dgR (v3 1) (v3 3)) (cons3 (o3 dgR (v3 1) (v3 4)) nil3)))) (seq3 (set3 6 (call3 sh1 (cons3 (o3 dgR (v3 1) (v3 3)) (cons3 (o3 dgR (v3 1) (v3 4)) nil3)))) (for3 (is3 (v3 0)) (gn3 2) (ifs3 (b3 (o3 eqR (o3 dgR (v3 1) (v3 2)) (v3 6))) (uh0 (v3 1) (v3 2) (v3 5)) next3)))) next3))) D' [some (.tup (ts.map encT)),some (.ref d),y2,y3,y4,y5,y6,none] μ:=by
 have hn:=xj0 hP
 have hl:=hP.2.2
 refine ze0 (λ l ρ μ'=>∃ (js ks:List T3) (mk:T3->T3) (y2 y3 y4 y5 y6:Option D),l=ks.map encT /\ js ++ ks=ts /\ ρ=[some (.tup (ts.map encT)),some (.ref d),y2,y3,y4,y5,y6,none] /\ ExtB d μ μ' /\ μ' d=some (.dcl (mrk ts mk)) /\ MkI ts mk (λ x _=>x ∈ js)) ?_ (λ _ _ _ _=>trivial) ?_ ?_
 ·exact ⟨[],ts,id,_,_,_,_,_,rfl,rfl,rfl,λ _ _ _ q=>q,hd,⟨λ t ht=>⟨ht,.refl⟩,λ t _=>wq1 t,λ _ _=>rfl,λ _ _ _ _ h=>(nomatch h)⟩⟩
 ·rintro ρ μ' ⟨js,ks,mk,z2,z3,z4,z5,z6,e,ej,rfl,eb,ed,I⟩
  cases ks with
  | cons _ _=>cases e
  | nil =>
   rw [List.append_nil] at ej
   subst ej
   exact k μ' mk _ _ _ _ _ eb ed (I.mono λ x hx _ _ _=>hx)
 ·rintro x rest ρ μ' ⟨js,ks,mk,z2,z3,z4,z5,z6,e,ej,rfl,eb,ed,I⟩
  cases ks with
  | nil=>cases e
  | cons a ks =>
   rw [List.map_cons] at e
   injection e with e1 e2
   subst e1 e2
   have ha:a ∈ ts:=by rw [<- ej]; simp
   refine ze0 (λ l ρ μ2=>∃ (js2 ks2:List T3) (mk:T3->T3) (y2 y4 y5 y6:Option D),l=ks2.map encT /\ js2 ++ ks2=ts /\ ρ=[some (.tup (ts.map encT)),some (.ref d),y2,some (encT a),y4,y5,y6,none] /\ ExtB d μ μ2 /\ μ2 d=some (.dcl (mrk ts mk)) /\ MkI ts mk (λ x y=>x ∈ js \/ (x=a /\ y ∈ js2))) ?_ (λ _ _ _ _=>trivial) ?_ ?_
   ·exact ⟨[],ts,mk,_,_,_,_,rfl,rfl,rfl,eb,ed,I.mono λ x _ y _ h=>h.resolve_right λ h=>(nomatch h.2)⟩
   ·rintro ρ μ2 ⟨js2,ks2,mk2,w2,w4,w5,w6,e,ej2,rfl,eb2,ed2,I2⟩
    cases ks2 with
    | cons _ _=>cases e
    | nil =>
     rw [List.append_nil] at ej2
     refine ⟨js ++ [a],ks,mk2,_,_,_,_,_,rfl,by rw [<- ej]; simp,rfl,eb2,ed2,I2.mono λ x _ y hy h=>?_⟩
     rcases List.mem_append.mp h with h | h
     ·exact .inl h
     ·rw [List.mem_singleton] at h; exact .inr ⟨h,by rw [ej2]; exact hy⟩
   ·rintro x rest ρ μ2 ⟨js2,ks2,mk2,w2,w4,w5,w6,e,ej2,rfl,eb2,ed2,I2⟩
    cases ks2 with
    | nil=>cases e
    | cons b ks2 =>
     rw [List.map_cons] at e
     injection e with e1 e2
     subst e1 e2
     have hb:b ∈ ts:=by rw [<- ej2]; simp
     refine to1 hn hl ha hb ed2 λ μ3 v2 v5 v6 eb3 ed3=>?_
     refine ⟨js2 ++ [b],ks2,stp mk2 a b,_,_,_,_,rfl,by rw [<- ej2]; simp,rfl,eb2.tr eb3,ed3,(I2.step ha hb).mono λ x _ y _ h=>?_⟩
     rcases h with h | ⟨h1,h2⟩
     ·exact .inl (.inl h)
     ·rcases List.mem_append.mp h2 with h2 | h2
      ·exact .inl (.inr ⟨h1,h2⟩)
      ·rw [List.mem_singleton] at h2; exact .inr ⟨h1,h2⟩
noncomputable def spLp:Sp3:=λ ds μ Q=>∃ ts:List T3,ds=[.tup (ts.map encT)] /\ Pc ts /\ ∀ r mk μ',Ext μ μ'->μ r=none->μ' r=some (.lst ((cls ts mk ts).map encU))->MkI ts mk (λ _ _=>True)->Q (.ref r) μ'
theorem xr3 (ds:List D) (μ:Mu) (Q:VK3) (h:spLp ds μ Q):t_q9 spLe { nx:=λ _ μ'=>Q .non μ',rt:=Q } (start3 N_q9 ds) μ:=by
 obtain ⟨ts,rfl,hP,q⟩:=h
 have hn:=xj0 hP
 have hl:=hP.2.2
 have hz:(20000:Nat) < sizeLine:=by decide
 intro d hd
 refine ze0 (λ l ρ μ'=>∃ (js ks:List T3) (o:Option D),l=ks.map encT /\ js ++ ks=ts /\ ρ=[some (.tup (ts.map encT)),some (.ref d),o,none,none,none,none,none] /\ Ext μ μ' /\ μ' d=some (.dcl (mrk js id))) ?_ (λ _ _ _ _=>trivial) ?_ ?_
 ·exact ⟨[],ts,none,rfl,rfl,rfl,Ext.new hd,za0⟩
 ·rintro ρ μ' ⟨js,ks,o,e,ej,rfl,ex,ed⟩
  cases ks with
  | cons _ _=>cases e
  | nil =>
  rw [List.append_nil] at ej
  subst ej
  refine yh1 hP ed λ μ1 mk w2 w3 w4 w5 w6 eb ed1 I=>?_
  refine ⟨Nat.zero_le _,λ r hr=>?_⟩
  have ex1:Ext μ μ1:=λ a u q=>eb a u (ub0 q hd) (ex a u q)
  have ndr:d ≠ r:=ub0 ed1 hr
  refine ze0 (λ l ρ μ'=>∃ (gs ks:List T3) (o:Option D),l=ks.map encT /\ gs ++ ks=js /\ ρ=[some (.tup (js.map encT)),some (.ref d),o,w3,w4,w5,w6,some (.ref r)] /\ Ext μ μ' /\ μ' d=some (.dcl (mrk js mk)) /\ μ' r=some (.lst ((cls js mk gs).map encU))) ?_ (λ _ _ _ _=>trivial) ?_ ?_
  ·exact ⟨[],js,_,rfl,rfl,rfl,ex1.trans (Ext.new hr),by rw [ua0 ndr]; exact ed1,za0⟩
  ·rintro ρ μ2 ⟨gs,ks,o,e,ej,rfl,ex2,ed2,er2⟩
   cases ks with
   | cons _ _=>cases e
   | nil =>
   rw [List.append_nil] at ej
   subst ej
   exact q r mk μ2 ex2 (ex1.free hr) er2 I
  ·rintro x rest ρ μ2 ⟨gs,ks,o,e,ej,rfl,ex2,ed2,er2⟩
   cases ks with
   | nil=>cases e
   | cons t ks =>
   rw [List.map_cons] at e
   injection e with e1 e2
   subst e1 e2
   have ht:t ∈ js:=by rw [<- ej]; simp
   have lg:gs.length + (t :: ks).length=js.length:=by rw [<- ej,List.length_append]
   rw [List.length_cons] at lg
   have lc:(cls js mk gs).length<=gs.length:=by unfold cls; rw [List.length_map]; exact List.length_filter_le _ _
   show dgR (.ref d) (encT t) μ2 (λ x μ1=>_)
   refine dg_m ed2 ht ?_
   show eqR (encT (mk t)) (encT t) μ2 (λ d μ1=>match d with
    | .bl c=>(if c=true then _ else _)
    | _=>False)
   rw [zq2]
   dsimp only
   by_cases c:mk t=t
   ·rw [decide_eq_true c]
    conv=>whnf
    rw [er2]
    intro p hp
    refine vj0 (rest:=[some (encT t),some (.ref d)]) (λ x=>decide (mk (decT x)=t)) hp (by rw [List.length_map]; omega) (λ _ _=>trivial) ?_ ?_
    ·intro x hx μ' R ex' kk
     obtain ⟨s,hs,rfl⟩:=List.mem_map.mp hx
     show dgR (.ref d) (encT s) μ' (λ x μ1=>_)
     refine dg_m (ex' _ _ ed2) hs ?_
     show eqR (encT (mk s)) (encT t) μ' (λ d μ1=>match d with
      | .bl c=>R c μ1
      | _=>False)
     rw [zq2]
     exact kk
    ·intro μ3 ex3 ep
     rw [zs1 (λ s=>decide (mk s=t))] at ep
     dsimp only [nil3]
     refine sj1 ep ?_
     have er3:=ex3 _ _ er2
     refine sv1 er3 (by rw [List.length_map]; omega) ?_
     refine ⟨gs ++ [t],ks,_,rfl,by rw [<- ej]; simp,rfl,(ex2.trans ex3).upd (ex1.free hr),?_,?_⟩
     ·rw [ua0 ndr]; exact ex3 _ _ ed2
     ·rw [za0]
      unfold cls
      rw [List.filter_append,List.map_append,List.map_append]
      simp [c,encU]
   ·rw [decide_eq_false c]
    refine ⟨gs ++ [t],ks,_,rfl,by rw [<- ej]; simp,rfl,ex2,ed2,?_⟩
    rw [er2]
    unfold cls
    rw [List.filter_append]
    simp [c]
 ·rintro x rest ρ μ' ⟨js,ks,o,e,ej,rfl,ex,ed⟩
  cases ks with
  | nil=>cases e
  | cons t ks =>
   rw [List.map_cons] at e
   injection e with e1 e2
   subst e1 e2
   have hnj:t ∉ js:=λ h=>by
    rw [<- ej,List.nodup_append] at hn
    exact hn.2.2 t h t (by simp) rfl
   have lj:js.length<=ts.length:=by rw [<- ej,List.length_append]; omega
   conv=>whnf
   rw [ed]
   refine ⟨by unfold mrk; rw [List.length_map]; omega,?_⟩
   refine ⟨js ++ [t],ks,_,rfl,by rw [<- ej]; simp,rfl,ex.upd hd,?_⟩
   rw [za0]
   congr 2
   exact xp2 hnj
noncomputable def pmk (ks:List Pt) (f:Pt->D):List (List Int × D):=ks.map λ p=>(ptk p,f p)
theorem yo1 {ks:List Pt} {f g:Pt->D} (h:∀ p ∈ ks,f p=g p):pmk ks f=pmk ks g:=List.map_congr_left λ t ht=>by rw [h t ht]
theorem xy0 {f:Pt->D} {p:Pt}:∀ {ks:List Pt},p ∈ ks->valL (pmk ks f) (ptk p)=some (f p)
 | x :: r,h=>by
  unfold valL pmk
  rw [List.map_cons,List.find?_cons]
  by_cases c:x=p
  ·subst c; simp
  ·have c1:¬ ptk x=ptk p:=λ z=>c (zi0 z)
   simp only [c1,decide_false]
   exact xy0 (f:=f) ((List.mem_cons.mp h).resolve_left (Ne.symm c))
theorem uf3 {f:Pt->D} {p:Pt} {ks:List Pt} (h:p ∉ ks):valL (pmk ks f) (ptk p)=none:=by
 unfold valL
 rw [List.find?_eq_none.mpr]; rfl
 intro x hx z
 obtain ⟨y,hy,rfl⟩:=List.mem_map.mp hx
 have:=zi0 (of_decide_eq_true z)
 subst this
 exact h hy
noncomputable def addk (ks:List Pt) (p:Pt):List Pt:=if p ∈ ks then ks else ks ++ [p]
theorem tm2 {f:Pt->D} {p:Pt} {v:D} {ks:List Pt}:putL (pmk ks f) (ptk p) v=pmk (addk ks p) (λ x=>if x=p then v else f x):=by
 unfold putL addk
 by_cases h:p ∈ ks
 ·rw [if_pos h,if_pos]
  ·unfold pmk
   rw [List.map_map]
   apply List.map_congr_left
   intro x _
   show (if ptk x=ptk p then (ptk x,v) else (ptk x,f x))=_
   by_cases c:x=p
   ·subst c; rw [if_pos rfl]; simp
   ·rw [if_neg (λ z=>c (zi0 z))]; dsimp only; rw [if_neg c]
  ·exact List.any_eq_true.mpr ⟨(ptk p,f p),List.mem_map.mpr ⟨p,h,rfl⟩,decide_eq_true rfl⟩
 ·rw [if_neg h,if_neg]
  ·unfold pmk
   rw [List.map_append]
   congr 1
   ·apply List.map_congr_left
    intro x hx
    dsimp only
    rw [if_neg (λ z=>h (by rw [<- z]; exact hx))]
   ·simp
  ·intro z
   obtain ⟨x,hx,e⟩:=List.any_eq_true.mp z
   obtain ⟨y,hy,rfl⟩:=List.mem_map.mp hx
   have:=zi0 (of_decide_eq_true e)
   subst this
   exact h hy
structure PtI (μ0 μ:Mu) (d:Addr) (L ks:List Pt):Prop where
 ex:Ext μ0 μ
 fr:μ0 d=none
 dc:μ d=some (.dcl (pmk ks λ p=>.int (L.count p:Nat)))
 nd:ks.Nodup
 me:∀ p,p ∈ ks ↔ p ∈ L
 le:ks.length<=L.length
theorem PtI.put {μ0 μ:Mu} {d:Addr} {L ks:List Pt} {p:Pt} {i:Nat} {y0 y2 y3 y4:Option D} {D':Ends3} (I:PtI μ0 μ d L ks) (hl:L.length < 5000) (hv:getI [y0,some (.ref d),y2,y3,y4] i=some (encQ p))
    (k:∀ μ' ks',PtI μ0 μ' d (L ++ [p]) ks'->D'.nx [y0,some (.ref d),y2,y3,y4] μ') :
    uh0 (v3 1) (v3 i) (o3 addR (gdf3 (v3 1) (cons3 (v3 i) (cons3 (c3 (.int 0)) nil3))) (c3 (.int 1))) D' [y0,some (.ref d),y2,y3,y4] μ:=by
 have hz:(20000:Nat) < sizeLine:=by decide
 have hln:=I.le
 have fin:(uh0 (v3 1) (v3 i) (c3 (.int ((L.count p:Nat) + 1)))) D' [y0,some (.ref d),y2,y3,y4] μ:=by
  unfold uh0 v3 c3
  simp only [hv,getI,ta2,I.dc]
  refine ⟨by unfold pmk; rw [List.length_map]; omega,k _ (addk ks p) ⟨I.ex.upd I.fr,I.fr,?_,?_,?_,?_⟩⟩
  ·rw [za0,tm2]
   congr 2
   refine yo1 λ x _=>?_
   by_cases c:x=p
   ·subst c; rw [if_pos rfl,List.count_append]; simp
   ·rw [if_neg c,List.count_append]
    have:List.count x [p]=0:=List.count_eq_zero.mpr (by simpa using c)
    rw [this]; rfl
  ·unfold addk
   split
   ·exact I.nd
   ·next h =>
    rw [List.nodup_append]
    exact ⟨I.nd,by simp,λ a ha b hb e=>by rw [List.mem_singleton] at hb; subst hb; subst e; exact h ha⟩
  ·intro x
   rw [List.mem_append,List.mem_singleton,<- I.me]
   unfold addk
   split
   ·next h=>exact ⟨.inl,λ z=>z.elim id λ e=>by rw [e]; exact h⟩
   ·rw [List.mem_append,List.mem_singleton]
  ·rw [List.length_append]
   unfold addk
   split
   ·omega
   ·rw [List.length_append]; simp only [List.length_cons,List.length_nil]; omega
 have hg:∀ R:VK3,R (.int (L.count p:Nat)) μ->gdf3 (v3 1) (cons3 (v3 i) (cons3 (c3 (.int 0)) nil3)) [y0,some (.ref d),y2,y3,y4] μ R:=λ R r=>by
  unfold gdf3 v3 cons3 c3 nil3
  simp only [hv,getI,I.dc,ta2]
  by_cases c:p ∈ ks
  ·simp only [xy0 c]; exact r
  ·simp only [uf3 c]
   have e:L.count p=0:=List.count_eq_zero.mpr λ z=>c ((I.me p).mpr z)
   rw [e] at r
   exact r
 unfold uh0 at fin ⊢
 unfold o3
 refine hg _ ?_
 exact fin
noncomputable def vi0 (ts:List T3):List Pt:=ts.flatMap λ s=>[e0 s,e1 s]
theorem vi1 (ts:List T3) (s:T3):vi0 (ts ++ [s])=vi0 ts ++ [e0 s] ++ [e1 s]:=by unfold vi0; rw [List.flatMap_append]; simp
theorem xw0 (ts:List T3):(vi0 ts).length=2 * ts.length:=by
 induction ts with
 | nil=>rfl
 | cons s r ih=>unfold vi0 at ih ⊢; rw [List.flatMap_cons,List.length_append,ih]; simp; omega
theorem yo0 (p:Pt):∀ ts:List T3,(vi0 ts).count p=deg ts p
 | []=>rfl
 | s :: r=>by
  have e:vi0 (s :: r)=e0 s :: e1 s :: vi0 r:=rfl
  rw [e,List.count_cons,List.count_cons,yo0 p r]
  unfold deg
  rw [List.countP_cons]
  unfold has
  by_cases c0:e0 s=p
  ·have c1:¬ e1 s=p:=λ z=>e_ne s (c0.trans z.symm)
   simp [c0,c1]
  ·by_cases c1:e1 s=p
   ·simp [c0,c1]
   ·simp [c0,c1]
noncomputable def wj2:Sp3:=λ ds μ Q=>∃ ts:List T3,ds=[.tup (ts.map encT)] /\ ts.length < 1010 /\ ∀ d ks μ',PtI μ μ' d (vi0 ts) ks->Q (.ref d) μ'
theorem vc3 (ds:List D) (μ:Mu) (Q:VK3) (h:wj2 ds μ Q):yv2 spLe { nx:=λ _ μ'=>Q .non μ',rt:=Q } (start3 zt2 ds) μ:=by
 obtain ⟨ts,rfl,hl,q⟩:=h
 intro d hd
 refine ze0 (λ l ρ μ'=>∃ (js ks:List T3) (gs:List Pt) (y2 y3 y4:Option D),l=ks.map encT /\ js ++ ks=ts /\ ρ=[some (.tup (ts.map encT)),some (.ref d),y2,y3,y4] /\ PtI μ μ' d (vi0 js) gs) ?_ (λ _ _ _ _=>trivial) ?_ ?_
 ·exact ⟨[],ts,[],none,none,none,rfl,rfl,rfl,Ext.new hd,hd,za0,List.nodup_nil,λ p=>Iff.rfl,Nat.le_refl _⟩
 ·rintro ρ μ' ⟨js,ks,gs,y2,y3,y4,e,ej,rfl,I⟩
  cases ks with
  | cons _ _=>cases e
  | nil =>
   rw [List.append_nil] at ej
   subst ej
   exact q d gs μ' I
 ·rintro x rest ρ μ' ⟨js,ks,gs,y2,y3,y4,e,ej,rfl,I⟩
  cases ks with
  | nil=>cases e
  | cons s ks =>
   rw [List.map_cons] at e
   injection e with e1 e2
   subst e1 e2
   have lj:js.length<=ts.length:=by rw [<- ej,List.length_append]; omega
   have le:=xw0 js
   refine ⟨s,rfl,?_⟩
   dsimp only [gtup3,gcons3,gn3,gnil3]
   refine ⟨rfl,?_⟩
   show uh0 (v3 1) (v3 3) (o3 addR (gdf3 (v3 1) (cons3 (v3 3) (cons3 (c3 (.int 0)) nil3))) (c3 (.int 1))) _ [some (.tup (ts.map encT)),some (.ref d),some (encT s),some (encQ (e0 s)),some (encQ (e1 s))] μ'
   refine I.put (p:=e0 s) (i:=3) (by omega) rfl λ μ1 gs1 I1=>?_
   refine I1.put (p:=e1 s) (i:=4) (by rw [List.length_append]; simp only [List.length_cons,List.length_nil]; omega) rfl λ μ2 gs2 I2=>?_
   rw [<- vi1] at I2
   exact ⟨js ++ [s],ks,gs2,_,_,_,rfl,by rw [<- ej]; simp,rfl,I2⟩
noncomputable def spLo:Sp3:=λ ds μ Q=>∃ ts:List T3,ds=[.tup (ts.map encT)] /\ ts.length < 1010 /\ ∀ r (ps:List Pt) μ',Ext μ μ'->μ r=none->μ' r=some (.lst (ps.map encQ))->ps.Perm (Od ts)->ps.Pairwise le2->Q (.ref r) μ'
theorem zr3 (ds:List D) (μ:Mu) (Q:VK3) (h:spLo ds μ Q):t_q7 wj2 { nx:=λ _ μ'=>Q .non μ',rt:=Q } (start3 N_q7 ds) μ:=by
 obtain ⟨ts,rfl,h31,q⟩:=h
 have hz:(20000:Nat) < sizeLine:=by decide
 refine ⟨ts,rfl,by omega,λ d ks μ1 I=>?_⟩
 have lk:=I.le
 rw [xw0] at lk
 conv=>whnf
 rw [I.dc]
 intro p hp
 have el:((pmk ks λ p=>D.int ((vi0 ts).count p:Nat)).map λ kv=>tupI kv.1)=ks.map encQ:=by
  unfold pmk; rw [List.map_map]; rfl
 rw [el]
 refine vj0 (rest:=[some (.ref d)]) (λ x=>decide (deg ts (decQ x) % 2=1)) hp (by rw [List.length_map]; omega) (λ μ' ex=>ex _ _ I.dc) ?_ ?_
 ·intro x hx μ' R ex kk
  obtain ⟨p',hp',rfl⟩:=List.mem_map.mp hx
  have hd':=ex _ _ I.dc
  have hv:=xy0 (f:=λ p=>D.int ((vi0 ts).count p:Nat)) hp'
  show dgR (.ref d) (encQ p') μ' (λ x μ1=>_)
  unfold dgR
  simp only [ta2,hd',hv]
  refine ⟨(show (0:Int) < 2 by decide),?_⟩
  have e:decide ((((vi0 ts).count p':Nat):Int) % 2=1)=decide (deg ts (decQ (encQ p')) % 2=1):=by
   rw [ym0,yo0]
   exact decide_eq_decide.mpr (by omega)
  show R (decide ((((vi0 ts).count p':Nat):Int) % 2=1)) μ'
  rw [e]
  exact kk
 ·intro μ2 ex e2
  rw [yl3 (λ p=>decide (deg ts p % 2=1))] at e2
  have lF:=List.length_filter_le (λ p=>decide (deg ts p % 2=1)) ks
  refine ue2 e2 (by omega) λ us u1 u2 r hr=>q r us _ (I.ex.trans (ex.trans (Ext.new hr))) ((I.ex.trans ex).free hr) za0 (u1.trans ?_) u2
  refine (List.perm_ext_iff_of_nodup (I.nd.filter _) (vz0 _)).mpr λ p=>?_
  rw [List.mem_filter,xx0,decide_eq_true_eq]
  refine ⟨λ z=>z.2,λ z=>⟨(I.me p).mpr ?_,z⟩⟩
  have:0 < (vi0 ts).count p:=by rw [yo0]; omega
  exact List.count_pos_iff.mp this
noncomputable def spLn:Sp3:=λ ds μ Q=>∃ ts:List T3,ds=[.tup (ts.map encT)] /\ Pc ts /\ ts.length < 1010 /\ ∀ (us:List (List T3)) μ',Ext μ μ'->IsP ts us->Q (.int (wp0 us)) μ'
theorem wr3 (ds:List D) (μ:Mu) (Q:VK3) (h:spLn ds μ Q):t_q6 spLo spLp { nx:=λ _ μ'=>Q .non μ',rt:=Q } (start3 N_q6 ds) μ:=by
 obtain ⟨ts,rfl,hP,h31,q⟩:=h
 have hz:(20000:Nat) < sizeLine:=by decide
 refine ⟨ts,rfl,hP,λ r mk μ1 ex hr er I=>?_⟩
 have ip:=xu1 hP I
 generalize cls ts mk ts=us at er ip
 have lu:=ip.len (xj0 hP)
 conv=>whnf
 rw [er]
 intro p hp
 refine wj0 (rest:=[]) (λ d=>.int (need (decU d))) hp (by rw [List.length_map]; omega) (λ μ' e=>e _ _ er) ?_ ?_
 ·intro x hx μ' R e kk
  obtain ⟨u,hu,rfl⟩:=List.mem_map.mp hx
  obtain ⟨p1,p2⟩:=ip.pc hP hu
  refine ⟨u,rfl,by omega,λ r2 ps μ2 ex2 _ er2 pp1 _=>?_⟩
  have z:=kk μ2 ex2
  rw [xm0] at z
  conv=>whnf
  rw [er2]
  refine ⟨⟨(show (0:Int) < 2 by decide),(show (2:Int) < 2 ^ 120 by decide)⟩,?_⟩
  have e:(need u:Int)=if (1:Int) < (((ps.map encQ).length:Nat):Int) / 2 then (((ps.map encQ).length:Nat):Int) / 2 else 1:=by
   rw [List.length_map,pp1.length_eq]
   unfold need
   split <;> omega
  rw [e] at z
  show mxR [.int 1,.int ((((ps.map encQ).length:Nat):Int) / 2)] μ2 R
  rw [xg2]
  exact z
 ·intro μ2 e2 ep
  have el:(us.map encU).map (λ d=>D.int (need (decU d)))=(us.map need).map λ n:Nat=>D.int (n:Int):=by
   rw [List.map_map,List.map_map]
   apply List.map_congr_left
   intro u _
   show D.int (need (decU (encU u)):Nat)=_
   rw [xm0]; rfl
  rw [el] at ep
  conv=>whnf
  rw [ep]
  show (match ints? ((us.map need).map λ n:Nat=>D.int (n:Int)) with
   | some ns=>Q (.int ns.sum) μ2
   | none=>False)
  rw [ys0]
  show Q (.int ((us.map need).map λ n:Nat=>(n:Int)).sum) μ2
  rw [sq0]
  exact q us μ2 (ex.trans e2) ip
noncomputable def xg0:Sp3:=λ ds μ Q=>∃ i:Int,ds=[.int i] /\ Q (.bl true) μ
theorem zc3 (ds:List D) (μ:Mu) (Q:VK3) (h:xg0 ds μ Q):ti2 { nx:=λ _ μ'=>Q .non μ',rt:=Q } (start3 wd2 ds) μ:=by
 obtain ⟨i,rfl,q⟩:=h
 simp_arith [ti2,wd2]
 exact q
theorem wk3 {p:Addr} {l:List D} {μ:Mu} {Q:VK3} (h:μ p=some (.lst l)) (k:Q (.bl true) μ):isiR [.ref p,.ty "list"] μ Q:=by
 have e:isIn "list" "list" = some true:=by decide
 unfold isiR
 simp only [tyN,h,e]
 exact k
theorem yn3 {α:Type} {p:Addr} {L:List α} {μ:Mu} {Q:VK3} (h:μ p=some (.lst (L.map λ _=>D.bl true))) (k:Q (.bl true) μ):allR [.ref p] μ Q:=by
 have e:∀ L:List α,bls? (L.map λ _=>D.bl true)=some (L.map λ _=>true):=λ L=>by
  induction L with
  | nil=>rfl
  | cons x r ih=>rw [List.map_cons,bls?,ih]; rfl
 have e2:∀ L:List α,(L.map λ _=>true).all id=true:=λ L=>by simp
 unfold allR
 simp only [h,e,e2]
 exact k
theorem wl3:∀ L:List T3,PyData.eqvAll (L.map pT) (L.map pT)=true:=λ L=>by rw [sg2]; simp
noncomputable def xp0:Sp3:=λ ds μ Q=>∃ us:List T3,ds=[.tup (us.map encT),.tup (us.map encT)] /\ us.length < 64 /\ ∀ μ',Ext μ μ'->Q (.bl true) μ'
theorem vr3 (ds:List D) (μ:Mu) (Q:VK3) (h:xp0 ds μ Q):t_q5 xg0 { nx:=λ _ μ'=>Q .non μ',rt:=Q } (start3 N_q5 ds) μ:=by
 obtain ⟨us,rfl,hl,q⟩:=h
 have dd:datM μ (.tup (us.map encT))=some (.tuple (us.map pT)):=by simp only [datM,dat,wt1]
 have ee:∀ K:VK3,neR (.tup (us.map encT)) (.tup (us.map encT)) μ K=K (.bl false) μ:=λ K=>by
  rw [yy0 rfl dd dd (ye1 us) (ye1 us)]
  simp [PyData.eqv,wl3]
 simp_arith [t_q5,N_q5,ee]
 refine ze0 (λ l ρ μ'=>Ext μ μ' /\ ∃ (vs:List T3) (sd:Option D),l=vs.map encT /\ ρ=[some (.tup (us.map encT)),some (.tup (us.map encT)),sd]) ?_ (λ _ _ _ _=>trivial) ?_ ?_
 ·exact ⟨Ext.refl _,us,none,rfl,rfl⟩
 ·rintro ρ μ' ⟨ex,vs,sd,_,rfl⟩
  exact q μ' ex
 ·rintro d r ρ μ' ⟨ex,vs,sd,el,rfl⟩
  cases vs with
  | nil=>cases el
  | cons t vs =>
   rw [List.map_cons] at el
   injection el with e1 e2
   subst e1 e2
   simp_arith [encT]
   intro p hp
   refine wj0 (rest:=[]) (λ _=>.bl true) hp (show 3<=sizeLine by decide) (λ _ _=>trivial) ?_ ?_
   ·intro x hx μ2 R e3 k
    simp only [List.mem_cons,List.not_mem_nil,or_false] at hx
    rcases hx with rfl | rfl | rfl <;> exact ⟨_,rfl,k _ (Ext.refl _)⟩
   ·intro μ2 e3 e4
    simp only [List.map_cons,List.map_nil] at e4
    simp_arith [Pv.allR,e4,Pv.bls?]
    simp
    exact ⟨ex.trans e3,vs,rfl⟩
noncomputable def pQ (p:Pt):PyData:=.tuple [.int p.1,.int p.2]
theorem vh2:∀ L:List Pt,dats (L.map encQ)=some (L.map pQ)
 | []=>rfl
 | t :: r=>by simp only [List.map_cons,dats,encQ,dat,vh2 r,pQ]
theorem ss1:∀ L:List Pt,PyData.depthAll (L.map pQ)<=2
 | []=>by simp [PyData.depthAll]
 | t :: r=>by
  have:=ss1 r
  simp only [List.map_cons,PyData.depthAll,pQ,PyData.depth]
  omega
theorem ze1 (L:List Pt):(PyData.list (L.map pQ)).depth<=64:=by
 have:=ss1 L
 simp only [PyData.depth]
 omega
theorem vl3:∀ L:List Pt,PyData.eqvAll (L.map pQ) (L.map pQ)=true
 | []=>by simp [PyData.eqvAll]
 | t :: r=>by
  simp only [List.map_cons,PyData.eqvAll,vl3 r,pQ]
  simp [PyData.eqv,PyData.eqvAll]
theorem ne_Q {L:List Pt} {p q:Addr} {μ:Mu} {K:VK3} (h1:μ p=some (.lst (L.map encQ))) (h2:μ q=some (.lst (L.map encQ))):neR (.ref p) (.ref q) μ K=K (.bl false) μ:=by
 have dd:∀ p,μ p=some (.lst (L.map encQ))->datM μ (.ref p)=some (.list (L.map pQ)):=λ p h=>by simp only [datM,h,vh2]
 rw [yy0 rfl (dd p h1) (dd q h2) (ze1 L) (ze1 L)]
 simp [PyData.eqv,vl3]
noncomputable def pU (u:List T3):PyData:=.tuple (u.map pT)
theorem wh2:∀ L:List (List T3),dats (L.map encU)=some (L.map pU)
 | []=>rfl
 | t :: r=>by simp only [List.map_cons,dats,encU,dat,wt1,wh2 r,pU]
theorem ts1:∀ L:List (List T3),PyData.depthAll (L.map pU)<=4
 | []=>by simp [PyData.depthAll]
 | t :: r=>by
  have:=ts1 r
  have:=xz0 t
  simp only [List.map_cons,PyData.depthAll,pU,PyData.depth]
  omega
theorem xe1 (L:List (List T3)):(PyData.list (L.map pU)).depth<=64:=by
 have:=ts1 L
 simp only [PyData.depth]
 omega
theorem zl3:∀ L:List (List T3),PyData.eqvAll (L.map pU) (L.map pU)=true
 | []=>by simp [PyData.eqvAll]
 | t :: r=>by
  simp only [List.map_cons,PyData.eqvAll,zl3 r,pU]
  simp [PyData.eqv,wl3]
theorem ne_U {L:List (List T3)} {p q:Addr} {μ:Mu} {K:VK3} (h1:μ p=some (.lst (L.map encU))) (h2:μ q=some (.lst (L.map encU))):neR (.ref p) (.ref q) μ K=K (.bl false) μ:=by
 have dd:∀ p,μ p=some (.lst (L.map encU))->datM μ (.ref p)=some (.list (L.map pU)):=λ p h=>by simp only [datM,h,wh2]
 rw [yy0 rfl (dd p h1) (dd q h2) (xe1 L) (xe1 L)]
 simp [PyData.eqv,zl3]
theorem uc2 {α:Type} {S:Mu->Prop} {p:Addr} {te:TE3} {Q:VK3} {L:List α} {o o':Option D} {μ:Mu} (g1 g2 f:α->D) (hp:μ p=none) (hl:L.length<=sizeLine) (hS:∀ μ',Ext μ μ'->S μ')
    (hx:∀ x ∈ L,∀ μ' R,Ext μ μ'->(∀ μ2,Ext μ' μ2->R (f x) μ2)->te [some (g1 x),some (g2 x)] μ' R) (hQ:∀ μ',Ext μ μ'->μ' p=some (.lst (L.map f))->Q (.ref p) μ') :
    tc2 S p (gtup3 2 (gcons3 (gn3 0) (gcons3 (gn3 1) gnil3))) tt3 te Q (L.map λ x=>.tup [g1 x,g2 x]) [o,o'] (updM μ p (.lst [])):=by
 refine ⟨λ r ys ρ μ'=>Ext μ μ' /\ μ' p=some (.lst ys) /\ (∃ o o',ρ=[o,o']) /\ ∃ a b,a ++ b=L /\ ys=a.map f /\ r=b.map λ x=>.tup [g1 x,g2 x],?_,?_,?_,?_⟩
 ·exact ⟨Ext.new hp,za0,⟨o,o',rfl⟩,[],L,rfl,rfl,rfl⟩
 ·rintro r ys ρ μ' ⟨h1,h2,_⟩
  exact ⟨hS _ h1,h2⟩
 ·rintro ys ρ μ' ⟨h1,h2,_,a,b,e,rfl,eb⟩
  cases b with
  | cons _ _=>cases eb
  | nil =>
   rw [List.append_nil] at e
   subst e
   exact hQ _ h1 h2
 ·rintro x r ys ρ μ' ⟨h1,h2,⟨w,w',rfl⟩,a,b,e,rfl,eb⟩
  cases b with
  | nil=>cases eb
  | cons b r' =>
   rw [List.map_cons] at eb
   injection eb with e1 e2
   subst e1 e2
   refine ⟨by rw [List.length_map]; rw [<- e,List.length_append,List.length_cons] at hl; omega,?_⟩
   refine ⟨rfl,?_⟩
   show te [some (g1 b),some (g2 b)] μ' _
   refine hx b (by rw [<- e]; simp) μ' _ h1 λ μ2 h3=>⟨h3 _ _ h2,λ c u hb=>?_,za0,⟨_,_,rfl⟩,a ++ [b],r',by simp [<- e],by simp,rfl⟩
   rw [ua0 (ub0 hb hp)]
   exact h3 _ _ (h1 _ _ hb)
theorem ww1 {α:Type} (g:α->D) (L:List α):zipD (L.map g) (L.map g)=L.map λ x=>.tup [g x,g x]:=by
 unfold zipD
 induction L with
 | nil=>rfl
 | cons x r ih=>simp only [List.map_cons,List.zipWith_cons_cons,ih]
theorem tu0 {ts:List T3} {us vs:List (List T3)} (hn:ts.Nodup) (h:IsP ts us) (k:IsP ts vs):wp0 us=wp0 vs:=by
 unfold wp0
 exact ((h.one hn k).map need).sum_nat
noncomputable def ux1:Sp3:=λ ds μ Q=>∃ ns:List Int,ds=[.fls (ns.map D.int)] /\ ns.length<=63 /\ ∀ μ',Q (.bl true) μ'
section
variable {Q:VK3} {y0 y3 y4 y5 y6 y7 y8 y9:Option D} {ts:List T3} {μ:Mu} {z:Addr} {a:Int} {b:Bool}
theorem zg2 (q:∀ μ',Q (.bl true) μ') (hP:Pc ts) (h17:ts.length < 17) :
    zt0 sc0 ug0 xp0 spLn spLo yr0 spLp vg0 xg0 so0 te0 spTn { nx:=λ _ μ'=>Q .non μ',rt:=Q } [y0,some (.ref z),some (.tup (ts.map encT)),y3,y4,y5,y6,y7,y8,y9,none] μ:=by
 refine ⟨ts,rfl,hP,by omega,λ us μ1 e1 ip=>?_⟩
 refine ⟨_,rfl,?_⟩
 refine ⟨ts,rfl,hP,by omega,λ us2 μ2 e2 ip2=>?_⟩
 rw [tu0 (xj0 hP) ip ip2]
 show Q (.bl (decide (((wp0 us2:Nat):Int)=((wp0 us2:Nat):Int)))) μ2
 rw [decide_eq_true rfl]
 exact q μ2
theorem zv3 (q:∀ μ',Q (.bl true) μ') (hP:Pc ts) (h17:ts.length < 17) (hz:μ z=some (.lst [.int a,.bl b])) (ha:0<=a) {rw':List T3} (rP:Pc rw') (rI:IsP rw' [rw']) (rO:∀ ps:List Pt,ps.Perm (Od rw')->ps.Pairwise le2->ps=[(0,0),(1000,0)]) :
    xa1 sc0 ug0 xp0 spLn spLo yr0 spLp vg0 xg0 so0 te0 spTn { nx:=λ _ μ'=>Q .non μ',rt:=Q } [y0,some (.ref z),some (.tup (ts.map encT)),y3,y4,y5,y6,y7,y8,some (.tup (rw'.map encT)),none] μ:=by
 refine ⟨z,16,a,b,[],rfl,by decide,by decide,hz,ha,λ c a3 c0 c1 a3n=>?_⟩
 show ite (decide (c=3)=true) _ _
 by_cases c2:c=3
 ·rw [decide_eq_true c2,if_pos rfl]
  refine ⟨rw',rfl,rP,λ r us μ1 e1 hr er ip ac=>?_⟩
  have eu:us=[rw']:=Asc.one (ip.one (xj0 rP) rI) ac (List.pairwise_singleton _ _)
  subst eu
  refine ⟨(show 1<=sizeLine by decide),λ p hp=>?_⟩
  have er1:updM μ1 p (.lst [encU rw']) r=some (.lst ([rw'].map encU)):=by rw [ua0 (ub0 er hp)]; exact er
  show neR (.ref r) (.ref p) (updM μ1 p (.lst [encU rw'])) (λ d μ1=>match d with
   | .bl c=>(if c=true then _ else _)
   | _=>False)
  rw [ne_U er1 za0]
  refine ⟨rw',rfl,rP,rP.2.2,λ r2 ps μ2 e2 hr2 er2 p1 p2=>?_⟩
  have ep:=rO ps p1 p2
  subst ep
  refine ⟨z2,z2,z2,λ p3 hp3=>?_⟩
  have er3:updM μ2 p3 (.lst [encQ (0,0),encQ (1000,0)]) r2=some (.lst ([((0:Int),(0:Int)),(1000,0)].map encQ)):=by rw [ua0 (ub0 er2 hp3)]; exact er2
  show neR (.ref r2) (.ref p3) (updM μ2 p3 (.lst [encQ (0,0),encQ (1000,0)])) (λ d μ1=>match d with
   | .bl c=>(if c=true then _ else _)
   | _=>False)
  rw [ne_Q er3 za0]
  exact zg2 q hP h17
 ·rw [decide_eq_false c2,if_neg (by decide)]
  exact zg2 q hP h17
theorem sj2 (n:Nat):(rngD 0 n).map (λ d=>D.tup [d,.int 0,.int 0])=(row n).map encT:=by
 unfold rngD row
 rw [List.map_map,List.map_map]
 apply List.map_congr_left
 intro i _
 show D.tup [.int (0 + (i:Int)),.int 0,.int 0]=.tup [.int (i:Int),.int 0,.int 0]
 rw [Int.zero_add]
theorem yk2 (lo:Int) (n:Nat):(rngD lo n).length=n:=by simp [rngD]
theorem wv3 (q:∀ μ',Q (.bl true) μ') (hP:Pc ts) (h17:ts.length < 17) (hz:μ z=some (.lst [.int a,.bl b])) (ha:0<=a) :
    ya1 sc0 ug0 xp0 spLn spLo yr0 spLp vg0 xg0 so0 te0 spTn { nx:=λ _ μ'=>Q .non μ',rt:=Q } [y0,some (.ref z),some (.tup (ts.map encT)),y3,y4,y5,y6,y7,y8,none,none] μ:=by
 have rm:=sj2 1000
 have rP:=sz2
 have rI:=xk2 (n:=1000) (by decide)
 have rO:=λ ps p1 p2=>xa3 (ps:=ps) p1 p2
 refine ⟨⟨by decide,by decide⟩,λ p hp=>?_⟩
 have e1:(1000:Int).toNat=1000:=rfl
 rw [e1]
 have ln:(rngD 0 1000).length<=sizeLine:=by rw [yk2]; decide
 generalize row 1000=rw' at rm rP rI rO
 generalize rngD 0 1000=rg at rm ln
 refine wj0 (rest:=[]) (λ d=>.tup [d,.int 0,.int 0]) hp ln (λ _ _=>trivial) ?_ ?_
 ·intro x hx μ' R ex k
  exact ⟨z3,k _ (Ext.refl _)⟩
 ·intro μ' ex e
  rw [rm] at e
  dsimp only [nil3]
  refine sj1 e ?_
  exact zv3 q hP h17 (ex _ _ hz) ha rP rI rO
theorem vv3 (q:∀ μ',Q (.bl true) μ') (hP:Pc ts) (h17:ts.length < 17) (hz:μ z=some (.lst [.int a,.bl b])) (ha:0<=a) {f:Int} (hf:2<=f) :
    za1 sc0 ug0 xp0 spLn spLo yr0 spLp vg0 xg0 so0 te0 spTn { nx:=λ _ μ'=>Q .non μ',rt:=Q } [y0,some (.ref z),some (.tup (ts.map encT)),y3,y4,y5,y6,some (.int f),some (.tup ((pr f).map encT)),none,none] μ:=by
 refine ⟨pr f,rfl,sn1 hf,λ r us μ1 e1 hr er ip ac=>?_⟩
 have eu:us=prU f:=Asc.one (ip.one (xj0 (sn1 hf)) (vf2 hf)) ac (vf3 hf)
 subst eu
 refine ⟨z2,λ p hp=>?_⟩
 have er1:updM μ1 p (.lst ((prU f).map encU)) r=some (.lst ((prU f).map encU)):=by rw [ua0 (ub0 er hp)]; exact er
 show neR (.ref r) (.ref p) (updM μ1 p (.lst ((prU f).map encU))) (λ d μ1=>match d with
  | .bl c=>(if c=true then _ else _)
  | _=>False)
 rw [ne_U er1 za0]
 refine ⟨pr f,rfl,sn1 hf,(show 2 < 1010 by decide),λ us2 μ2 e2 ip2=>?_⟩
 have en:wp0 us2=2:=by rw [tu0 (xj0 (sn1 hf)) ip2 (vf2 hf)]; exact wm2 f
 rw [en]
 have hz2:μ2 z=some (.lst [.int a,.bl b]):=e2 _ _ (by rw [ua0 (ub0 (e1 _ _ hz) hp)]; exact e1 _ _ hz)
 dsimp only [c3]
 have e22:∀ K:VK3,neR (.int ((2:Nat):Int)) (.int 2) μ2 K=K (.bl false) μ2:=λ K=>rfl
 rw [e22]
 refine ⟨pr f,rfl,sn1 hf,(show 2 < 1010 by decide),λ r2 ps μ3 e3 hr3 er3 p1 p2=>?_⟩
 have ep:=zt3 hf p1 p2
 subst ep
 refine ⟨z2,z2,z2,z2,(show 4<=sizeLine by decide),λ p4 hp4=>?_⟩
 have er4:updM μ3 p4 (.lst ((prO f).map encQ)) r2=some (.lst ((prO f).map encQ)):=by rw [ua0 (ub0 er3 hp4)]; exact er3
 show neR (.ref r2) (.ref p4) (updM μ3 p4 (.lst ((prO f).map encQ))) (λ d μ1=>match d with
  | .bl c=>(if c=true then _ else _)
  | _=>False)
 rw [ne_Q er4 za0]
 exact wv3 q hP h17 (by rw [ua0 (ub0 (e3 _ _ hz2) hp4)]; exact e3 _ _ hz2) ha
theorem uv3 (q:∀ μ',Q (.bl true) μ') (hP:Pc ts) (h17:ts.length < 17) (hz:μ z=some (.lst [.int a,.bl b])) (ha:0<=a) :
    wa1 sc0 ug0 xp0 spLn spLo yr0 spLp vg0 xg0 so0 te0 spTn { nx:=λ _ μ'=>Q .non μ',rt:=Q } [y0,some (.ref z),some (.tup (ts.map encT)),y3,y4,y5,y6,none,none,none,none] μ:=by
 refine ⟨⟨by decide,by decide,by decide⟩,?_⟩
 refine ⟨z,10 ^ 20,a,b,[],rfl,by decide,by decide,hz,ha,λ c a3 c0 c1 a3n=>?_⟩
 exact ⟨z3,z3,z2,vv3 q hP h17 za0 a3n (by omega)⟩
section
variable {r od d:Addr} {us:List (List T3)} {ps:List Pt} {D':Ends3} {y1 y2 y7 y8 y9 y10:Option D}
theorem zj2 {l:List D} (er:μ r=some (.lst (us.map encU))) (ed:μ d=some (.lst (us.map encU))) (eo:μ od=some (.lst l)) (k:D'.nx [y0,y1,y2,y3,some (.ref r),some (.ref od),some (.ref d),y7,y8,y9,y10] μ) :
    (ifs3 (or3 (not3 (b3 (call3 isiR (cons3 (v3 4) (cons3 (c3 (.ty "list")) nil3))))) (or3 (b3 (o3 neR (call3 lenR (cons3 (v3 4) nil3)) (call3 lenR (cons3 (v3 6) nil3)))) (not3 (b3 (call3 isiR (cons3 (v3 5) (cons3 (c3 (.ty "list")) nil3))))))) (ret3 (c3 (.bl false))) next3) D' [y0,y1,y2,y3,some (.ref r),some (.ref od),some (.ref d),y7,y8,y9,y10] μ:=by
 simp only [ifs3,or3,not3,b3,call3,cons3,nil3,v3,c3,o3,getI]
 refine wk3 er ?_
 dsimp only
 have ln:∀ (K:VK3) (p:Addr),μ p=some (.lst (us.map encU))->lenR [.ref p] μ K=K (.int (us.map encU).length) μ:=λ K p h=>by
  unfold lenR
  simp only [h]
 rw [if_neg (by decide),ln _ _ er,ln _ _ ed,neR_ii]
 simp only [decide_true,Bool.not_true,if_false,Bool.false_eq_true]
 refine wk3 eo ?_
 exact k
theorem sv2 (hz0:us.length<=sizeLine) (hus:∀ u ∈ us,u.length < 64) (er:μ r=some (.lst (us.map encU))) (ed:μ d=some (.lst (us.map encU))) (k:∀ μ',Ext μ μ'->D'.nx [y0,y1,y2,y3,some (.ref r),some (.ref od),some (.ref d),y7,y8,y9,y10] μ') :
    (ifs3 (not3 (b3 (call3 allR (cons3 (comp3 [none,none] (iz3 (cons3 (v3 4) (cons3 (v3 6) nil3))) (gtup3 2 (gcons3 (gn3 0) (gcons3 (gn3 1) gnil3))) tt3 (call3 xp0 (cons3 (v3 0) (cons3 (v3 1) nil3)))) nil3)))) (ret3 (c3 (.bl false))) next3) D' [y0,y1,y2,y3,some (.ref r),some (.ref od),some (.ref d),y7,y8,y9,y10] μ:=by
 conv=>whnf
 rw [er,ed]
 refine ⟨rfl,λ p hp=>?_⟩
 rw [ww1]
 refine uc2 encU encU (λ _=>.bl true) hp hz0 (λ μ' ex=>⟨ex _ _ er,ex _ _ ed⟩) ?_ ?_
 ·intro u hu μ' R ex kk
  exact ⟨u,rfl,hus u hu,λ μ2 e2=>kk μ2 e2⟩
 ·intro μ' ex e
  dsimp only [nil3]
  refine yn3 (L:=us) e ?_
  exact k μ' ex
theorem xw2 (hP:Pc ts) (h17:ts.length < 17) (p1:ps.Perm (Od ts)) (p2:ps.Pairwise le2) (eo:μ od=some (.lst (ps.map encQ))) (hl:ps.length<=sizeLine) (k:∀ μ',Ext μ μ'->D'.nx [y0,y1,some (.tup (ts.map encT)),y3,y4,some (.ref od),y6,y7,y8,y9,y10] μ') :
    (ifs3 (or3 (b3 (o3 neR (v3 5) (call3 spLo (cons3 (v3 2) nil3)))) (not3 (b3 (call3 allR (cons3 (comp3 [none] (is3 (v3 5)) (gn3 0) tt3 (call3 isiR (cons3 (v3 0) (cons3 (c3 (.ty "tuple")) nil3)))) nil3))))) (ret3 (c3 (.bl false))) next3) D' [y0,y1,some (.tup (ts.map encT)),y3,y4,some (.ref od),y6,y7,y8,y9,y10] μ:=by
 refine ⟨ts,rfl,by omega,λ r2 ps2 μ2 e2 _ er2 q1 q2=>?_⟩
 have ep:ps2=ps:=uq2 (q1.trans p1.symm) q2 p2
 subst ep
 have eo2:=e2 _ _ eo
 show neR (.ref od) (.ref r2) μ2 (λ d μ1=>match d with
  | .bl c=>(if c=true then _ else _)
  | _=>False)
 rw [ne_Q eo2 er2]
 conv=>whnf
 rw [eo2]
 intro p hp
 refine wj0 (rest:=[]) (λ _=>.bl true) hp (by rw [List.length_map]; exact hl) (λ μ' ex=>ex _ _ eo2) ?_ ?_
 ·intro x hx μ' R ex kk
  obtain ⟨p',_,rfl⟩:=List.mem_map.mp hx
  exact kk μ' (Ext.refl _)
 ·intro μ' ex e
  dsimp only [nil3]
  refine yn3 (L:=ps2.map encQ) e ?_
  exact k μ' (e2.trans ex)
end
theorem vj3 (q:∀ μ',Q (.bl true) μ') (hP:Pc ts) (h17:ts.length < 17) (hz:μ z=some (.lst [.int a,.bl b])) (ha:0<=a) :
    va1 sc0 ug0 xp0 spLn spLo yr0 spLp vg0 xg0 so0 te0 spTn { nx:=λ _ μ'=>Q .non μ',rt:=Q } [y0,some (.ref z),some (.tup (ts.map encT)),none,none,none,none,none,none,none,none] μ:=by
 have hz0:(20000:Nat) < sizeLine:=by decide
 refine ⟨⟨by decide,by decide⟩,?_⟩
 refine ze0 (λ l ρ μ'=>μ' z=some (.lst [.int a,.bl b]) /\ ∃ y3 y4 y5 y6,ρ=[y0,some (.ref z),some (.tup (ts.map encT)),y3,y4,y5,y6,none,none,none,none]) ?_ (λ _ _ _ _=>trivial) ?_ ?_
 ·exact ⟨hz,none,none,none,none,rfl⟩
 ·rintro ρ μ' ⟨hz',y3,y4,y5,y6,rfl⟩
  exact uv3 q hP h17 hz' ha
 ·rintro x rest ρ μ' ⟨hz',y3,y4,y5,y6,rfl⟩
  refine ⟨ts,rfl,hP,λ r us μ1 e1 hr er ip ac=>?_⟩
  refine ⟨ts,rfl,hP,by omega,λ od ps μ2 e2 hod eo p1 p2=>?_⟩
  refine ⟨ts,rfl,hP,λ du mk μ3 e3 hdu ed I=>?_⟩
  have eu:us=cls ts mk ts:=Asc.one (ip.one (xj0 hP) (xu1 hP I)) ac (zr2 hP I)
  have lu:=ip.len (xj0 hP)
  rw [<- eu] at ed
  have er3:=e3 _ _ (e2 _ _ er)
  have eo3:=e3 _ _ eo
  have hz3:=e3 _ _ (e2 _ _ (e1 _ _ hz'))
  have lo:ps.length < 4000:=by
   have h1:=p1.length_eq
   have h2:=wn3 ts
   omega
  refine zj2 er3 ed eo3 ?_
  refine sv2 (by omega) (λ u hu=>?_) er3 ed λ μ4 e4=>?_
  ·have:=(ip.pc hP hu).2; omega
  refine xw2 hP h17 p1 p2 (e4 _ _ eo3) (by omega) λ μ5 e5=>?_
  have er5:=e5 _ _ (e4 _ _ er3)
  have eo5:=e5 _ _ (e4 _ _ eo3)
  have hz5:=e5 _ _ (e4 _ _ hz3)
  conv=>whnf
  rw [er5]
  refine ⟨Nat.zero_le _,?_⟩
  have nro:od ≠ r:=λ z=>by subst z; rw [er] at hod; cases hod
  have nrz:z ≠ r:=ub0 hz' hr
  have noz:z ≠ od:=ub0 (e1 _ _ hz') hod
  dsimp only [nil3]
  refine sv1 er5 (by rw [List.length_map]; omega) ?_
  have eo6:updM μ5 r (.lst (us.map encU ++ [.tup []])) od=some (.lst (ps.map encQ)):=by rw [ua0 nro]; exact eo5
  conv=>whnf
  rw [eo6]
  refine ⟨z2,?_⟩
  dsimp only [nil3]
  refine sv1 eo6 (by rw [List.length_map]; omega) ?_
  exact ⟨by rw [ua0 noz,ua0 nrz]; exact hz5,_,_,_,_,rfl⟩
end
theorem tb3 (ds:List D) (μ:Mu) (Q:VK3) (h:ux1 ds μ Q):tu2 sc0 ug0 xp0 spLn spLo yr0 spLp vg0 xg0 so0 te0 spTn { nx:=λ _ μ'=>Q .non μ',rt:=Q } (start3 ss2 ds) μ:=by
 obtain ⟨ns,rfl,hn,q⟩:=h
 refine ⟨ns,0,rfl,by decide,λ a b z ha hz=>?_⟩
 refine ⟨z,12,a,b,rfl,za0,ha,by decide,by decide,λ ts a2 b2 μ2 hP hl ha2 hz2=>?_⟩
 refine ⟨z,2,a2,b2,[],rfl,by decide,by decide,hz2,ha2,λ c a3 c0 c1 a3n=>?_⟩
 show ite (decide (c=1)=true) _ _
 by_cases c2:c=1
 ·rw [decide_eq_true c2]
  exact ⟨z,16,a3,b2,rfl,za0,a3n,by decide,by decide,λ ts2 a4 b4 μ4 hP4 hl4 ha4 hz4=>vj3 q hP4 (by omega) hz4 ha4⟩
 ·rw [decide_eq_false c2]
  exact vj3 q hP (by omega) za0 a3n
end Pv
namespace Pv
open PySem PySem.Spec PyProof.Rows L2
theorem bn1 {P:List Value->Prop} (h:∀ a,P [a]) (us:List Value) (e:us.length=1):P us:=by
 match us,e with
 | [a],_=>exact h a
theorem bn2 {P:List Value->Prop} (h:∀ a b,P [a,b]) (us:List Value) (e:us.length=2):P us:=by
 match us,e with
 | [a,b],_=>exact h a b
theorem bn3 {P:List Value->Prop} (h:∀ a b c,P [a,b,c]) (us:List Value) (e:us.length=3):P us:=by
 match us,e with
 | [a,b,c],_=>exact h a b c
noncomputable abbrev NsR (K:Fg) (x:Str) (p:Addr):Prop:=PySem.W.nsIn K mainGlobals x=some (some (.ref p))
noncomputable def FnA (K:Fg) (x:Str) (st:Stmt) (p:Addr):Prop:=∃ oc od sl kV dc pm an cd ct,K.lookup p=some ⟨oc,od,.func (PySem.W.fnOf x x (th0 st) (tb0 st) (wa0 st) .none kV dc pm an cd ct),sl⟩ /\ PySem.W.codeIn K cd x=true /\ PySem.W.keepIn K (.ref p)=true
theorem fnA_mk {K:Fg} {x:Str} {st:Stmt} {p:Addr} {oc kV dc pm cd ct:Value} {od an:Option Addr} {sl:Array (Option Value)} (l:K.lookup p=some ⟨oc,od,.func (PySem.W.fnOf x x (th0 st) (tb0 st) (wa0 st) .none kV dc pm an cd ct),sl⟩) (c:PySem.W.codeIn K cd x=true) (k:PySem.W.keepIn K (.ref p)=true):FnA K x st p:=⟨_,_,_,_,_,_,_,_,_,l,c,k⟩
theorem FnA.fn {K:Fg} {x:Str} {st:Stmt} {p:Addr} (h:FnA K x st p):∃ fd,Fun K x x st p fd:=by
 obtain ⟨_,_,_,_,_,_,_,_,_,l,c,k⟩:=h
 exact ⟨_,ug2 (st:=st) l c k⟩
theorem all_mk {l:PySem.W.OpenLaw} {w:World} {K:Fg} {h:Heap} {mg:Str->Option Value} {fa:Addr} (X:K.In h) (G:h.Ns mainGlobals mg) (hfa:mg "law" = some (.ref fa))
    {p_q13:Addr}
    {p_q14:Addr}
    {p_q15:Addr}
    {p_q18:Addr}
    {p_q20:Addr}
    {p_q19:Addr}
    {p_q21:Addr}
    {p_q17:Addr}
    {p_q22:Addr}
    {p_q23:Addr}
    {p_q0:Addr}
    {p_q12:Addr}
    {p_q11:Addr}
    {p_q1:Addr}
    {p_q8:Addr}
    {p_q2:Addr}
    {p_q3:Addr}
    {p_q10:Addr}
    {p_q9:Addr}
    {p_q7:Addr}
    {p_q6:Addr}
    {p_q5:Addr}
    {p_q16:Addr}
    {t_2:Tok}
    {t_3:Tok}
    {q_1:Addr} {qo_1:Option Addr} {qn_1:Nat} {qs_1:Array (Option Value)}
    (a_q13:NsR K "check_picture" p_q13) (A_q13:FnA K "check_picture" vg1 p_q13)
    (a_q14:NsR K "check_stroke" p_q14) (A_q14:FnA K "check_stroke" wg1 p_q14)
    (a_q15:NsR K "ends_of" p_q15) (A_q15:FnA K "ends_of" zg1 p_q15)
    (a_q18:NsR K "picture_pieces" p_q18) (A_q18:FnA K "picture_pieces" xg1 p_q18)
    (a_q20:NsR K "strokes_at" p_q20) (A_q20:FnA K "strokes_at" tf1 p_q20)
    (a_q19:NsR K "piece_with" p_q19) (A_q19:FnA K "piece_with" sf1 p_q19)
    (a_q21:NsR K "take_unseen" p_q21) (A_q21:FnA K "take_unseen" uf1 p_q21)
    (a_q17:NsR K "odd_points" p_q17) (A_q17:FnA K "odd_points" yg1 p_q17)
    (a_q22:NsR K "trails_needed" p_q22) (A_q22:FnA K "trails_needed" vf1 p_q22)
    (a_q23:NsR K "trails_of_piece_needed" p_q23) (A_q23:FnA K "trails_of_piece_needed" wf1 p_q23)
    (a_q0:NsR K "_law_cell_at" p_q0) (A_q0:FnA K "_law_cell_at" s_q0 p_q0)
    (a_q12:NsR K "_law_whole" p_q12) (A_q12:FnA K "_law_whole" ug1 p_q12)
    (a_q11:NsR K "_law_state" p_q11) (A_q11:FnA K "_law_state" tg1 p_q11)
    (a_q1:NsR K "_law_choice" p_q1) (A_q1:FnA K "_law_choice" s_q1 p_q1)
    (a_q8:NsR K "_law_picture" p_q8) (A_q8:FnA K "_law_picture" s_q8 p_q8)
    (a_q2:NsR K "_law_dense" p_q2) (A_q2:FnA K "_law_dense" s_q2 p_q2)
    (a_q3:NsR K "_law_ends" p_q3) (A_q3:FnA K "_law_ends" s_q3 p_q3)
    (a_q10:NsR K "_law_points" p_q10) (A_q10:FnA K "_law_points" sg1 p_q10)
    (a_q9:NsR K "_law_pieces" p_q9) (A_q9:FnA K "_law_pieces" s_q9 p_q9)
    (a_q7:NsR K "_law_odd_points" p_q7) (A_q7:FnA K "_law_odd_points" s_q7 p_q7)
    (a_q6:NsR K "_law_needed" p_q6) (A_q6:FnA K "_law_needed" s_q6 p_q6)
    (a_q5:NsR K "_law_is_picture" p_q5) (A_q5:FnA K "_law_is_picture" s_q5 p_q5)
    (a_q16:NsR K "law" p_q16) (A_q16:FnA K "law" yp0 p_q16)
    (e_WAYS:PySem.W.nsIn K mainGlobals "WAYS" = some (some (.ref q_1)))
    (ql_1:K.lookup q_1=some ⟨.type "tuple",qo_1,.seq #[.int (0) t_2,.int (1) t_3] qn_1,qs_1⟩)
    (zz_all:PySem.W.nsIn K mainGlobals "all" = some none)
    (zz_bool:PySem.W.nsIn K mainGlobals "bool" = some none)
    (zz_int:PySem.W.nsIn K mainGlobals "int" = some none)
    (zz_isinstance:PySem.W.nsIn K mainGlobals "isinstance" = some none)
    (zz_len:PySem.W.nsIn K mainGlobals "len" = some none)
    (zz_list:PySem.W.nsIn K mainGlobals "list" = some none)
    (zz_max:PySem.W.nsIn K mainGlobals "max" = some none)
    (zz_min:PySem.W.nsIn K mainGlobals "min" = some none)
    (zz_range:PySem.W.nsIn K mainGlobals "range" = some none)
    (zz_sorted:PySem.W.nsIn K mainGlobals "sorted" = some none)
    (zz_sum:PySem.W.nsIn K mainGlobals "sum" = some none)
    (zz_tuple:PySem.W.nsIn K mainGlobals "tuple" = some none)
    (zz_zip:PySem.W.nsIn K mainGlobals "zip" = some none) :
    ∃ fd:FuncData,(∀ (s:Shared) (v:Value),BindsTo s fd ⟨[v],[]⟩ [("script",v)]) /\ ∀ base:Heap,K.In base->base.Ns mainGlobals mg->FnOk l.prog w K mg base CX0 6 fa fd ["script"] (lift K ux1):=by
 have e:=hfa.symm.trans (PySem.W.mg_of X G a_q16)
 cases e
 have g_WAYS:Gd K mg "WAYS" xv0:=xl3 X G e_WAYS (TupK.mk ql_1 (show 2<=sizeLine by decide) (.int (.int .nil)))
 have z_all:=PySem.W.mg_none_of X G zz_all
 have z_bool:=PySem.W.mg_none_of X G zz_bool
 have z_int:=PySem.W.mg_none_of X G zz_int
 have z_isinstance:=PySem.W.mg_none_of X G zz_isinstance
 have z_len:=PySem.W.mg_none_of X G zz_len
 have z_list:=PySem.W.mg_none_of X G zz_list
 have z_max:=PySem.W.mg_none_of X G zz_max
 have z_min:=PySem.W.mg_none_of X G zz_min
 have z_range:=PySem.W.mg_none_of X G zz_range
 have z_sorted:=PySem.W.mg_none_of X G zz_sorted
 have z_sum:=PySem.W.mg_none_of X G zz_sum
 have z_tuple:=PySem.W.mg_none_of X G zz_tuple
 have z_zip:=PySem.W.mg_none_of X G zz_zip
 obtain ⟨_,F_q13⟩:=A_q13.fn
 have b_q13:=F_q13.binds (ps:=["picture"]) λ _ _ _ _ _ _=>bn1 λ _=>rfl
 have m_q13:=PySem.W.mg_of X G a_q13
 obtain ⟨_,F_q14⟩:=A_q14.fn
 have b_q14:=F_q14.binds (ps:=["stroke"]) λ _ _ _ _ _ _=>bn1 λ _=>rfl
 have m_q14:=PySem.W.mg_of X G a_q14
 obtain ⟨_,F_q15⟩:=A_q15.fn
 have b_q15:=F_q15.binds (ps:=["stroke"]) λ _ _ _ _ _ _=>bn1 λ _=>rfl
 have m_q15:=PySem.W.mg_of X G a_q15
 obtain ⟨_,F_q18⟩:=A_q18.fn
 have b_q18:=F_q18.binds (ps:=["picture"]) λ _ _ _ _ _ _=>bn1 λ _=>rfl
 have m_q18:=PySem.W.mg_of X G a_q18
 obtain ⟨_,F_q20⟩:=A_q20.fn
 have b_q20:=F_q20.binds (ps:=["picture"]) λ _ _ _ _ _ _=>bn1 λ _=>rfl
 have m_q20:=PySem.W.mg_of X G a_q20
 obtain ⟨_,F_q19⟩:=A_q19.fn
 have b_q19:=F_q19.binds (ps:=["stroke", "at", "seen"]) λ _ _ _ _ _ _=>bn3 λ _ _ _=>rfl
 have m_q19:=PySem.W.mg_of X G a_q19
 obtain ⟨_,F_q21⟩:=A_q21.fn
 have b_q21:=F_q21.binds (ps:=["strokes", "seen"]) λ _ _ _ _ _ _=>bn2 λ _ _=>rfl
 have m_q21:=PySem.W.mg_of X G a_q21
 obtain ⟨_,F_q17⟩:=A_q17.fn
 have b_q17:=F_q17.binds (ps:=["picture"]) λ _ _ _ _ _ _=>bn1 λ _=>rfl
 have m_q17:=PySem.W.mg_of X G a_q17
 obtain ⟨_,F_q22⟩:=A_q22.fn
 have b_q22:=F_q22.binds (ps:=["picture"]) λ _ _ _ _ _ _=>bn1 λ _=>rfl
 have m_q22:=PySem.W.mg_of X G a_q22
 obtain ⟨_,F_q23⟩:=A_q23.fn
 have b_q23:=F_q23.binds (ps:=["piece"]) λ _ _ _ _ _ _=>bn1 λ _=>rfl
 have m_q23:=PySem.W.mg_of X G a_q23
 obtain ⟨_,F_q0⟩:=A_q0.fn
 have b_q0:=F_q0.binds (ps:=["script", "k"]) λ _ _ _ _ _ _=>bn2 λ _ _=>rfl
 have m_q0:=PySem.W.mg_of X G a_q0
 obtain ⟨_,F_q12⟩:=A_q12.fn
 have b_q12:=F_q12.binds (ps:=["found"]) λ _ _ _ _ _ _=>bn1 λ _=>rfl
 have m_q12:=PySem.W.mg_of X G a_q12
 obtain ⟨_,F_q11⟩:=A_q11.fn
 have b_q11:=F_q11.binds (ps:=["script", "k"]) λ _ _ _ _ _ _=>bn2 λ _ _=>rfl
 have m_q11:=PySem.W.mg_of X G a_q11
 obtain ⟨_,F_q1⟩:=A_q1.fn
 have b_q1:=F_q1.binds (ps:=["state", "many"]) λ _ _ _ _ _ _=>bn2 λ _ _=>rfl
 have m_q1:=PySem.W.mg_of X G a_q1
 obtain ⟨_,F_q8⟩:=A_q8.fn
 have b_q8:=F_q8.binds (ps:=["state", "most"]) λ _ _ _ _ _ _=>bn2 λ _ _=>rfl
 have m_q8:=PySem.W.mg_of X G a_q8
 obtain ⟨_,F_q2⟩:=A_q2.fn
 have b_q2:=F_q2.binds (ps:=["state", "most"]) λ _ _ _ _ _ _=>bn2 λ _ _=>rfl
 have m_q2:=PySem.W.mg_of X G a_q2
 obtain ⟨_,F_q3⟩:=A_q3.fn
 have b_q3:=F_q3.binds (ps:=["stroke"]) λ _ _ _ _ _ _=>bn1 λ _=>rfl
 have m_q3:=PySem.W.mg_of X G a_q3
 obtain ⟨_,F_q10⟩:=A_q10.fn
 have b_q10:=F_q10.binds (ps:=["picture"]) λ _ _ _ _ _ _=>bn1 λ _=>rfl
 have m_q10:=PySem.W.mg_of X G a_q10
 obtain ⟨_,F_q9⟩:=A_q9.fn
 have b_q9:=F_q9.binds (ps:=["picture"]) λ _ _ _ _ _ _=>bn1 λ _=>rfl
 have m_q9:=PySem.W.mg_of X G a_q9
 obtain ⟨_,F_q7⟩:=A_q7.fn
 have b_q7:=F_q7.binds (ps:=["picture"]) λ _ _ _ _ _ _=>bn1 λ _=>rfl
 have m_q7:=PySem.W.mg_of X G a_q7
 obtain ⟨_,F_q6⟩:=A_q6.fn
 have b_q6:=F_q6.binds (ps:=["picture"]) λ _ _ _ _ _ _=>bn1 λ _=>rfl
 have m_q6:=PySem.W.mg_of X G a_q6
 obtain ⟨_,F_q5⟩:=A_q5.fn
 have b_q5:=F_q5.binds (ps:=["found", "due"]) λ _ _ _ _ _ _=>bn2 λ _ _=>rfl
 have m_q5:=PySem.W.mg_of X G a_q5
 obtain ⟨_,_,_,kV_q16,dc_q16,pm_q16,an_q16,cd_q16,ct_q16,l_q16,c_q16,k_q16⟩:=A_q16
 have F_q16:=ug2 (st:=yp0) l_q16 c_q16 k_q16
 have b_q16:=F_q16.binds (ps:=["script"]) λ _ _ _ _ _ _=>bn1 λ _=>rfl
 have m_q16:=PySem.W.mg_of X G a_q16
 refine ⟨PySem.W.fnOf "law" "law" (th0 yp0) (tb0 yp0) (wa0 yp0) .none kV_q16 dc_q16 pm_q16 an_q16 cd_q16 ct_q16,λ s v=>.of_eq rfl,λ base KB GB=>?_⟩
 have h_q14:Cal l.prog w K mg base (1) "check_stroke" ["stroke"] sk1:=sd0 F_q14 m_q14 b_q14 vx2 (by rintro _ _ _ ⟨_,rfl,_⟩; rfl) (k:=0) (λ cdv A outer s H E hr=>zz2 z_len g_WAYS hr) xc3
 have h_q15:Cal l.prog w K mg base (1) "ends_of" ["stroke"] sa1:=sd0 F_q15 m_q15 b_q15 wx2 (by rintro _ _ _ ⟨_,rfl,_⟩; rfl) (k:=0) (λ cdv A outer s H E hr=>yz2 hr) sb3
 have h_q13:Cal l.prog w K mg base (2) "check_picture" ["picture"] xb1:=sd0 F_q13 m_q13 b_q13 sc_q13 (by rintro _ _ _ ⟨_,rfl,_⟩; rfl) (k:=1) (λ cdv A outer s H E hr=>wz2 h_q14 (by decide) z_len z_range hr) yc3
 have h_q20:Cal l.prog w K mg base (2) "strokes_at" ["picture"] spAt:=sd0 F_q20 m_q20 b_q20 sc_q20 (by rintro _ _ _ ⟨_,rfl,_⟩; rfl) (k:=1) (λ cdv A outer s H E hr=>vy2 h_q15 (by decide) hr) zb3
 have h_q21:Cal l.prog w K mg base (1) "take_unseen" ["strokes", "seen"] ta1:=sd0 F_q21 m_q21 b_q21 sc_q21 (by rintro _ _ _ ⟨_,_,_,_,rfl,_⟩; rfl) (k:=0) (λ cdv A outer s H E hr=>wy2 hr) yb3
 have h_q19:Cal l.prog w K mg base (2) "piece_with" ["stroke", "at", "seen"] spPw:=sd0 F_q19 m_q19 b_q19 sc_q19 (by rintro _ _ _ ⟨_,_,_,_,_,_,rfl,_⟩; rfl) (k:=1) (λ cdv A outer s H E hr=>uy2 h_q15 (by decide) h_q21 (by decide) z_len z_sorted z_tuple hr) wb3
 have h_q18:Cal l.prog w K mg base (3) "picture_pieces" ["picture"] te0:=sd0 F_q18 m_q18 b_q18 sc_q18 (by rintro _ _ _ ⟨_,rfl,_⟩; rfl) (k:=2) (λ cdv A outer s H E hr=>ty2 h_q13 (by decide) h_q19 (by decide) h_q20 (by decide) hr) vb3
 have h_q17:Cal l.prog w K mg base (3) "odd_points" ["picture"] so0:=sd0 F_q17 m_q17 b_q17 sc_q17 (by rintro _ _ _ ⟨_,rfl,_⟩; rfl) (k:=2) (λ cdv A outer s H E hr=>sy2 h_q13 (by decide) h_q20 (by decide) z_len z_sorted hr) ub3
 have h_q23:Cal l.prog w K mg base (4) "trails_of_piece_needed" ["piece"] spOf:=sd0 F_q23 m_q23 b_q23 yx2 (by rintro _ _ _ ⟨_,rfl,_⟩; rfl) (k:=3) (λ cdv A outer s H E hr=>yy2 h_q17 (by decide) z_len z_max hr) sa3
 have h_q22:Cal l.prog w K mg base (5) "trails_needed" ["picture"] spTn:=sd0 F_q22 m_q22 b_q22 zx2 (by rintro _ _ _ ⟨_,rfl,_⟩; rfl) (k:=4) (λ cdv A outer s H E hr=>zy2 h_q18 (by decide) h_q23 (by decide) z_sum hr) xb3
 have h_q0:Cal l.prog w K mg base (1) "_law_cell_at" ["script", "k"] xl1:=sd0 F_q0 m_q0 b_q0 vp3 (by rintro _ _ _ ⟨_,_,rfl,_⟩; rfl) (k:=0) (λ cdv A outer s H E hr=>tq3 z_len hr) xs3
 have h_q12:Cal l.prog w K mg base (1) "_law_whole" ["found"] xg0:=sd0 F_q12 m_q12 b_q12 ux2 (by rintro _ _ _ ⟨_,rfl,_⟩; rfl) (k:=0) (λ cdv A outer s H E hr=>vz2 z_bool z_int z_isinstance hr) zc3
 have h_q11:Cal l.prog w K mg base (2) "_law_state" ["script", "k"] vg0:=sd0 F_q11 m_q11 b_q11 sc_q11 (by rintro _ _ _ ⟨_,_,rfl,_⟩; rfl) (k:=1) (λ cdv A outer s H E hr=>uz2 h_q0 (by decide) hr) wc3
 have h_q1:Cal l.prog w K mg base (1) "_law_choice" ["state", "many"] sc0:=sd0 F_q1 m_q1 b_q1 sc_q1 (by rintro _ _ _ ⟨_,_,_,_,_,rfl,_⟩; rfl) (k:=0) (λ cdv A outer s H E hr=>uq3 hr) sr3
 have h_q8:Cal l.prog w K mg base (2) "_law_picture" ["state", "most"] yr0:=sd0 F_q8 m_q8 b_q8 sc_q8 (by rintro _ _ _ ⟨_,_,_,_,rfl,_⟩; rfl) (k:=1) (λ cdv A outer s H E hr=>sp3 h_q1 (by decide) z_range z_sorted z_tuple hr) yr3
 have h_q2:Cal l.prog w K mg base (2) "_law_dense" ["state", "most"] ug0:=sd0 F_q2 m_q2 b_q2 sc_q2 (by rintro _ _ _ ⟨_,_,_,_,rfl,_⟩; rfl) (k:=1) (λ cdv A outer s H E hr=>vq3 h_q1 (by decide) z_range z_sorted z_tuple hr) tr3
 have h_q3:Cal l.prog w K mg base (1) "_law_ends" ["stroke"] spLe:=sd0 F_q3 m_q3 b_q3 sc_q3 (by rintro _ _ _ ⟨_,rfl,_⟩; rfl) (k:=0) (λ cdv A outer s H E hr=>wq3 hr) ur3
 have h_q10:Cal l.prog w K mg base (2) "_law_points" ["picture"] wj2:=sd0 F_q10 m_q10 b_q10 sc_q10 (by rintro _ _ _ ⟨_,rfl,_⟩; rfl) (k:=1) (λ cdv A outer s H E hr=>tz2 h_q3 (by decide) hr) vc3
 have h_q9:Cal l.prog w K mg base (2) "_law_pieces" ["picture"] spLp:=sd0 F_q9 m_q9 b_q9 sc_q9 (by rintro _ _ _ ⟨_,rfl,_⟩; rfl) (k:=1) (λ cdv A outer s H E hr=>tp3 h_q3 (by decide) z_len z_max z_min z_tuple hr) xr3
 have h_q7:Cal l.prog w K mg base (3) "_law_odd_points" ["picture"] spLo:=sd0 F_q7 m_q7 b_q7 sc_q7 (by rintro _ _ _ ⟨_,rfl,_⟩; rfl) (k:=2) (λ cdv A outer s H E hr=>xq3 h_q10 (by decide) z_sorted hr) zr3
 have h_q6:Cal l.prog w K mg base (4) "_law_needed" ["picture"] spLn:=sd0 F_q6 m_q6 b_q6 wp3 (by rintro _ _ _ ⟨_,rfl,_⟩; rfl) (k:=3) (λ cdv A outer s H E hr=>yq3 h_q7 (by decide) h_q9 (by decide) z_len z_max z_sum hr) wr3
 have h_q5:Cal l.prog w K mg base (2) "_law_is_picture" ["found", "due"] xp0:=sd0 F_q5 m_q5 b_q5 sc_q5 (by rintro _ _ _ ⟨_,rfl,_⟩; rfl) (k:=1) (λ cdv A outer s H E hr=>zq3 h_q12 (by decide) z_all z_isinstance z_len z_tuple hr) vr3
 exact ys1 F_q16 sc_q16 (by rintro _ _ _ ⟨_,rfl,_⟩; rfl) (k:=5) (λ cdv A outer s H E hr=>xz2 h_q1 (by decide) h_q2 (by decide) h_q5 (by decide) h_q6 (by decide) h_q7 (by decide) h_q8 (by decide) h_q9 (by decide) h_q11 (by decide) h_q12 (by decide) h_q17 (by decide) h_q18 (by decide) h_q22 (by decide) z_all z_isinstance z_len z_list z_range z_tuple z_zip hr) tb3
theorem walk {l:PySem.W.OpenLaw} {q:Program} {loose:List Str} {XP:(Str->Option Value)->Heap->Prop} {YP:World->Heap->Prop} {d:DefRec} {K:Params->Fg} (hn:l.most=some 63) (hdf:d.params.defaults=[])
    (hY:∀ (w:World) (h:Heap),YP w h->(K w.params).In h)
    (F:∀ (w:World) (mg:Str->Option Value) (fa:Addr) (h:Heap),(K w.params).In h->h.Ns mainGlobals mg->mg d.name=some (.ref fa) ->
     ∃ fd:FuncData,(∀ (s:Shared) (u:Value),BindsTo s fd ⟨[u],[]⟩ [("script",u)]) /\ ∀ base:Heap,(K w.params).In base->base.Ns mainGlobals mg->FnOk l.prog w (K w.params) mg base CX0 6 fa fd ["script"] (lift (K w.params) ux1)) :
    PySem.W.WalkO q loose XP YP l.row.toRowW d [] (λ f vs=>PySem.call f vs) :=
 L2.walk_of (n:=63) (k:=6) (x := "script") (CX:=λ _=>CX0) (sp:=λ w=>lift (K w.params) ux1) hn (by decide) hdf ⟨rfl,by decide,by decide⟩ hY F (λ _ _ a ns hl hO hS=>wa2 hO hS ⟨ns,rfl,hl,λ _=>rfl⟩) λ _ _ _ _ _ z=>z
end Pv
open PySem PySem.W PyProof.Rows
set_option maxRecDepth 100000 in
set_option maxHeartbeats 0 in
theorem PySem.Challenge.cw_penwright_k25_pieces_and_odd_points_holds : PySem.Challenge.rw_penwright_k25_pieces_and_odd_points.Holds := by
 w_on
 refine PySem.W.holds_law Pv.h_said λ said=>?_
 refine PySem.W.holds_open (YP:=PySem.W.Hook.says (PySem.W.kHook Pv.KK Pv.KA Pv.ke)) Pv.h_left (PySem.W.Hook.of (PySem.W.kHook Pv.KK Pv.KA Pv.ke)) (PySem.W.Hook.keeps (PySem.W.kHook Pv.KK Pv.KA Pv.ke)) (λ s e=>PySem.W.xl_of s (Bool.and_eq_true_iff.mp e).1) PySem.W.XL.keeps (by rfl) (by rfl) (by rfl) (λ s e=>PySem.W.recFacts_of (Bool.and_eq_true_iff.mp e).2) (by rfl) said (by decide +kernel) ⟨rfl,rfl,rfl,rfl,rfl,by decide +kernel⟩ ?hw ?hc
 case hw=>w_witness2
 k_fill
 refine Pv.walk (l:=PySem.Challenge.rw_penwright_k25_pieces_and_odd_points) rfl rfl (λ w h Y=>PySem.W.kIn_of Y) ?F
 case F =>
  intro w mg fa h KX G hmg
  refine' Pv.all_mk KX G hmg ?a_q13 ?A_q13 ?a_q14 ?A_q14 ?a_q15 ?A_q15 ?a_q18 ?A_q18 ?a_q20 ?A_q20 ?a_q19 ?A_q19 ?a_q21 ?A_q21 ?a_q17 ?A_q17 ?a_q22 ?A_q22 ?a_q23 ?A_q23 ?a_q0 ?A_q0 ?a_q12 ?A_q12 ?a_q11 ?A_q11 ?a_q1 ?A_q1 ?a_q8 ?A_q8 ?a_q2 ?A_q2 ?a_q3 ?A_q3 ?a_q10 ?A_q10 ?a_q9 ?A_q9 ?a_q7 ?A_q7 ?a_q6 ?A_q6 ?a_q5 ?A_q5 ?a_q16 ?A_q16 ?e_WAYS ?ql_1 ?zz_all ?zz_bool ?zz_int ?zz_isinstance ?zz_len ?zz_list ?zz_max ?zz_min ?zz_range ?zz_sorted ?zz_sum ?zz_tuple ?zz_zip
  (case e_WAYS | ql_1 | zz_all | zz_bool | zz_int | zz_isinstance | zz_len | zz_list | zz_max | zz_min | zz_range | zz_sorted | zz_sum | zz_tuple | zz_zip=>k_is)
  (case a_q13 | a_q14 | a_q15 | a_q18 | a_q20 | a_q19 | a_q21 | a_q17 | a_q22 | a_q23 | a_q0 | a_q12 | a_q11 | a_q1 | a_q8 | a_q2 | a_q3 | a_q10 | a_q9 | a_q7 | a_q6 | a_q5 | a_q16=>(show _=_; k_is))
  (case A_q13 | A_q14 | A_q15 | A_q18 | A_q20 | A_q19 | A_q21 | A_q17 | A_q22 | A_q23 | A_q0 | A_q12 | A_q11 | A_q1 | A_q8 | A_q2 | A_q3 | A_q10 | A_q9 | A_q7 | A_q6 | A_q5 | A_q16=>(refine' Pv.fnA_mk ?l ?c ?k; (case l=>k_is); (case c=>k_is); (case k=>k_is)))
