import PyProof.Rows.All
import Wide.All
import OpenK.AllK
import Wide.FinOn
import Lean
import PyProof.EqAt
import PyProof.EqKinds
import PyProof.TupleCall
import PyProof.P3Statements
import KE.KIntText
import KE.KSortTup
import KE.KDictSum
import PySem.Challenge.RW_penwright_k62_whole_how_many_rooms
open List(length_map length_append getElem?_eq_getElem length_cons append_assoc map_cons getElem?_append_right mem_singleton mem_append_right append_nil length_take size_toArray getD_eq_getElem?_getD mem_cons_of_mem getElem?_map map_map mem_cons_self mem_append_left pairwise_singleton length_nil take_append_drop map_append mem_of_getElem? getElem_mem mem_cons getElem?_append_left length_singleton nil_append getElem?_take_of_lt flatten_cons length_reverse mem_append getElem?_cons_succ any_cons take_zero take_of_length_le find?_cons nodup_nil replicate_succ length_drop mem_of_mem_take nodup_append mem_map_of_mem filter_cons mem_filter lookup_cons drop_sublist getElem?_drop drop_eq_nil_of_le mem_map filterMap_cons take_sublist foldl_cons mem_of_mem_drop ext_getElem? not_mem_nil map_nil reverse_perm cons_append length_range nodup_cons mem_flatMap)
open Array(length_toList getElem?_toList toList_append getElem?_eq_none toList_push toList_extract size_map)
set_option Elab.async false
set_option linter.all false
set_option maxRecDepth 100000
set_option maxHeartbeats 4000000
open PySem.W (fnOf kHook methodObj findIn keepIn cellsFrom_some codeIn nsIn mg_of mg_none_of)
open PySem.F (slot_tuple_add entry_tuple_add args_tuple_add_2 slot_dict_get slot_dict_pop type_dict_pop)
noncomputable section
set_option compiler.extract_closed false
set_option hygiene false
local macro_rules|`([1])=>`(by omega)|`([2])=>`(Value->Shared->Prop)|`([3])=>`(⟨rfl,rfl,rfl,by decide +kernel,rfl,by decide +kernel,by decide +kernel⟩)|`([4])=>`(model prog w)|`([5])=>`(Inv X pins σ H s)|`([6])=>`(List (Addr × Obj))|`([7])=>`(SetTable.insertAt es (t.put sl).2 (hashInt k,Value.int k tk))|`([8])=>`(model X.prog X.w)|`([9])=>`(zd0 X NN scope cl C fp s₀ H₀ pn)|`([10])=>`(.ListComp elt [⟨target,iter,ifs,0⟩] scope pos)|`([11])=>`(vd0 q_ix (ya0 0) ua0)|`([12])=>`(c3 (.int 1))|`([13])=>`(by decide +kernel)|`([14])=>`(o3 ixR (v3 0) (c3 (.int 0)))|`([15])=>`(List (List Key × V))|`([16])=>`(List (List Int × D))|`([17])=>`((e :: es).length + ([]:List Keyword).length + (if ([]:List Keyword).isEmpty then 0 else 1) < 30)|`([18])=>`(Nat.le_refl _)|`([19])=>`(((s.heap.push (seqObj "list" #[] 0)).update s.heap.objs.size (Obj.mapSeq (· ++ vs.toArray))))|`([20])=>`(by decide)|`([21])=>`(seq3 (asg3 (c3 (.int 0)) (sub3 (v3 0) [12])) (seq3 (asg3 (o3 modR (o3 addR (o3 mulR [14] (c3 (.int 48271))) (c3 (.int 69621))) (c3 (.int 2147483647))) (sub3 (v3 0) (c3 (.int 0)))) (seq3 (set3 3 (o3 modR (o3 addR (o3 mulR [14] [14]) (o3 mulR (c3 (.int 16807)) [14])) (c3 (.int 2147483629)))) (seq3 (set3 3 (o3 modR (o3 addR (o3 mulR (v3 3) (v3 3)) (o3 mulR (c3 (.int 39373)) (v3 3))) (c3 (.int 2147483587)))) (ret3 (o3 modR (o3 ww1 (v3 3) (c3 (.int 8))) (v3 1)))))))|`([22])=>`(is3 (lst3 (za0 (tup3 (za0 (tup3 (za0 (o3 addR (v3 6) [12]) (za0 (v3 7) nil3))) (za0 (tup3 (za0 (o3 addR (v3 6) [12]) (za0 (v3 7) (za0 [12] nil3)))) nil3))) (za0 (tup3 (za0 (tup3 (za0 (v3 6) (za0 (o3 addR (v3 7) [12]) nil3))) (za0 (tup3 (za0 (v3 6) (za0 (o3 addR (v3 7) [12]) (za0 (c3 (.int 0)) nil3)))) nil3))) (za0 (tup3 (za0 (tup3 (za0 (o3 subR (v3 6) [12]) (za0 (v3 7) nil3))) (za0 (tup3 (za0 (v3 6) (za0 (v3 7) (za0 [12] nil3)))) nil3))) nil3)))))|`([23])=>`(List Value)|`([24])=>`(by simp)|`([25])=>`(.tup (ts.map encT))|`([26])=>`(Cm prog w A s κ lt M)|`([27])=>`(vs.toArray.zip vs.toArray)|`([28])=>`(seq3 (set3 7 (vc0 xu2 (za0 (o3 dgR (v3 1) (tup3 (za0 (v3 4) (za0 (v3 5) nil3)))) (za0 (o3 dgR (v3 1) (tup3 (za0 (o3 subR (o3 addR (v3 4) [12]) (v3 6)) (za0 (o3 addR (v3 5) (v3 6)) nil3)))) nil3)))) (seq3 (wr0 (v3 1) (tup3 (za0 (v3 4) (za0 (v3 5) nil3))) (v3 7)) (wr0 (v3 1) (tup3 (za0 (o3 subR (o3 addR (v3 4) [12]) (v3 6)) (za0 (o3 addR (v3 5) (v3 6)) nil3))) (v3 7))))|`([29])=>`(wpAny_pure ?_)|`([30])=>`((false,eval e X.env))|`([31])=>`(∀ sl wd,k ∉ xs.map (·.1)->sl ∉ t.place.toList->(∃ m,tr t.mask (hf k) m=sl /\ ∀ l,l < m->Occ t (tr t.mask (hf k) l))->(wd=true->t.slot sl=.dummy)->Q (.free sl wd) s)|`([32])=>`({ s with heap:=h',toks:=tk })|`([33])=>`(List Keyed)|`([34])=>`(Option Nat)|`([35])=>`({ cls:=.type "range",data:=.fields #[.int lo t,.int hi u,.int 1 v] })|`([36])=>`({ cls:=.type "list",dict:=none,data:=.seq ([]:List Value).toArray })|`([37])=>`(wpAny_setState_of S.ho S.hd S.fits ?_)
theorem Z0:4<=PySem.sizeLine:=by decide
namespace L2
open PySem PySem.Spec PyProof.Rows
def xj0 (s:Stmt):Arguments:=match s with
 | .FunctionDef _ a _ _ _ _ _ _ _ _=>a
 | _=>{ posonlyargs:=[],args:=[],vararg:=none,kwonlyargs:=[],kw_defaults:=[],kwarg:=none,defaults:=[] }
def wc0 (s:Stmt):List Stmt:=match s with
 | .FunctionDef _ _ b _ _ _ _ _ _ _=>b
 | _=>[]
def sa0 (s:Stmt):Scope:=match s with
 | .FunctionDef _ _ _ _ _ _ sc _ _ _=>sc
 | _=>{ kind:=.function,names:=[],isGenerator:=false,isCoroutine:=false }
end L2
namespace Pv
open PySem PySem.Spec PyProof.Rows L2
noncomputable def top (i:Nat):Stmt:=PySem.Challenge.pw_penwright_k62_whole_how_many_rooms.main.body.getD i (.Pass ⟨0,0,0,0⟩)
abbrev s_q6:Stmt:=top 6
abbrev s_q8:Stmt:=top 7
abbrev s_q9:Stmt:=top 8
abbrev vl1:Stmt:=top 9
abbrev wl1:Stmt:=top 12
abbrev s_q7:Stmt:=top 13
abbrev s_q5:Stmt:=top 14
abbrev yl1:Stmt:=top 15
abbrev ul1:Stmt:=top 16
abbrev zl1:Stmt:=top 17
abbrev s_q3:Stmt:=top 19
abbrev s_q4:Stmt:=top 20
abbrev s_q1:Stmt:=top 21
abbrev s_q0:Stmt:=top 22
abbrev s_q2:Stmt:=top 23
abbrev xr0:Stmt:=top 24
abbrev vb:Value:=.bool true
abbrev vi:Value:=.int 181 0
noncomputable def en (P:Params) (x:Str) (t:Tok) (v:Value):DictEntry:=⟨PyData.keyHash P x,.str x t,v⟩
noncomputable def fo (x y:Str) (st:Stmt) (m c:Value):Obj:=⟨.type "function",none,.func (fnOf x y (xj0 st) (wc0 st) (sa0 st) .none .none .none m none c .none),#[]⟩
noncomputable def co (x:Str) (a:Tok) (y:Str) (b c:Tok) (ns:List Int) (vs:[23]) (d e:Int) (f:Tok):Obj:=⟨.type "code",none,.fields (.str x a :: .str y b :: .str "/claim/cut.py" c :: (ns.map (λ n=>Value.int n 0) ++ (vs ++ [.int d 0,.int e 0,.str "/claim/cut.py" f]))).toArray,#[]⟩
noncomputable def tO (vs:[23]):Obj:=⟨.type "tuple",none,.seq vs.toArray 0,#[]⟩
abbrev z0:Value:=.str "law_penwright_k62_whole_how_many_rooms" 328
def z6 (x:Str) (s:Stmt) (c:Addr):Obj:=fo x x s z0 (.ref c)
def z7 (x:Str) (a:Tok):=co x a x
def z8 (P:Params) (x:Str) (t:Tok) (a:Addr):DictEntry:=en P x t (.ref a)
def Z1 (x:Str):=fo x x
abbrev Z2:Value:=.str "penwright.errors" 187
abbrev Z3:Value:=.str "penwright.pictures" 239
abbrev Z4:Value:=.str "penwright.rooms" 273
noncomputable def KK:PySem.Params->PySem.W.Frag:=λ P=>(nat_lit 2,⟨.none,none,.dict #[] 0,#[]⟩) :: (nat_lit 3,⟨.type "dict",none,.dict #[en P "__name__" 165 z0,en P "__doc__" 166 (.none),en P "__package__" 167 (.none),en P "__loader__" 168 (.builtin "__main__.__loader__#opaque"),en P "__spec__" 169 (.none),z8 P "__annotations__" 170 6,z8 P "__builtins__" 171 4,en P "__file__" 173 (.str "/claim/cut.py" 172),en P "__cached__" 174 (.none),z8 P "PenError" 206 24,z8 P "NoPicture" 222 37,z8 P "NoRoom" 238 49,z8 P "WAYS" 243 52,z8 P "check_picture" 252 59,z8 P "check_stroke" 259 66,z8 P "ends_of" 266 73,z8 P "picture_box" 272 78,en P "MOST_CELLS" 276 (.int 2500 275),z8 P "rooms_of" 282 83,z8 P "check_size" 289 90,z8 P "cells_round" 295 95,z8 P "take_cells" 308 102,z8 P "neighbours_of" 314 107,z8 P "sides_of_cell" 327 114,z8 P "_law_state" 338 121,z8 P "_law_take" 348 128,z8 P "_law_lines" 364 135,z8 P "_law_ends" 376 142,z8 P "_law_pieces" 382 147,z8 P "law" 398 154] 30,#[]⟩) :: (nat_lit 6,⟨.type "dict",none,.dict #[] 0,#[]⟩) :: (nat_lit 15,tO [.type "ValueError"]) :: (nat_lit 22,tO []) :: (nat_lit 23,⟨.type "dict",none,.dict #[en P "__module__" 196 Z2,en P "__firstlineno__" 200 (.int 2 199),z8 P "__static_attributes__" 201 22,z8 P "__weakref__" 203 25,en P "__doc__" 204 (.none)] 3,#[]⟩) :: (nat_lit 24,⟨.type "type",none,.cls ⟨"PenError",[.type "ValueError"],[.ref 24,.type "ValueError",.type "Exception",.type "BaseException",.type "object"],23, "PenError",true,[],[.ref 37,.ref 49],false,none,false⟩,#[some (.ref 15),none,some (.str "PenError" 189),some (.str "PenError" 197),some (.builtin "ValueError.__new__"),some (.bool true)]⟩) :: (nat_lit 25,⟨.type "getset_descriptor",none,.fields #[.str "__weakref__" 202,.ref 24,.builtin "ExceptionGroup.__weakref__",.none],#[]⟩) :: (nat_lit 28,tO [.ref 24]) :: (nat_lit 35,tO []) :: (nat_lit 36,⟨.type "dict",none,.dict #[en P "__module__" 214 Z2,en P "__firstlineno__" 218 (.int 4 217),z8 P "__static_attributes__" 219 35,en P "__doc__" 220 (.none)] 2,#[]⟩) :: (nat_lit 37,⟨.type "type",none,.cls ⟨"NoPicture",[.ref 24],[.ref 37,.ref 24,.type "ValueError",.type "Exception",.type "BaseException",.type "object"],36, "NoPicture",true,[],[],false,none,false⟩,#[some (.ref 28),none,some (.str "NoPicture" 207),some (.str "NoPicture" 215),some (.builtin "ValueError.__new__"),some (.bool true)]⟩) :: (nat_lit 40,tO [.ref 24]) :: (nat_lit 47,tO []) :: (nat_lit 48,⟨.type "dict",none,.dict #[en P "__module__" 230 Z2,en P "__firstlineno__" 234 (.int 6 233),z8 P "__static_attributes__" 235 47,en P "__doc__" 236 (.none)] 2,#[]⟩) :: (nat_lit 49,⟨.type "type",none,.cls ⟨"NoRoom",[.ref 24],[.ref 49,.ref 24,.type "ValueError",.type "Exception",.type "BaseException",.type "object"],48, "NoRoom",true,[],[],false,none,false⟩,#[some (.ref 40),none,some (.str "NoRoom" 223),some (.str "NoRoom" 231),some (.builtin "ValueError.__new__"),some (.bool true)]⟩) :: (nat_lit 52,tO [.int 0 241,.int 1 242]) :: (nat_lit 58,z7 "check_picture" 244 245 246 [10,1,0,0,3] [.ref 53,vb,vi,.ref 54,.none,.ref 55,.ref 56,.ref 57] 250 10 251) :: (nat_lit 59,Z1 "check_picture" s_q6 Z3 (.ref 58)) :: (nat_lit 65,z7 "check_stroke" 253 254 255 [16,1,0,0,3] [.ref 60,vb,vi,.ref 61,.none,.ref 62,.ref 63,.ref 64] 257 16 258) :: (nat_lit 66,Z1 "check_stroke" s_q8 Z3 (.ref 65)) :: (nat_lit 72,z7 "ends_of" 260 261 262 [19,1,0,0,3] [.ref 67,vb,vi,.ref 68,.none,.ref 69,.ref 70,.ref 71] 264 19 265) :: (nat_lit 73,Z1 "ends_of" s_q9 Z3 (.ref 72)) :: (nat_lit 77,z7 "picture_box" 267 268 269 [23,1,0,0,3] [.ref 74,vb,vi,.ref 75,.none,.none,.none,.ref 76] 270 23 271) :: (nat_lit 78,Z1 "picture_box" vl1 Z3 (.ref 77)) :: (nat_lit 82,z7 "rooms_of" 277 278 279 [32,1,0,0,3] [.ref 79,vb,vi,.ref 80,.none,.none,.none,.ref 81] 280 32 281) :: (nat_lit 83,Z1 "rooms_of" wl1 Z4 (.ref 82)) :: (nat_lit 89,z7 "check_size" 283 284 285 [46,1,0,0,3] [.ref 84,vb,vi,.ref 85,.none,.ref 86,.ref 87,.ref 88] 287 46 288) :: (nat_lit 90,Z1 "check_size" s_q7 Z4 (.ref 89)) :: (nat_lit 94,z7 "cells_round" 290 291 292 [49,1,0,0,3] [.ref 91,vb,vi,.ref 92,.none,.none,.none,.ref 93] 293 49 294) :: (nat_lit 95,Z1 "cells_round" s_q5 Z4 (.ref 94)) :: (nat_lit 101,z7 "take_cells" 296 297 298 [54,3,0,0,3] [.ref 96,vb,vi,.ref 97,.none,.ref 98,.ref 99,.ref 100] 306 54 307) :: (nat_lit 102,Z1 "take_cells" yl1 Z4 (.ref 101)) :: (nat_lit 106,z7 "neighbours_of" 309 310 311 [66,2,0,0,3] [.ref 103,vb,vi,.ref 104,.none,.none,.none,.ref 105] 312 66 313) :: (nat_lit 107,Z1 "neighbours_of" ul1 Z4 (.ref 106)) :: (nat_lit 113,z7 "sides_of_cell" 315 316 317 [68,1,0,0,3] [.ref 108,vb,vi,.ref 109,.none,.ref 110,.ref 111,.ref 112] 325 68 326) :: (nat_lit 114,Z1 "sides_of_cell" zl1 Z4 (.ref 113)) :: (nat_lit 120,z7 "_law_state" 330 331 332 [77,2,0,0,3] [.ref 115,vb,vi,.ref 116,.none,.ref 117,.ref 118,.ref 119] 336 77 337) :: (nat_lit 121,z6 "_law_state" s_q3 120) :: (nat_lit 127,z7 "_law_take" 339 340 341 [84,2,0,0,3] [.ref 122,vb,vi,.ref 123,.none,.ref 124,.ref 125,.ref 126] 346 84 347) :: (nat_lit 128,z6 "_law_take" s_q4 127) :: (nat_lit 134,z7 "_law_lines" 349 350 351 [94,2,0,0,3] [.ref 129,vb,vi,.ref 130,.none,.ref 131,.ref 132,.ref 133] 362 94 363) :: (nat_lit 135,z6 "_law_lines" s_q1 134) :: (nat_lit 141,z7 "_law_ends" 365 366 367 [108,1,0,0,3] [.ref 136,vb,vi,.ref 137,.none,.ref 138,.ref 139,.ref 140] 374 108 375) :: (nat_lit 142,z6 "_law_ends" s_q0 141) :: (nat_lit 146,z7 "_law_pieces" 377 378 379 [114,1,0,0,3] [.ref 143,vb,vi,.ref 144,.none,.none,.none,.ref 145] 380 114 381) :: (nat_lit 147,z6 "_law_pieces" s_q2 146) :: (nat_lit 153,z7 "law" 383 384 385 [124,1,0,0,3] [.ref 148,vb,vi,.ref 149,.none,.ref 150,.ref 151,.ref 152] 396 124 397) :: (nat_lit 154,z6 "law" xr0 153) :: []
noncomputable def KA:List Addr:=[2,3,6,15,22,23,24,25,28,35,36,37,40,47,48,49,52,58,59,65,66,72,73,77,78,82,83,89,90,94,95,101,102,106,107,113,114,120,121,127,128,134,135,141,142,146,147,153,154]
theorem ke:∀ P,KA=(KK P).map (·.1):=λ _=>by kernel_rfl
noncomputable def vw:Program:={ PySem.Challenge.pw_penwright_k62_whole_how_many_rooms with main:={ PySem.Challenge.pw_penwright_k62_whole_how_many_rooms.main with body:=[top 1,top 2,top 3,top 5,top 6,top 7,top 8,top 9,top 11,top 12,top 13,top 14,top 15,top 16,top 17,top 19,top 20,top 21,top 22,top 23,top 24] } }
theorem h_said:PySem.Challenge.rw_penwright_k62_whole_how_many_rooms.wellSaid=true:=by kernel_rfl
theorem h_left:PySem.W.LeftO (PySem.W.OpenLaw.row PySem.Challenge.rw_penwright_k62_whole_how_many_rooms).prog vw [] (λ s=>PySem.W.xlAt vw [] s && PySem.W.recOk (PySem.W.RowW.records (PySem.W.OpenRow.toRowW (PySem.W.OpenLaw.row PySem.Challenge.rw_penwright_k62_whole_how_many_rooms))) s) (PySem.W.Hook.obs (kHook KK KA ke)) (PySem.W.Hook.val (kHook KK KA ke)) 2446:=by
 intro w
 delta PySem.W.openEnds PySem.W.fencedOpening PySem.W.topFrom
 rw [PySem.W.Fast.te14082659384304107361,PySem.W.Fast.te10274390034422433532,PySem.W.Fast.te14289696077712309145,PySem.W.Fast.te1435165496053646825,PySem.W.Fast.te14364793385576792824,PySem.W.Fast.te4187177175401517315]
 kernel_rfl
end Pv
namespace L2
open PySem PySem.Spec PyProof.Rows
abbrev Key:=Sum Int Str
def tm1:Key->Value->Bool
 | .inl k,v=>Value.isInt k v
 | .inr x,v=>Value.isStrOf x v
def keyH (w:World):Key->Int
 | .inl k=>hashInt k
 | .inr x=>hashStr w x
theorem ud0:∀ {k:Key} {v:Value},tm1 k v=true->(∃ i t,k=Sum.inl i /\ v=Value.int i t) \/ (∃ x t,k=Sum.inr x /\ v=Value.str x t)
 | .inl i,v,h=>by
  obtain ⟨t,e⟩:=Value.isInt_shape (k:=i) (v:=v) h;exact .inl ⟨i,t,rfl,e⟩
 | .inr x,v,h=>by
  obtain ⟨t,e⟩:=Value.isStrOf_shape (x:=x) (v:=v) h;exact .inr ⟨x,t,rfl,e⟩
theorem zt1 (i:Int) (t:Tok):tm1 (.inl i) (.int i t)=true:=by simp [tm1,Value.isInt]
theorem yt1 (x:Str) (t:Tok):tm1 (.inr x) (.str x t)=true:=by simp [tm1,Value.isStrOf]
theorem vk3 (a b:Int):decide ((Sum.inl a:Key)=Sum.inl b)=(a == b):=by
 by_cases e:a=b
 ·subst e; simp
 ·have h:¬ (Sum.inl a:Key)=Sum.inl b:=λ q=>e (Sum.inl.inj q);rw [decide_eq_false h];exact (beq_eq_false_iff_ne.mpr e).symm
theorem yk3 (a b:Str):decide ((Sum.inr a:Key)=Sum.inr b)=decide (a=b):=by
 by_cases e:a=b
 ·subst e; simp
 ·have h:¬ (Sum.inr a:Key)=Sum.inr b:=λ q=>e (Sum.inr.inj q);rw [decide_eq_false h,decide_eq_false e]
theorem wk3 (a:Int) (b:Str):decide ((Sum.inl a:Key)=Sum.inr b)=false:=decide_eq_false (λ q=>nomatch q)
theorem zk3 (a:Str) (b:Int):decide ((Sum.inr a:Key)=Sum.inl b)=false:=decide_eq_false (λ q=>nomatch q)
def zc0 (prog:Program) (w:World):PySem.KeyKind prog w Key where
 is:=tm1
 hash:=keyH w
 inj:=λ v a b ha hb=>by
  rcases ud0 ha with ⟨i,t,rfl,rfl⟩ | ⟨x,t,rfl,rfl⟩
  ·rcases ud0 hb with ⟨j,u,rfl,e⟩ | ⟨y,u,rfl,e⟩
   ·injection e with e1 _; rw [e1]
   ·exact nomatch e
  ·rcases ud0 hb with ⟨j,u,rfl,e⟩ | ⟨y,u,rfl,e⟩
   ·exact nomatch e
   ·injection e with e1 _; rw [e1]
 byValue:=λ k v h=>by
  rcases ud0 h with ⟨i,t,rfl,rfl⟩ | ⟨x,t,rfl,rfl⟩ <;> rfl
 pyHash:=λ hv h=>by
  rcases ud0 hv with ⟨i,t,rfl,rfl⟩ | ⟨x,t,rfl,rfl⟩
  ·exact wpAny_pyHash_int h
  ·exact wpAny_pyHash_str h
 eqBool:=λ hu hv h=>by
  rcases ud0 hu with ⟨i,t,rfl,rfl⟩ | ⟨x,t,rfl,rfl⟩
  ·rcases ud0 hv with ⟨j,u,rfl,rfl⟩ | ⟨y,u,rfl,rfl⟩
   ·rw [vk3] at h; exact wpAny_eqBool_int h
   ·rw [wk3] at h; exact SeqAt.EqAt.int_str i t y u _ _ _ _ h
  ·rcases ud0 hv with ⟨j,u,rfl,rfl⟩ | ⟨y,u,rfl,rfl⟩
   ·rw [zk3] at h; exact SeqAt.EqAt.str_int x t j u _ _ _ _ h
   ·rw [yk3] at h; exact wpAny_eqBool_str h
 «strs» := λ k x t v h=>by
  rcases ud0 h with ⟨i,u,rfl,e⟩ | ⟨y,u,rfl,e⟩
  ·exact nomatch e
  ·injection e with e1 _
   subst e1;cases v <;> rfl
theorem sd1 (prog:Program) (w:World) (i:Int) (t:Tok):(zc0 prog w).is (.inl i) (.int i t)=true:=zt1 i t
theorem td1 (prog:Program) (w:World) (x:Str) (t:Tok):(zc0 prog w).is (.inr x) (.str x t)=true:=yt1 x t
inductive V where
 | non | bl (b:Bool) | int (i:Int) | str (x:Str) | byt (b:Array UInt8) | flt (b:UInt64) | ref (a:Addr) | ty (n:String)
 deriving DecidableEq
def RelV:V->Value->Prop
 | .non,u=>u=Value.none
 | .bl b,u=>u=Value.bool b
 | .int i,u=>∃ t,u=Value.int i t
 | .str x,u=>∃ t,u=Value.str x t
 | .byt b,u=>∃ t,u=Value.bytes b t
 | .flt b,u=>∃ t,u=Value.float b t
 | .ref a,u=>u=Value.ref a
 | .ty n,u=>u=Value.type n
abbrev Vals:List V->List Value->Prop:=Paired RelV
theorem Vals.length {xs:List V} {us:[23]} (r:Vals xs us):xs.length=us.length:=Paired.length r
theorem Vals.get:∀ {xs:List V} {us:[23]} {i:Nat} {x:V},Vals xs us->xs[i]?=some x->∃ u,us[i]?=some u /\ RelV x u
 | _,_,_,_,.nil,e=>by simp at e
 | _,_,0,_,.cons r _,e=>by simp at e; subst e; exact ⟨_,rfl,r⟩
 | _,_,i + 1,x,.cons _ t,e=>by
  obtain ⟨u,h1,h2⟩:=Vals.get (i:=i) (x:=x) t (by simpa using e);exact ⟨u,by simpa using h1,h2⟩
theorem Vals.set {x:V} {u:Value} (r:RelV x u):∀ {xs:List V} {us:[23]} (i:Nat),Vals xs us->Vals (xs.set i x) (us.set i u)
 | _,_,_,.nil=>.nil
 | _,_,0,.cons _ t=>.cons r t
 | _,_,i + 1,.cons q t=>.cons q (Vals.set r i t)
theorem Vals.append:∀ {xs ys:List V} {us ws:[23]},Vals xs us->Vals ys ws->Vals (xs ++ ys) (us ++ ws)
 | _,_,_,_,.nil,s=>s
 | _,_,_,_,.cons r t,s=>.cons r (Vals.append t s)
def RelO:Option V->Option Value->Prop
 | some v,some u=>RelV v u
 | none,none=>True
 | _,_=>False
def kV:Key->V
 | .inl i=>.int i
 | .inr x=>.str x
inductive HO where
 | lst (xs:List V)
 | tup (xs:List V)
 | dK (kvs:List (List Key × V)) | dT (kvs:List (List Key × V))
 | set (S:Int->Bool) (n:Nat)
 | ins (C dx:Addr) (fs:List (Str × V))
 | own (x:Addr)
 | xd (fs:List (Str × V))
 | met (f x:Addr)
 | rng (lo hi:Int)
 | frz (o:Obj) (u:HO)
 | tbl (ps:Array Value)
 | ext (φ:Heap->Prop)
abbrev Hp:=Addr->Option HO
def upd (H:Hp) (a:Addr) (o:HO):Hp:=λ b=>if b=a then some o else H b
theorem ve0 {H:Hp} {a:Addr} {o:HO}:upd H a o a=some o:=by unfold upd; rw [if_pos rfl]
theorem vb0 {H:Hp} {a b:Addr} {o:HO} (h:b ≠ a):upd H a o b=H b:=by unfold upd; rw [if_neg h]
theorem sy0 {H:Hp} {a b:Addr} {o u:HO} (h:H a=some o) (h':H b=some u) (d:o ≠ u):a ≠ b:=by
 intro e; subst e; rw [h] at h'; exact d (Option.some.inj h')
theorem xf0 {H:Hp} {a b:Addr} {o:HO} (h:H a=some o) (h':H b=none):a ≠ b:=by
 intro e; subst e; rw [h] at h'; cases h'
section
variable (P:Program) (w:World)
def ObjOk (H:Hp) (h:Heap) (a:Addr):HO->Prop
 | .lst xs=>xs.length<=sizeLine /\ ∃ (its:[23]) (n:Nat),Vals xs its /\ h.get? a=some { cls:=.type "list",data:=.seq its.toArray n }
 | .tup xs=>xs.length<=sizeLine /\ ∃ its:List Value,Vals xs its /\ IsTup h a its.toArray
 | .dK kvs=>kvs.length<=sizeLine /\ (a == sysModules)=false /\ ∃ xs:List (List Key × Addr × Value),
     Paired (λ (p:List Key × V) (q:List Key × Addr × Value)=>p.1=q.1 /\ H q.2.1=some (.tup (p.1.map kV)) /\ RelV p.2 q.2.2) kvs xs ∧
     ∃ o es ep,h.get? a=some o /\ o.ExactDict /\ o.data=.dict es ep /\ es.toList=xs.map (entryOfKey (tupleKind (zc0 P w))) /\ (xs.map (·.1)).Nodup
 | .dT kvs=>kvs.length<=sizeLine /\ (a == sysModules)=false /\ ∃ xs:List (List Key × Addr × Value),
     Paired (λ (p:List Key × V) (q:List Key × Addr × Value)=>p.1=q.1 /\ H q.2.1=some (.tup (p.1.map kV)) /\ RelV p.2 q.2.2) kvs xs ∧
     ∃ o es ep,h.get? a=some o /\ o.ExactDict /\ o.data=.dict es ep /\ es.toList=xs.map (entryOfKey (tupleKind (zc0 P w))) /\ (xs.map (·.1)).Nodup /\ ep=kvs.length
 | .set S n=>h.SetOf (intKind P w) a S n
 | .ins C dx fs=>H dx=some (.own a) /\ fs.length<=1000 /\ dx ≠ a /\ h.get? a=some (PySem.W.instObj C dx) ∧
     ∃ mA,h.Ns1 dx mA /\ (∀ f,RelO (fs.lookup f) (mA f)) /\ PySem.Within mA (fs.map (·.1))
 | .own _=>∃ o,h.get? a=some o
 | .xd fs=>∃ mA,h.Ns1 a mA /\ ∀ f,RelO (fs.lookup f) (mA f)
 | .rng lo hi=>∃ t u v,h.get? a=some [35]
 | .frz o u=>h.get? a=some o /\ ObjOk H h a u
 | .tbl ps=>h.get? a=some { cls:=.none,data:=.fields ps }
 | .met f x=>h.get? a=some (methodObj (.ref f) (.ref x))
 | .ext φ=>φ h /\ (∃ o,h.get? a=some o) /\ ∀ h1 h2:Heap,φ h1->(∀ o,h1.get? a=some o->h2.get? a=some o)->φ h2
def HOk (H:Hp) (h:Heap):Prop:=∀ a o,H a=some o->ObjOk P w H h a o
end
section
variable {P:Program} {w:World} {H H':Hp} {h h':Heap} {a:Addr} {o:HO}
theorem ObjOk.lt (x:ObjOk P w H h a o):a < h.objs.size:=by
 cases o with
 | lst xs=>obtain ⟨_,_,_,_,e⟩:=x; exact Heap.lt_size e
 | tup xs=>obtain ⟨_,_,_,p⟩:=x; exact p.lt
 | dK kvs=>obtain ⟨_,_,_,_,o,_,_,e,_⟩:=x; exact Heap.lt_size e
 | dT kvs=>obtain ⟨_,_,_,_,o,_,_,e,_⟩:=x; exact Heap.lt_size e
 | set S n=>obtain ⟨o,_,_,_,e,_⟩:=x; exact Heap.lt_size e
 | ins C dx fs=>obtain ⟨_,_,_,e,_⟩:=x; exact Heap.lt_size e
 | own y=>obtain ⟨_,e⟩:=x; exact Heap.lt_size e
 | xd fs=>obtain ⟨_,⟨_,_,_,e,_⟩,_⟩:=x; exact Heap.lt_size e
 | rng lo hi=>obtain ⟨_,_,_,e⟩:=x; exact Heap.lt_size e
 | frz ob u=>obtain ⟨e,_⟩:=x; exact Heap.lt_size e
 | tbl ps=>exact Heap.lt_size (show h.get? a=some _ from x)
 | met f y=>exact Heap.lt_size (show h.get? a=some _ from x)
 | ext φ=>obtain ⟨_,⟨_,e⟩,_⟩:=x; exact Heap.lt_size e
theorem Paired.mapP {α β:Type} {F G:α->β->Prop}:∀ {l₁:List α} {l₂:List β},Paired F l₁ l₂->(∀ a b,F a b->G a b)->Paired G l₁ l₂
 | _,_,.nil,_=>.nil
 | _,_,.cons r t,f=>.cons (f _ _ r) (Paired.mapP t f)
theorem ObjOk.stay (x:ObjOk P w H h a o) (k:∀ b u,(b=a \/ H b=some (.own a))->h.get? b=some u->h'.get? b=some u)
    (ho:∀ b,H b=some (.own a)->H' b=some (.own a)) (ht:∀ b xs,H b=some (.tup xs)->H' b=some (.tup xs)):ObjOk P w H' h' a o:=by
 induction o with
 | lst xs=>obtain ⟨z,its,n,r,e⟩:=x; exact ⟨z,its,n,r,k _ _ (.inl rfl) e⟩
 | tup xs=>obtain ⟨z,its,r,ob,e,c⟩:=x; exact ⟨z,its,r,ob,k _ _ (.inl rfl) e,c⟩
 | dK kvs =>
  obtain ⟨z,y,xs,r,ob,es,ep,e,c⟩:=x;exact ⟨z,y,xs,Paired.mapP r λ p q z=>⟨z.1,ht _ _ z.2.1,z.2.2⟩,ob,es,ep,k _ _ (.inl rfl) e,c⟩
 | dT kvs =>
  obtain ⟨z,y,xs,r,ob,es,ep,e,c⟩:=x;exact ⟨z,y,xs,Paired.mapP r λ p q z=>⟨z.1,ht _ _ z.2.1,z.2.2⟩,ob,es,ep,k _ _ (.inl rfl) e,c⟩
 | set S n=>obtain ⟨ob,es,ep,t,e,c⟩:=x; exact ⟨ob,es,ep,t,k _ _ (.inl rfl) e,c⟩
 | ins C dx fs =>
  obtain ⟨d,z,ne,e,mA,⟨od,es,ep,e2,c⟩,r⟩:=x;exact ⟨ho _ d,z,ne,k _ _ (.inl rfl) e,mA,⟨od,es,ep,k _ _ (.inr d) e2,c⟩,r⟩
 | own y=>obtain ⟨ob,e⟩:=x; exact ⟨ob,k _ _ (.inl rfl) e⟩
 | xd fs=>obtain ⟨mA,⟨od,es,ep,e,c⟩,r⟩:=x; exact ⟨mA,⟨od,es,ep,k _ _ (.inl rfl) e,c⟩,r⟩
 | rng lo hi=>obtain ⟨t,u,v,e⟩:=x; exact ⟨t,u,v,k _ _ (.inl rfl) e⟩
 | frz ob u ih=>obtain ⟨e,q⟩:=x; exact ⟨k _ _ (.inl rfl) e,ih q⟩
 | tbl ps =>
  have e:h.get? a=some { cls:=.none,data:=.fields ps }:=x;show h'.get? a=some { cls:=.none,data:=.fields ps };exact k a _ (.inl rfl) e
 | met f y =>
  have e:h.get? a=some (methodObj (.ref f) (.ref y)):=x;show h'.get? a=some (methodObj (.ref f) (.ref y));exact k a _ (.inl rfl) e
 | ext φ=>obtain ⟨p,⟨o,e⟩,st⟩:=x; exact ⟨st _ _ p λ o q=>k _ _ (.inl rfl) q,⟨o,k _ _ (.inl rfl) e⟩,st⟩
theorem HOk.lt (x:HOk P w H h) (e:H a=some o):a < h.objs.size:=(x a o e).lt
theorem HOk.fresh (x:HOk P w H h) (e:h.objs.size<=a):H a=none:=by
 cases q:H a with
 | none=>rfl
 | some u=>exact absurd (Nat.lt_of_lt_of_le (x.lt q) e) (Nat.lt_irrefl _)
theorem HOk.kept (x:HOk P w H h) (k:∀ b u,h.get? b=some u->h'.get? b=some u):HOk P w H h':=λ a o e =>
 (x a o e).stay (λ b u _ q=>k b u q) (λ _ q=>q) λ _ _ q=>q
theorem HOk.laid (x:HOk P w H h) (k:∀ b u,h.get? b=some u->h'.get? b=some u) (hp:h.objs.size<=a) (new:ObjOk P w (upd H a o) h' a o):HOk P w (upd H a o) h':=λ b u e=>by
 have hn:=x.fresh hp;by_cases hb:b=a
 ·subst hb; rw [ve0] at e; cases e; exact new
 ·rw [vb0 hb] at e;exact (x b u e).stay (λ c v _ q=>k c v q) (λ c q=>by rw [vb0 (xf0 q hn)]; exact q) λ c xs q=>by rw [vb0 (xf0 q hn)]; exact q
end
def Rd (H:Hp) (a:Addr) (u:HO):Prop:=H a=some u \/ ∃ o,H a=some (.frz o u)
theorem Rd.ok {P:Program} {w:World} {H:Hp} {h:Heap} {a:Addr} {u:HO} (r:Rd H a u) (x:HOk P w H h):ObjOk P w H h a u:=by
 rcases r with r | ⟨o,r⟩
 ·exact x a u r
 ·obtain ⟨_,q⟩:=x a _ r;exact q
def Mut:Option HO->Prop
 | some (.lst _)=>True
 | some (.dK _)=>True
 | some (.dT _)=>True
 | some (.set _ _)=>True
 | some (.ins _ _ _)=>True
 | some (.ext _)=>True
 | _=>False
section
variable {P:Program} {w:World} {H:Hp} {h h':Heap} {x e:Addr} {o':HO}
theorem HOk.write (ok:HOk P w H h) (mu:Mut (H x)) (he:e=x \/ H e=some (.own x)) (k:∀ b u,b ≠ e->h.get? b=some u->h'.get? b=some u) (heo:∃ u,h'.get? e=some u)
    (new:ObjOk P w (upd H x o') h' x o'):HOk P w (upd H x o') h':=λ b u q=>by
 have nown:∀ c y,H c=some (.own y)->c ≠ x:=λ c y r z=>by subst z; rw [r] at mu; exact mu
 have ntup:∀ c xs,H c=some (.tup xs)->c ≠ x:=λ c xs r z=>by subst z; rw [r] at mu; exact mu
 by_cases hb:b=x
 ·subst hb; rw [ve0] at q; cases q; exact new
 ·rw [vb0 hb] at q;by_cases hbe:b=e
  ·have q':H b=some (.own x):=by
     rcases he with z | z
     ·exact absurd (hbe.trans z) hb
     ·rw [hbe]; exact z
   rw [q] at q'; cases q';obtain ⟨v,hv⟩:=heo;exact ⟨v,by rw [hbe]; exact hv⟩
  ·refine (ok b u q).stay (λ c v hc r=>k c v ?_ r) (λ c r=>by rw [vb0 (nown c b r)]; exact r) λ c xs r=>by rw [vb0 (ntup c xs r)]; exact r
   rcases hc with rfl | hc
   ·exact hbe
   ·rintro rfl;rcases he with z | z
    ·exact nown c b hc z
    ·rw [hc] at z; cases z; exact hb rfl
end
structure Un (fs ex:List Addr) (H H':Hp) (h h':Heap):Prop where
 keep:∀ b o,h.get? b=some o->H b=none->b ∉ fs->b ∉ ex->h'.get? b=some o
 slot:∀ b o,h.get? b=some o->H b=none->b ∈ fs->b ∉ ex->∃ sl,h'.get? b=some { o with slots:=sl }
 free:∀ b o,h.get? b=some o->H b=none->b ∉ ex->H' b=none
 there:∀ b o,h.get? b=some o->b ∉ ex->∃ o',h'.get? b=some o'
 tups:∀ b xs,H b=some (.tup xs)->H' b=some (.tup xs)
 frzs:∀ b o u,H b=some (.frz o u)->H' b=some (.frz o u)
 tbls:∀ b ps,H b=some (.tbl ps)->∃ more,H' b=some (.tbl (ps ++ more))
section
variable {fs fs' ex ex':List Addr} {H H1 H2:Hp} {h h1 h2 h':Heap} {a x e:Addr} {o:HO}
theorem Un.any (u:Un fs ex H H1 h h1) {b:Addr} {ob:Obj} (q:h.get? b=some ob) (n:H b=none) (hx:b ∉ ex):∃ sl,h1.get? b=some { ob with slots:=sl }:=by
 by_cases hb:b ∈ fs
 ·exact u.slot b ob q n hb hx
 ·exact ⟨ob.slots,u.keep b ob q n hb hx⟩
theorem Un.kept (k:∀ b u,h.get? b=some u->h'.get? b=some u):Un fs ex H H h h' :=
 ⟨λ b ob q _ _ _=>k b ob q,λ b ob q _ _ _=>⟨ob.slots,k b ob q⟩,λ _ _ _ n _=>n,λ b ob q _=>⟨ob,k b ob q⟩,λ _ _ q=>q,λ _ _ _ q=>q,λ _ ps q=>⟨#[],by rw [q]; simp⟩⟩
theorem Un.refl:Un fs ex H H h h:=Un.kept λ _ _ q=>q
theorem Un.laid (k:∀ b u,h.get? b=some u->h'.get? b=some u) (hp:h.objs.size<=a) (hn:H a=none):Un fs ex H (upd H a o) h h' where
 keep:=λ b u q _ _ _=>k b u q
 slot:=λ b u q _ _ _=>⟨u.slots,k b u q⟩
 free:=λ b u q n _=>by rw [vb0 (Nat.ne_of_lt (Nat.lt_of_lt_of_le (Heap.lt_size q) hp))]; exact n
 there:=λ b u q _=>⟨u,k b u q⟩
 tups:=λ b xs q=>by rw [vb0 (xf0 q hn)]; exact q
 frzs:=λ b u xs q=>by rw [vb0 (xf0 q hn)]; exact q
 tbls:=λ b ps q=>⟨#[],by rw [vb0 (xf0 q hn),q]; simp⟩
theorem Un.write (mu:Mut (H x)) (he:e=x \/ H e=some (.own x)) (k:∀ b u,b ≠ e->h.get? b=some u->h'.get? b=some u) (heo:∃ u,h'.get? e=some u):Un fs ex H (upd H x o) h h':=by
 have hx:∀ b,H b=none->b ≠ x:=λ b n z=>by subst z; rw [n] at mu; exact mu
 have hb:∀ b,H b=none->b ≠ e:=λ b n z=>by
  subst z;rcases he with r | r
  ·exact hx b n r
  ·rw [n] at r; cases r
 have hm:∀ b u,H b=some u->¬ Mut (some u)->b ≠ x:=λ b u q nm z=>by subst z; rw [q] at mu; exact nm mu
 refine ⟨λ b u q n _ _=>k b u (hb b n) q,λ b u q n _ _=>⟨u.slots,k b u (hb b n) q⟩,λ b u q n _=>by rw [vb0 (hx b n)]; exact n,λ b u q _=>?_,
  λ b xs q=>by rw [vb0 (hm b _ q λ z=>z)]; exact q,λ b u xs q=>by rw [vb0 (hm b _ q λ z=>z)]; exact q,λ b ps q=>⟨#[],by rw [vb0 (hm b _ q λ z=>z),q]; simp⟩⟩
 by_cases hbe:b=e
 ·subst hbe; exact heo
 ·exact ⟨u,k b u hbe q⟩
end
def trk (h:Heap) (H:Hp):List Addr:=(List.range h.objs.size).filter λ a=>(H a).isSome
def hidT (h:Heap) (H:Hp):Heap:=PySem.W.hideAll h (trk h H)
theorem uu1 (h:Heap) (H:Hp):(hidT h H).objs.size=h.objs.size:=PySem.W.hideAll_size _ _
theorem vf2 {h:Heap} {H:Hp} {b:Addr} {o:Obj} (e:h.get? b=some o) (n:H b=none):(hidT h H).get? b=some o :=
 PySem.W.hideAll_get _ e λ hm=>by
  have q:(H b).isSome=true:=(List.mem_filter.mp hm).2;rw [n] at q; simp at q
theorem ut2 {h:Heap} {H:Hp} {b:Addr} {o:Obj} (e:(hidT h H).get? b=some o):h.get? b=some o /\ H b=none:=by
 have e':h.get? b=some o:=PySem.W.of_hideAll (trk h H) e;refine ⟨e',?_⟩;cases q:H b with
 | none=>rfl
 | some x =>
  have hm:b ∈ trk h H:=List.mem_filter.mpr ⟨List.mem_range.mpr (Heap.lt_size e'),by simp [q]⟩;have z:(hidT h H).get? b=none:=PySem.W.hideAll_none (trk h H) hm;rw [z] at e; cases e
def ux2 (g h:Heap) (L:Addr):List (Addr × Obj):=(List.range h.objs.size).filterMap λ a=>if a=L \/ (g.get? a).isSome=true then none else (h.get? a).map λ o=>(a,o)
def rest (g h:Heap) (L d:Addr):List (Addr × Obj):=(ux2 g h L).filter λ p=>decide (p.1 ≠ d)
structure Mod (K:PySem.W.Frag) (mg:Str->Option Value) (base:Heap):Prop where
 kin:K.In base
 glob:base.Ns mainGlobals mg
 blt:∃ mb,base.Ns builtinsNs mb /\ ∀ x:Str,x ≠ "__name__" -> mb x=bootBuiltins x
 nolimit:base.NoLimit
structure Cx where
 prog:Program
 w:World
 K:PySem.W.Frag
 mg:Str->Option Value
 base:Heap
 A:Around
 N:List Str
 s₀:Shared
 H₀:Hp
 env:Env
 outer:List Env
 stack:List Env
 ex:List Addr
 fn:Str->Bool
 calm:Bool
 pn:List (Addr × Obj)
 xe:Value->Shared->Prop
def frs (l:List Env):List Addr:=l.filterMap (·.frame)
abbrev Cx.fs (X:Cx):List Addr:=frs X.outer
def Vis (sc:Scope) (x:Str):Prop:=sc.names.lookup x=some .local \/ sc.names.lookup x=some .cell \/ sc.names.lookup x=some .free
def Loc (sc:Scope) (x:Str):Prop:=sc.names.lookup x=some .local \/ sc.names.lookup x=some .cell
def Look (env:Env) (h:Heap) (m:Str->Option Value) (x:Str) (u:Value):Prop :=
 (env.kindOf x=some .local /\ m x=some u) \/ ((env.kindOf x=some .cell \/ env.kindOf x=some .free) /\ ∃ c,env.cells.lookup x=some c /\ h.IsCell c (some u))
structure Cx.Ok (X:Cx):Prop where
 mod:Mod X.K X.mg X.base
 kind:X.env.scope.kind=.function
 glob:X.env.globals=mainGlobals
 blt:X.env.builtins=builtinsNs
 above:X.s₀.heap.objs.size<=X.env.locals
 inj:∀ x y c,X.env.cells.lookup x=some c->X.env.cells.lookup y=some c->x=y
 has:∀ x,(X.env.kindOf x=some .cell \/ X.env.kindOf x=some .free)->∃ c,X.env.cells.lookup x=some c
 cab:∀ x c,X.fn x=true->X.env.cells.lookup x=some c->X.s₀.heap.objs.size<=c
 hd:X.calm=true->X.A.handled=none
 frames:X.A.frames=some X.stack
 stk:X.stack=X.outer \/ (X.stack=X.env :: X.outer /\ X.env.frame=some X.env.locals)
 exf:∀ b ∈ X.ex,b ≠ X.env.locals /\ ∀ x c,X.env.cells.lookup x=some c->c ≠ b
 bs:∀ b o,X.base.get? b=some o->X.s₀.heap.get? b=some o /\ X.H₀ b=none
 bsz:X.base.objs.size<=X.s₀.heap.objs.size
 noex:∀ b o,X.base.get? b=some o->b ∉ X.ex
 exfs:∀ b ∈ X.ex,b ∉ X.fs
 funs:X.s₀.heap.FunFrames X.base X.outer
 frf:∀ b ∈ X.fs,X.H₀ b=none
structure Inv (X:Cx) (pins:List (Addr × Obj)) (σ:List (Option V)) (H:Hp) (s:Shared):Prop where
 ok:X.Ok
 os:s.os=X.s₀.os
 bare:AllBare s.gens
 base:Un X.fs X.ex X.H₀ H X.s₀.heap s.heap
 loc:∃ m,s.heap.Ns X.env.locals m /\ ∀ (i:Nat) (x:Str) (v:V),X.N[i]?=some x->σ[i]?=some (some v)->Vis X.env.scope x->∃ u,RelV v u /\ Look X.env s.heap m x u
 cell:∀ x c,X.env.cells.lookup x=some c->∃ v,s.heap.IsCell c v
 free:H X.env.locals=none
 freeC:∀ x c,X.env.cells.lookup x=some c->H c=none
 pin:∀ p ∈ X.pn ++ pins,s.heap.get? p.1=some p.2 /\ H p.1=none /\ p.1 ≠ X.env.locals /\ p.1 ∉ X.fs /\ ∀ v,p.2.data ≠ .cell v
 hok:HOk X.prog X.w H s.heap
 len:σ.length=X.N.length
section
variable {X:Cx} {pins:[6]} {σ:List (Option V)} {H H':Hp} {s:Shared} {h':Heap}
theorem Cx.Ok.nofr (ok:X.Ok) {b:Addr} {o:Obj} (e:X.base.get? b=some o):b ∉ X.fs:=λ hb=>by
 have:=(ok.funs.mem hb).1;rw [e] at this; cases this
theorem Inv.bs (I:[5]):∀ b o,X.base.get? b=some o->s.heap.get? b=some o /\ H b=none:=λ b o e =>
 ⟨I.base.keep b o (I.ok.bs b o e).1 (I.ok.bs b o e).2 (I.ok.nofr e) (I.ok.noex b o e),I.base.free b o (I.ok.bs b o e).1 (I.ok.bs b o e).2 (I.ok.noex b o e)⟩
theorem Inv.bk (I:[5]):∀ b o,X.base.get? b=some o->s.heap.get? b=some o:=λ b o e=>(I.bs b o e).1
theorem Inv.mod (I:[5]):Mod X.K X.mg X.base:=I.ok.mod
theorem Inv.kIn (I:[5]):X.K.In s.heap:=I.ok.mod.kin.keeps I.bk
theorem Inv.lt (I:[5]):X.env.locals < s.heap.objs.size:=let ⟨_,hn,_⟩:=I.loc; hn.lt
theorem Inv.sz (I:[5]):X.s₀.heap.objs.size<=s.heap.objs.size:=Nat.le_trans I.ok.above (Nat.le_of_lt I.lt)
theorem Inv.nofs (I:[5]) {a:Addr} (h:s.heap.objs.size<=a):a ∉ X.fs:=λ hb=>by
 obtain ⟨_,o,ho,_⟩:=I.ok.funs.mem hb;exact absurd (Nat.lt_of_lt_of_le (Heap.lt_size ho) (Nat.le_trans I.sz h)) (Nat.lt_irrefl _)
theorem Inv.cne (I:[5]):∀ x c,X.env.cells.lookup x=some c->c ≠ X.env.locals:=λ x c e z=>by
 obtain ⟨v,o,ho,hd⟩:=I.cell x c e;obtain ⟨m,⟨o',es,ep,ho',hd',_⟩,_⟩:=I.loc;rw [z,ho'] at ho; cases ho; rw [hd'] at hd; cases hd
theorem Inv.funs (I:[5]):s.heap.FunFrames X.base X.outer:=by
 have all:∀ (l:List Env),(∀ b ∈ frs l,b ∈ X.fs)->X.s₀.heap.FunFrames X.base l->s.heap.FunFrames X.base l:=by
  intro l
  induction l with
  | nil=>intro _ _; trivial
  | cons env r ih =>
   intro hs hl;obtain ⟨hk,⟨L,o,hf,hn,ho,hd⟩,hr⟩:=hl;have hL:L ∈ X.fs:=hs L (by unfold frs; rw [filterMap_cons,hf]; exact mem_cons_self);obtain ⟨sl,e⟩:=I.base.slot L o ho (I.ok.frf L hL) hL λ z=>I.ok.exfs L z hL;exact ⟨hk,⟨L,_,hf,hn,e,hd⟩,ih (λ b hb=>hs b (by unfold frs; rw [filterMap_cons,hf]; exact mem_cons_of_mem _ hb)) hr⟩
 exact all X.outer (λ _ hb=>hb) I.ok.funs
theorem Inv.stack (I:[5]):s.heap.FunFrames X.base X.stack:=by
 rcases I.ok.stk with e | ⟨e,hf⟩
 ·rw [e]; exact I.funs
 ·rw [e];obtain ⟨m,hn,_⟩:=I.loc;refine .cons (by rw [I.ok.kind]; decide) hf hn ?_ I.funs;exact Heap.get?_none_of_le (Nat.le_trans I.ok.bsz I.ok.above)
theorem Inv.stkSub (I:[5]):∀ b ∈ frs X.stack,b ∈ X.env.locals :: X.fs:=λ b hb=>by
 rcases I.ok.stk with e | ⟨e,hf⟩
 ·rw [e] at hb; exact mem_cons_of_mem _ hb
 ·rw [e] at hb;unfold frs at hb;rw [filterMap_cons,hf] at hb;exact hb
theorem Inv.stkFree (I:[5]):∀ b ∈ frs X.stack,H b=none:=λ b hb=>by
 rcases List.mem_cons.mp (I.stkSub b hb) with e | hb
 ·rw [e]; exact I.free
 ·obtain ⟨_,o,ho,_⟩:=I.ok.funs.mem hb;exact I.base.free b o ho (I.ok.frf b hb) λ z=>I.ok.exfs b z hb
theorem Inv.step {g':Array GenState} {t':Nat} {d':Drawn} {ch:List Addr} (I:[5])
    (hch:∀ b ∈ ch,(b ∈ X.ex \/ X.s₀.heap.objs.size<=b) /\ b ≠ X.env.locals /\ (∀ x c,X.env.cells.lookup x=some c->c ≠ b) /\ ∀ p ∈ X.pn ++ pins,p.1 ≠ b)
    (keep:∀ b o,b ≠ X.env.locals->b ∉ X.fs->b ∉ ch->s.heap.get? b=some o->H b=none->h'.get? b=some o)
    (slot:∀ b o,b ≠ X.env.locals->b ∈ X.fs->b ∉ ch->s.heap.get? b=some o->H b=none->∃ sl,h'.get? b=some { o with slots:=sl }) (free:∀ b o,b ∉ ch->s.heap.get? b=some o->H b=none->H' b=none)
    (there:∀ b o,b ∉ ch->s.heap.get? b=some o->∃ o',h'.get? b=some o')
    (tups:∀ b xs,H b=some (.tup xs)->H' b=some (.tup xs)) (frzs:∀ b o u,H b=some (.frz o u)->H' b=some (.frz o u)) (tbls:∀ b ps,H b=some (.tbl ps)->∃ more,H' b=some (.tbl (ps ++ more)))
    (ns:∀ m,s.heap.Ns X.env.locals m->h'.Ns X.env.locals m) (hok:HOk X.prog X.w H' h') (hg:AllBare g') :
    Inv X pins σ H' { s with heap:=h',gens:=g',drawn:=d',toks:=t' }:=by
 have neL:∀ b o,X.s₀.heap.get? b=some o->b ≠ X.env.locals:=λ b o e=>Nat.ne_of_lt (Nat.lt_of_lt_of_le (Heap.lt_size e) I.ok.above)
 have neC:∀ b o,X.s₀.heap.get? b=some o->b ∉ X.ex->b ∉ ch:=λ b o e hx hb=>by
  rcases (hch b hb).1 with z | z
  ·exact hx z
  ·exact absurd (Nat.lt_of_lt_of_le (Heap.lt_size e) z) (Nat.lt_irrefl _)
 have cellK:∀ x c,X.env.cells.lookup x=some c->∀ v,s.heap.IsCell c v->h'.IsCell c v:=λ x c e v ⟨o,ho,hd⟩=>by
  have nch:c ∉ ch:=λ z=>(hch c z).2.2.1 x c e rfl;by_cases hc:c ∈ X.fs
  ·obtain ⟨sl,q⟩:=slot c o (I.cne x c e) hc nch ho (I.freeC x c e);exact ⟨_,q,hd⟩
  ·exact ⟨o,keep c o (I.cne x c e) hc nch ho (I.freeC x c e),hd⟩
 refine ⟨I.ok,I.os,hg,⟨λ b o e n hb hx=>?_,λ b o e n hb hx=>?_,λ b o e n hx=>?_,λ b o e hx=>?_,λ b xs e=>tups b xs (I.base.tups b xs e),λ b o xs e=>frzs b o xs (I.base.frzs b o xs e),λ b ps e=>?_⟩,?_,λ x c e=>?_,?_,λ x c e=>?_,λ p hp=>?_,hok,I.len⟩
 ·exact keep b o (neL b o e) hb (neC b o e hx) (I.base.keep b o e n hb hx) (I.base.free b o e n hx)
 ·obtain ⟨sl,e1⟩:=I.base.slot b o e n hb hx;obtain ⟨sl',e2⟩:=slot b _ (neL b o e) hb (neC b o e hx) e1 (I.base.free b o e n hx);exact ⟨sl',e2⟩
 ·obtain ⟨o',e1⟩:=I.base.there b o e hx;exact free b o' (neC b o e hx) e1 (I.base.free b o e n hx)
 ·obtain ⟨o',e1⟩:=I.base.there b o e hx;exact there b o' (neC b o e hx) e1
 ·obtain ⟨m1,e1⟩:=I.base.tbls b ps e;obtain ⟨m2,e2⟩:=tbls b _ e1;exact ⟨m1 ++ m2,by rw [e2,Array.append_assoc]⟩
 ·obtain ⟨m,hn,hl⟩:=I.loc;refine ⟨m,ns m hn,λ i x v e1 e2 e3=>?_⟩;obtain ⟨u,r,l⟩:=hl i x v e1 e2 e3;refine ⟨u,r,?_⟩;rcases l with l | ⟨k,c,e,z⟩
  ·exact .inl l
  ·exact .inr ⟨k,c,e,cellK x c e _ z⟩
 ·obtain ⟨v,z⟩:=I.cell x c e;exact ⟨v,cellK x c e v z⟩
 ·obtain ⟨m,⟨o,_,_,ho,_⟩,_⟩:=I.loc;exact free _ o (λ z=>(hch _ z).2.1 rfl) ho I.free
 ·obtain ⟨v,o,ho,hd⟩:=I.cell x c e;exact free c o (λ z=>(hch c z).2.2.1 x c e rfl) ho (I.freeC x c e)
 ·obtain ⟨e,n,ne,nf,d⟩:=I.pin p hp;have nch:p.1 ∉ ch:=λ z=>(hch p.1 z).2.2.2 p hp rfl;exact ⟨keep p.1 p.2 ne nf nch e n,free p.1 p.2 nch e n,ne,nf,d⟩
theorem Inv.un {t':Nat} (I:[5]) (u:Un X.fs [] H H' s.heap h') (hok:HOk X.prog X.w H' h'):Inv X pins σ H' { s with heap:=h',toks:=t' }:=by
 obtain ⟨m,⟨o,es,ep,ho,r⟩,_⟩:=id I.loc;obtain ⟨sl,hL⟩:=u.any ho I.free [24]
 exact I.step (g':=s.gens) (d':=s.drawn) (ch:=[]) (λ _ z=>nomatch z) (λ b o _ hb _ e n=>u.keep b o e n hb [24]) (λ b o _ hb _ e n=>u.slot b o e n hb [24]) (λ b o _ e n=>u.free b o e n [24]) (λ b o _ e=>u.there b o e [24]) u.tups u.frzs u.tbls (λ m' hm=>by
  obtain ⟨o',es',ep',ho',r'⟩:=hm;rw [ho] at ho'; cases ho';exact ⟨_,es',ep',hL,r'⟩) hok I.bare
theorem Inv.call {g':Array GenState} {t':Nat} {d':Drawn} {ch:List Addr} (I:[5]) (u:Un (frs X.stack) ch H H' s.heap h') (hok:HOk X.prog X.w H' h') (hg:AllBare g')
    (hch:∀ b ∈ ch,(b ∈ X.ex \/ X.s₀.heap.objs.size<=b) /\ b ≠ X.env.locals /\ (∀ x c,X.env.cells.lookup x=some c->c ≠ b) /\ ∀ p ∈ X.pn ++ pins,p.1 ≠ b) :
    Inv X pins σ H' { s with heap:=h',gens:=g',drawn:=d',toks:=t' }:=by
 obtain ⟨m,⟨o,es,ep,ho,r⟩,_⟩:=id I.loc;obtain ⟨sl,hL⟩:=u.any ho I.free λ z=>(hch _ z).2.1 rfl
 exact I.step (ch:=ch) hch (λ b o hL hb hc e n=>u.keep b o e n (λ z=>(List.mem_cons.mp (I.stkSub b z)).elim hL hb) hc) (λ b o _ _ hc e n=>u.any e n hc) (λ b o hc e n=>u.free b o e n hc) (λ b o hc e=>u.there b o e hc) u.tups u.frzs u.tbls (λ m' hm=>by
  obtain ⟨o',es',ep',ho',r'⟩:=hm;rw [ho] at ho'; cases ho';exact ⟨_,es',ep',hL,r'⟩) hok hg
theorem Inv.turned {t':Nat} {it:Addr} (I:[5]) (k:∀ b o,b ≠ it->s.heap.get? b=some o->h'.get? b=some o) (hn:H it=none) (hL:it ≠ X.env.locals)
    (h1:it ∈ X.ex \/ X.s₀.heap.objs.size<=it) (h2:∀ x c,X.env.cells.lookup x=some c->c ≠ it) (h3:∀ p ∈ X.pn ++ pins,p.1 ≠ it):Inv X pins σ H { s with heap:=h',toks:=t' }:=by
 have nit:∀ b u,H b=some u->b ≠ it:=λ b u e z=>by rw [z,hn] at e; cases e
 refine I.step (g':=s.gens) (d':=s.drawn) (ch:=[it]) (λ b hb=>?_) (λ b o _ _ hc e _=>k b o (λ z=>hc (by simp [z])) e) (λ b o _ _ hc e _=>⟨o.slots,k b o (λ z=>hc (by simp [z])) e⟩) (λ _ _ _ _ n=>n)
  (λ b o hc e=>⟨o,k b o (λ z=>hc (by simp [z])) e⟩) (λ _ _ e=>e) (λ _ _ _ e=>e) (λ b ps e=>⟨#[],by rw [e]; simp⟩) (λ m hm=>?_) (λ b u e=>?_) I.bare
 ·have e:b=it:=by simpa using hb
  subst e;exact ⟨h1,hL,h2,h3⟩
 ·obtain ⟨o,es,ep,ho,r⟩:=hm;exact ⟨o,es,ep,k _ o (Ne.symm hL) ho,r⟩
 ·refine (I.hok b u e).stay (λ c v hc q=>k c v ?_ q) (λ _ q=>q) λ _ _ q=>q;rcases hc with z | z
  ·rw [z]; exact nit b u e
  ·exact nit c _ z
theorem Inv.tok (I:[5]) (t:Nat):Inv X pins σ H { s with toks:=t }:=I.un (h':=s.heap) (t':=t) Un.refl I.hok
theorem Inv.kept {t':Nat} (I:[5]) (k:∀ b u,s.heap.get? b=some u->h'.get? b=some u):Inv X pins σ H { s with heap:=h',toks:=t' }:=I.un (Un.kept k) (I.hok.kept k)
theorem Inv.laid {a:Addr} {o:HO} {t':Nat} (I:[5]) (k:∀ b u,s.heap.get? b=some u->h'.get? b=some u) (hp:s.heap.objs.size<=a) (new:ObjOk X.prog X.w (upd H a o) h' a o) :
    Inv X pins σ (upd H a o) { s with heap:=h',toks:=t' }:=I.un (Un.laid k hp (I.hok.fresh hp)) (I.hok.laid k hp new)
theorem Inv.write {x e:Addr} {o:HO} {t':Nat} (I:[5]) (mu:Mut (H x)) (he:e=x \/ H e=some (.own x)) (k:∀ b u,b ≠ e->s.heap.get? b=some u->h'.get? b=some u) (heo:∃ u,h'.get? e=some u)
    (new:ObjOk X.prog X.w (upd H x o) h' x o):Inv X pins σ (upd H x o) { s with heap:=h',toks:=t' }:=I.un (Un.write mu he k heo) (I.hok.write mu he k heo new)
theorem Inv.pins_of {pins':[6]} (I:[5]) (h:∀ p ∈ pins',s.heap.get? p.1=some p.2 /\ H p.1=none /\ p.1 ≠ X.env.locals /\ p.1 ∉ X.fs /\ ∀ v,p.2.data ≠ .cell v):Inv X pins' σ H s :=
 ⟨I.ok,I.os,I.bare,I.base,I.loc,I.cell,I.free,I.freeC,λ p hp=>(List.mem_append.mp hp).elim (λ z=>I.pin p (mem_append_left _ z)) (h p),I.hok,I.len⟩
theorem xi1 {N:List Str} (hN:N.Nodup) {i j:Nat} {x:Str} (a:N[i]?=some x) (b:N[j]?=some x):i=j:=by
 obtain ⟨h1,e1⟩:=List.getElem?_eq_some_iff.mp a;obtain ⟨h2,e2⟩:=List.getElem?_eq_some_iff.mp b;exact (List.getElem_inj hN).mp (e1.trans e2.symm)
theorem ux0 {M:Model} {A:Around} {E:[2]} {i:Nat} {x:Str} {v:V} {u:Value} {Q:Unit->Shared->Prop} (I:[5]) (hN:X.N.Nodup) (hi:X.N[i]?=some x) (hx:Loc X.env.scope x) (r:RelV v u)
    (h:∀ s',Inv X pins (σ.set i (some v)) H s'->(∃ a,Heap.SameBut a s.heap s'.heap /\ (a=X.env.locals \/ X.env.cells.lookup x=some a))->Q () s') (hf:X.fn x=true \/ X.env.scope.names.lookup x=some .local:=by first | exact .inl rfl | exact .inr rfl | assumption):wpAny M A (storeName X.env x u) Q E s:=by
 obtain ⟨m,hn,hl⟩:=id I.loc;have hcls:(X.env.scope.kind == .class || (X.env.scope.kind == .module && X.env.locals != X.env.globals))=false:=by rw [I.ok.kind]; rfl
 have hiσ:i < σ.length:=by rw [I.len]; exact (List.getElem?_eq_some_iff.mp hi).1
 have cne:=I.cne
 have tracked:∀ {a:Addr} {h':Heap},(∃ o,s.heap.get? a=some o /\ H a=none)->Heap.SameBut a s.heap h'->HOk X.prog X.w H h':=λ {a h'} ha hs b ob e=>by
  obtain ⟨_,_,hfree⟩:=ha;refine (I.hok b ob e).stay (λ c w' hc q=>(hs.2 c ?_).trans q) (λ _ q=>q) λ _ _ q=>q;rintro rfl;rcases hc with rfl | hc
  ·rw [hfree] at e; cases e
  ·rw [hfree] at hc; cases hc
 rcases hx with hk | hk
 ·refine wpAny_storeName_local hk hn (λ h' hn' hs=>?_) hcls;obtain ⟨oL,_,_,hoL,_⟩:=id hn;refine h _ ⟨I.ok,I.os,I.bare,⟨λ b o e n hb hx=>?_,λ b o e n hb hx=>?_,I.base.free,λ b o e hx=>?_,I.base.tups,I.base.frzs,I.base.tbls⟩,⟨_,hn',λ j y v' e1 e2 e3=>?_⟩,λ y c e=>?_,I.free,I.freeC,λ p hp=>?_,tracked ⟨oL,hoL,I.free⟩ hs,by simpa using I.len⟩ ⟨_,hs,.inl rfl⟩
  ·exact (hs.2 b (Nat.ne_of_lt (Nat.lt_of_lt_of_le (Heap.lt_size e) I.ok.above))).trans (I.base.keep b o e n hb hx)
  ·obtain ⟨sl,e1⟩:=I.base.slot b o e n hb hx;exact ⟨sl,(hs.2 b (Nat.ne_of_lt (Nat.lt_of_lt_of_le (Heap.lt_size e) I.ok.above))).trans e1⟩
  ·obtain ⟨o',e1⟩:=I.base.there b o e hx;exact ⟨o',(hs.2 b (Nat.ne_of_lt (Nat.lt_of_lt_of_le (Heap.lt_size e) I.ok.above))).trans e1⟩
  ·by_cases hj:j=i
   ·subst hj;rw [hi] at e1; cases e1;rw [List.getElem?_set_self hiσ] at e2;cases e2;exact ⟨u,r,.inl ⟨hk,by simp⟩⟩
   ·rw [List.getElem?_set_ne (Ne.symm hj)] at e2;obtain ⟨u',r',q⟩:=hl j y v' e1 e2 e3;refine ⟨u',r',?_⟩;rcases q with ⟨k,e⟩ | ⟨k,c,e,z⟩
    ·refine .inl ⟨k,?_⟩;have:y ≠ x:=λ e=>hj (xi1 hN e1 (e ▸ hi));simp [this,e]
    ·exact .inr ⟨k,c,e,z.sameBut hs (cne y c e)⟩
  ·obtain ⟨w',z⟩:=I.cell y c e;exact ⟨w',z.sameBut hs (cne y c e)⟩
  ·obtain ⟨e,n,ne,nf,d⟩:=I.pin p hp;exact ⟨(hs.2 p.1 ne).trans e,n,ne,nf,d⟩
 ·have hfn:X.fn x=true:=by
    rcases hf with z | z
    ·exact z
    ·rw [z] at hk; cases hk
  obtain ⟨c,hc⟩:=I.ok.has x (.inl hk);obtain ⟨w',z⟩:=I.cell x c hc;refine wpAny_storeName_cell I.ok.kind hk hc z (λ h' hc' hs=>?_);obtain ⟨oc,hoc,hocd⟩:=id z;refine h { s with heap:=h' } ⟨I.ok,I.os,I.bare,⟨λ b o e n hb hx=>?_,λ b o e n hb hx=>?_,I.base.free,λ b o e hx=>?_,I.base.tups,I.base.frzs,I.base.tbls⟩,⟨m,hn.sameBut hs (Ne.symm (cne x c hc)),λ j y v' e1 e2 e3=>?_⟩,λ y c' e=>?_,I.free,I.freeC,λ p hp=>?_,tracked ⟨oc,hoc,I.freeC x c hc⟩ hs,by simpa using I.len⟩ ⟨c,hs,.inr hc⟩
  ·exact (hs.2 b (Nat.ne_of_lt (Nat.lt_of_lt_of_le (Heap.lt_size e) (I.ok.cab x c hfn hc)))).trans (I.base.keep b o e n hb hx)
  ·obtain ⟨sl,e1⟩:=I.base.slot b o e n hb hx;exact ⟨sl,(hs.2 b (Nat.ne_of_lt (Nat.lt_of_lt_of_le (Heap.lt_size e) (I.ok.cab x c hfn hc)))).trans e1⟩
  ·obtain ⟨o',e1⟩:=I.base.there b o e hx;exact ⟨o',(hs.2 b (Nat.ne_of_lt (Nat.lt_of_lt_of_le (Heap.lt_size e) (I.ok.cab x c hfn hc)))).trans e1⟩
  ·by_cases hj:j=i
   ·subst hj;rw [hi] at e1; cases e1;rw [List.getElem?_set_self hiσ] at e2;cases e2;exact ⟨u,r,.inr ⟨.inl hk,c,hc,hc'⟩⟩
   ·rw [List.getElem?_set_ne (Ne.symm hj)] at e2;obtain ⟨u',r',q⟩:=hl j y v' e1 e2 e3;refine ⟨u',r',?_⟩;rcases q with q | ⟨k,c',e,z'⟩
    ·exact .inl q
    ·refine .inr ⟨k,c',e,z'.sameBut hs ?_⟩;rintro rfl;exact hj (xi1 hN e1 (I.ok.inj _ _ _ e hc ▸ hi))
  ·by_cases hcc:c'=c
   ·subst hcc; exact ⟨_,hc'⟩
   ·obtain ⟨w2,z2⟩:=I.cell y c' e;exact ⟨w2,z2.sameBut hs hcc⟩
  ·obtain ⟨e,n,ne,nf,d⟩:=I.pin p hp;refine ⟨(hs.2 p.1 ?_).trans e,n,ne,nf,d⟩;intro q;rw [q,hoc] at e;have q':oc=p.2:=Option.some.inj e;exact d w' (by rw [<- q']; exact hocd)
theorem wg1 {M:Model} {A:Around} {E:[2]} {i:Nat} {x:Str} {v:V} {u:Value} {Q:Unit->Shared->Prop} (I:[5]) (hN:X.N.Nodup) (hi:X.N[i]?=some x) (hx:Loc X.env.scope x) (r:RelV v u)
    (h:∀ s',Inv X pins (σ.set i (some v)) H s'->Q () s') (hf:X.fn x=true \/ X.env.scope.names.lookup x=some .local:=by first | exact .inl rfl | exact .inr rfl | assumption):wpAny M A (storeName X.env x u) Q E s :=
 ux0 I hN hi hx r (λ s' I' _=>h s' I') hf
theorem Inv.call' {s':Shared} {ch:List Addr} (I:[5]) (ho:s'.os=s.os) (u:Un (frs X.stack) ch H H' s.heap s'.heap) (hok:HOk X.prog X.w H' s'.heap) (hg:AllBare s'.gens)
    (hch:∀ b ∈ ch,(b ∈ X.ex \/ X.s₀.heap.objs.size<=b) /\ b ≠ X.env.locals /\ (∀ x c,X.env.cells.lookup x=some c->c ≠ b) /\ ∀ p ∈ X.pn ++ pins,p.1 ≠ b):Inv X pins σ H' s':=by
 obtain ⟨h',g',d',t',o'⟩:=s';have e:o'=s.os:=ho;subst e;exact I.call (g':=g') (t':=t') (d':=d') u hok hg hch
end
abbrev XK:=Value->Option Addr->Hp->Prop
abbrev St:=List (Option V)
abbrev VK:=V->Hp->Prop
abbrev TE:=St->Hp->VK->Prop
abbrev TT:=St->Hp->(Bool->Hp->Prop)->Prop
abbrev TA:=St->Hp->(List V->Hp->Prop)->Prop
structure Ends where
 nx:St->Hp->Prop
 rt:VK
 bk:St->Hp->Prop:=λ _ _=>False
 ct:St->Hp->Prop:=λ _ _=>False
abbrev TS:=Ends->St->Hp->Prop
def EP (X:Cx) (pins:[6]) (σ:St) (Q:VK) (u:Value) (s':Shared):Prop:=∃ v H',Inv X pins σ H' s' /\ RelV v u /\ Q v H'
def TP (X:Cx) (pins:[6]) (σ:St) (Q:Bool->Hp->Prop) (b:Bool) (s':Shared):Prop:=∃ H',Inv X pins σ H' s' /\ Q b H'
def AP (X:Cx) (pins:[6]) (σ:St) (Q:List V->Hp->Prop) (us:[23]) (s':Shared):Prop:=∃ vs H',Inv X pins σ H' s' /\ Vals vs us /\ Q vs H'
def SP (X:Cx) (pins:[6]) (D:Ends) (f:Flow) (s':Shared):Prop :=
 match f with
 | .next=>∃ σ' H',Inv X pins σ' H' s' /\ D.nx σ' H'
 | .brk=>∃ σ' H',Inv X pins σ' H' s' /\ D.bk σ' H'
 | .cont=>∃ σ' H',Inv X pins σ' H' s' /\ D.ct σ' H'
 | .ret u=>∃ v σ' H',Inv X pins σ' H' s' /\ RelV v u /\ D.rt v H'
def PE (X:Cx) (e:Expr) (t:TE):Prop :=
 ∀ (pins:[6]) (s:Shared) (σ:St) (H:Hp) (Q:VK),Inv X pins σ H s->t σ H Q->wpAny [8] X.A (eval e X.env) (EP X pins σ Q) X.xe s
def PT (X:Cx) (e:Expr) (t:TT):Prop :=
 ∀ (pins:[6]) (s:Shared) (σ:St) (H:Hp) (Q:Bool->Hp->Prop),Inv X pins σ H s->t σ H Q->wpAny [8] X.A (isTrue e X.env (eval e X.env)) (TP X pins σ Q) X.xe s
def PW (X:Cx) (e:Expr) (t:TT):Prop :=
 ∀ (whole:Sem Value) (pins:[6]) (s:Shared) (σ:St) (H:Hp) (Q:Bool->Hp->Prop),Inv X pins σ H s->t σ H Q->wpAny [8] X.A (isTrue e X.env whole) (TP X pins σ Q) X.xe s
theorem PW.pt {X:Cx} {e:Expr} {t:TT} (h:PW X e t):PT X e t:=h _
def PA (X:Cx) (es:List Expr) (t:TA):Prop :=
 ∀ (pos:Pos) (pins:[6]) (s:Shared) (σ:St) (H:Hp) (Q:List V->Hp->Prop),Inv X pins σ H s->t σ H Q->wpAny [8] X.A (spliced (backTo pos (starEach es X.env))) (AP X pins σ Q) X.xe s
def PS (X:Cx) (st:Stmt) (t:TS):Prop :=
 ∀ (pins:[6]) (s:Shared) (σ:St) (H:Hp) (D:Ends),Inv X pins σ H s->t D σ H->wpAny [8] X.A (exec st X.env) (SP X pins D) X.xe s
def PSs (X:Cx) (st:List Stmt) (t:TS):Prop :=
 ∀ (pins:[6]) (s:Shared) (σ:St) (H:Hp) (D:Ends),Inv X pins σ H s->t D σ H->wpAny [8] X.A (execs st X.env) (SP X pins D) X.xe s
theorem thn {α:Type} {t:Sem α} {Q Q':α->Shared->Prop} {M:Model} {A:Around} {E:[2]} {s:Shared} (h:wpAny M A t Q E s) (hQ:∀ a s,Q a s->Q' a s):wpAny M A t Q' E s:=wpAny_mono h hQ λ _ _ x=>x
section
variable {X:Cx}
def tVar (i:Nat):TE:=λ σ H Q=>∃ v,σ[i]?=some (some v) /\ Q v H
def tC (v:V):TE:=λ _ H Q=>Q v H
theorem yk2 {i:Nat} {x:Str} {pos:Pos} (hN:X.N[i]?=some x) (hv:Vis X.env.scope x) (hd:(x == ("__debug__" : Str))=false:=by decide) (hcd:(x == ("__classdict__" : Str))=false:=by decide):PE X (.Name x pos) (tVar i):=by
 intro pins s σ H Q I h;obtain ⟨v,e,h⟩:=h;obtain ⟨m,hn,hl⟩:=I.loc;obtain ⟨u,r,l⟩:=hl i x v hN e hv;have fin:EP X pins σ Q u s:=⟨v,H,I,r,h⟩;rcases l with ⟨hk,hm⟩ | ⟨hk,c,hc,hcell⟩
 ·exact wpAny_Name (wpAny_loadName_local I.ok.kind hk hn hm fin) hd
 ·rcases hk with hk | hk
  ·exact wpAny_Name (wpAny_loadName_cell I.ok.kind hk hc hcell fin) hd
  ·exact wpAny_Name (wpAny_loadName_free I.ok.kind hk hc hcell fin hcd) hd
theorem sg3 {i j pos}:PE X (.Constant (.int i) j pos) (tC (.int i)):=λ _ _ _ H _ I h=>wpAny_Constant_int ⟨.int i,H,I.tok _,⟨_,rfl⟩,h⟩
theorem xw3 {b j pos}:PE X (.Constant (.bool b) j pos) (tC (.bl b)):=λ _ _ _ H _ I h=>Constant_bool ⟨.bl b,H,I,rfl,h⟩
theorem vg3 {j pos}:PE X (.Constant .none j pos) (tC .non):=λ _ _ _ H _ I h=>Constant_none ⟨.non,H,I,rfl,h⟩
def Gl (X:Cx) (x:Str):Prop:=X.env.kindOf x=some .globalImplicit
theorem vs1 {E:[2]} {pins:[6]} {s:Shared} {σ:St} {H:Hp} {x:Str} {u:Value} {pos:Pos} {Q:[2]} (I:[5]) (hg:Gl X x) (hm:X.mg x=some u) (h:Q u s)
    (hd:(x == ("__debug__" : Str))=false:=by decide):wpAny [8] X.A (eval (.Name x pos) X.env) Q E s :=
 Calls.Name_function_global I.ok.kind hg (Calls.loadGlobal_global (by rw [I.ok.glob]; exact I.mod.glob.keeps I.bk) hm h) hd
theorem zm0 {E:[2]} {pins:[6]} {s:Shared} {σ:St} {H:Hp} {x:Str} {u:Value} {pos:Pos} {Q:[2]} (I:[5]) (hg:Gl X x) (hm:X.mg x=none) (hv:bootBuiltins x=some u) (h:Q u s)
    (hn:x ≠ "__name__" := by decide) (hd:(x == ("__debug__" : Str))=false:=by decide):wpAny [8] X.A (eval (.Name x pos) X.env) Q E s:=by
 obtain ⟨mb,h1,h2⟩:=I.mod.blt;exact Calls.Name_function_global I.ok.kind hg (Calls.loadGlobal_builtin (by rw [I.ok.glob]; exact I.mod.glob.keeps I.bk) hm (by rw [I.ok.blt]; exact h1.keeps I.bk) ((h2 x hn).trans hv) h) hd
theorem vs2 {x:Str} {v:V} {u:Value} {pos:Pos} (hg:Gl X x) (hm:X.mg x=some u) (r:RelV v u) (hd:(x == ("__debug__" : Str))=false:=by decide):PE X (.Name x pos) (tC v) :=
 λ _ _ _ H _ I h=>vs1 I hg hm ⟨v,H,I,r,h⟩ hd
variable {a b:Expr} {ta tb:TE} {pos:Pos}
variable {tA tB':TT} {rest:List Expr}
def tAnd (t u:TT):TT:=λ σ H Q=>t σ H λ c H1=>if c=true then u σ H1 Q else Q false H1
def tOr (t u:TT):TT:=λ σ H Q=>t σ H λ c H1=>if c=true then Q true H1 else u σ H1 Q
theorem tq2 (ha:PT X a tA):PW X (.BoolOp .And [a] pos) tA:=by
 intro wh pins s σ H Q I h;refine isTrue_and (thn (ha pins s σ H Q I h) λ c s1 e=>?_);cases c with
 | true=>exact isTrue_and_nil e
 | false=>exact e
theorem xf3 (ha:PT X a tA):PW X (.BoolOp .Or [a] pos) tA:=by
 intro wh pins s σ H Q I h;refine isTrue_or (thn (ha pins s σ H Q I h) λ c s1 e=>?_);cases c with
 | false=>exact isTrue_or_nil e
 | true=>exact e
theorem yf3 (ha:PT X a tA) (hb:PW X (.BoolOp .And (b :: rest) pos) tB'):PW X (.BoolOp .And (a :: b :: rest) pos) (tAnd tA tB'):=by
 intro wh pins s σ H Q I h;refine isTrue_and (thn (ha pins s σ H _ I h) λ c s1 ⟨H1,I1,q1⟩=>?_);cases c with
 | true=>exact hb wh pins s1 σ H1 Q I1 q1
 | false=>exact ⟨H1,I1,q1⟩
theorem zv3 (ha:PT X a tA) (hb:PW X (.BoolOp .Or (b :: rest) pos) tB'):PW X (.BoolOp .Or (a :: b :: rest) pos) (tOr tA tB'):=by
 intro wh pins s σ H Q I h;refine isTrue_or (thn (ha pins s σ H _ I h) λ c s1 ⟨H1,I1,q1⟩=>?_);cases c with
 | true=>exact ⟨H1,I1,q1⟩
 | false=>exact hb wh pins s1 σ H1 Q I1 q1
end
def SqL (K:PySem.W.Frag) (H:Hp) (a:Addr) (xs:List V):Prop :=
 Rd H a (.lst xs) ∨
  ∃ (o:Obj) (its:Array Value) (n:Nat),K.lookup a=some o /\ o.cls=.type "list" /\ o.dict=none /\ o.data=.seq its n /\ its.size<=sizeLine /\ Vals xs its.toList
def SqT (K:PySem.W.Frag) (H:Hp) (a:Addr) (xs:List V):Prop :=
 Rd H a (.tup xs) ∨
  ∃ (o:Obj) (its:Array Value) (n:Nat),K.lookup a=some o /\ o.cls=.type "tuple" /\ o.data=.seq its n /\ its.size<=sizeLine /\ Vals xs its.toList
def absV:Value->Option V
 | .none=>some .non
 | .bool b=>some (.bl b)
 | .int i _=>some (.int i)
 | .str x _=>some (.str x)
 | .bytes b _=>some (.byt b)
 | .float b _=>some (.flt b)
 | .ref a=>some (.ref a)
 | .type n=>some (.ty n)
 | _=>none
theorem RelV.abs {x:V} {u:Value} (r:RelV x u):absV u=some x:=by
 cases x with
 | non=>cases r; rfl
 | bl _=>cases r; rfl
 | int _=>obtain ⟨t,rfl⟩:=r; rfl
 | str _=>obtain ⟨t,rfl⟩:=r; rfl
 | byt _=>obtain ⟨t,rfl⟩:=r; rfl
 | flt _=>obtain ⟨t,rfl⟩:=r; rfl
 | ref _=>cases r; rfl
 | ty _=>cases r; rfl
theorem RelV.inj {x y:V} {u:Value} (r:RelV x u) (q:RelV y u):x=y:=Option.some.inj (r.abs.symm.trans q.abs)
theorem Vals.inj:∀ {xs ys:List V} {us:[23]},Vals xs us->Vals ys us->xs=ys
 | _,_,_,.nil,.nil=>rfl
 | _,_,_,.cons r t,.cons r' t'=>by rw [r.inj r',Vals.inj t t']
section
variable {X:Cx} {pins:[6]} {σ:St} {H:Hp} {s:Shared} {a:Addr} {xs ys:List V}
theorem SqL.of {K:PySem.W.Frag} (h:H a=some (.lst xs)):SqL K H a xs:=.inl (.inl h)
theorem SqT.of {K:PySem.W.Frag} (h:H a=some (.tup xs)):SqT K H a xs:=.inl (.inl h)
theorem Inv.list (I:[5]) (h:SqL X.K H a xs):∃ its:List Value,Vals xs its /\ PlainL s.heap a its.toArray /\ xs.length<=sizeLine:=by
 rcases h with h | ⟨o,its,n,hk,hc,hd,hs,hz,r⟩
 ·obtain ⟨z,its,n,r,e⟩:=h.ok I.hok;exact ⟨its,r,⟨_,n,e,rfl,rfl,rfl⟩,z⟩
 ·refine ⟨its.toList,r,⟨o,n,I.kIn a o hk,hc,hd,by simpa using hs⟩,?_⟩;have e:=r.length;simp only [length_toList] at e;omega
theorem Inv.tuple (I:[5]) (h:SqT X.K H a xs):∃ its:List Value,Vals xs its /\ IsTup s.heap a its.toArray /\ xs.length<=sizeLine:=by
 rcases h with h | ⟨o,its,n,hk,hc,hs,hz,r⟩
 ·obtain ⟨z,its,r,p⟩:=h.ok I.hok;exact ⟨its,r,p,z⟩
 ·refine ⟨its.toList,r,⟨o,I.kIn a o hk,hc,n,by simpa using hs⟩,?_⟩;have e:=r.length;simp only [length_toList] at e;omega
theorem Inv.list_inj (I:[5]) (h:SqL X.K H a xs) (h':SqL X.K H a ys):xs=ys:=by
 obtain ⟨its,r,⟨o,n,e,_,_,d⟩,_⟩:=I.list h;obtain ⟨its',r',⟨o',n',e',_,_,d'⟩,_⟩:=I.list h';rw [e] at e'; cases e';rw [d] at d';injection d' with d1 _
 have:its=its':=by simpa using congrArg Array.toList d1
 subst this;exact r.inj r'
theorem Inv.tuple_inj (I:[5]) (h:SqT X.K H a xs) (h':SqT X.K H a ys):xs=ys:=by
 obtain ⟨its,r,⟨o,e,_,n,d⟩,_⟩:=I.tuple h;obtain ⟨its',r',⟨o',e',_,n',d'⟩,_⟩:=I.tuple h';rw [e] at e'; cases e';rw [d] at d';injection d' with d1 _
 have:its=its':=by simpa using congrArg Array.toList d1
 subst this;exact r.inj r'
end
abbrev Cx.wish (X:Cx) (E:[2]):Cx:={ X with xe:=E }
abbrev Cx.nox (X:Cx):Cx:=X.wish λ _ _=>False
theorem Cx.Ok.wish {X:Cx} (ok:X.Ok) (E:[2]):(X.wish E).Ok :=
 ⟨ok.mod,ok.kind,ok.glob,ok.blt,ok.above,ok.inj,ok.has,ok.cab,ok.hd,ok.frames,ok.stk,ok.exf,ok.bs,ok.bsz,ok.noex,ok.exfs,ok.funs,ok.frf⟩
theorem Cx.Ok.unwish {X:Cx} {E:[2]} (ok:(X.wish E).Ok):X.Ok :=
 ⟨ok.mod,ok.kind,ok.glob,ok.blt,ok.above,ok.inj,ok.has,ok.cab,ok.hd,ok.frames,ok.stk,ok.exf,ok.bs,ok.bsz,ok.noex,ok.exfs,ok.funs,ok.frf⟩
section
variable {X:Cx} {pins:[6]} {σ:St} {H:Hp} {s:Shared} {E:[2]}
theorem Inv.wish (I:[5]) (E:[2]):Inv (X.wish E) pins σ H s:=⟨I.ok.wish E,I.os,I.bare,I.base,I.loc,I.cell,I.free,I.freeC,I.pin,I.hok,I.len⟩
theorem Inv.unwish (I:Inv (X.wish E) pins σ H s):Inv X pins σ H s:=⟨I.ok.unwish,I.os,I.bare,I.base,I.loc,I.cell,I.free,I.freeC,I.pin,I.hok,I.len⟩
theorem SP.unwish {D:Ends} {f:Flow} {s':Shared} (h:SP (X.wish E) pins D f s'):SP X pins D f s':=by
 cases f with
 | next=>obtain ⟨σ',H',I,q⟩:=h; exact ⟨σ',H',I.unwish,q⟩
 | brk=>obtain ⟨σ',H',I,q⟩:=h; exact ⟨σ',H',I.unwish,q⟩
 | cont=>obtain ⟨σ',H',I,q⟩:=h; exact ⟨σ',H',I.unwish,q⟩
 | ret u=>obtain ⟨v,σ',H',I,r,q⟩:=h; exact ⟨v,σ',H',I.unwish,r,q⟩
theorem PSs.nox {st:List Stmt} {t:TS} (h:PSs X.nox st t):PSs X st t:=λ pins s σ H D I hw =>
 wpAny_mono (h pins s σ H D (I.wish _) hw) (λ _ _ q=>q.unwish) λ _ _ z=>False.elim z
end
section
variable {X:Cx} {st:Stmt} {rest:List Stmt} {t u:TS} {e:Expr} {te:TE} {pos:Pos}
def tp3:TS:=λ D σ H=>D.nx σ H
def tSeq (t u:TS):TS:=λ D σ H=>t { D with nx:=u D } σ H
theorem wr2:PSs X [] tp3:=λ _ _ σ H _ I h=>wpAny_execs_nil ⟨σ,H,I,h⟩
theorem uc2 (h1:PS X st t) (h2:PSs X rest u):PSs X (st :: rest) (tSeq t u):=by
 intro pins s σ H D I h;refine wpAny_execs_cons (thn (h1 pins s σ H { D with nx:=u D } I h) λ f s1 q=>?_);cases f with
 | next =>
  obtain ⟨σ',H',I',q⟩:=q;exact h2 pins s1 σ' H' D I' q
 | ret v=>exact q
 | brk=>exact q
 | cont=>exact q
theorem zr2 (h1:PS X st t):PSs X [st] t:=by
 intro pins s σ H D I h;refine wpAny_execs_cons (thn (h1 pins s σ H D I h) λ f s1 q=>?_);cases f with
 | next=>exact wpAny_execs_nil q
 | ret v=>exact q
 | brk=>exact q
 | cont=>exact q
theorem Inv.quiet {pins:[6]} {σ:St} {H:Hp} {s:Shared} (I:[5]):interactive X.env=false:=by simp [interactive,I.ok.kind]
def sp3 (te:TE):TS:=λ D σ H=>te σ H λ _ H1=>D.nx σ H1
theorem ur2 (he:PE X e te) (hs:swapsWith e none pos.line X.env=pure false:=by rfl):PS X (.Expr e pos) (sp3 te):=by
 intro pins s σ H D I h;exact wpAny_Expr_any (thn (he pins s σ H _ I h) λ v s1 ⟨x,H1,I1,r1,q1⟩=>⟨σ,H1,I1,q1⟩) I.quiet hs
def tRet (te:TE):TS:=λ D σ H=>te σ H D.rt
theorem wf3 (he:PE X e te):PS X (.Return (some e) pos) (tRet te):=by
 intro pins s σ H D I h;exact wpAny_Return_some (thn (he pins s σ H _ I h) λ v s1 ⟨x,H1,I1,r1,q1⟩=>⟨x,σ,H1,I1,r1,q1⟩)
def tIfS (c:TT) (t u:TS):TS:=λ D σ H=>c σ H λ b H1=>if b=true then t D σ H1 else u D σ H1
theorem uv3 {c:Expr} {a b:List Stmt} {tc:TT} (hc:PT X c tc) (ha:PSs X a t) (hb:PSs X b u):PS X (.If c a b pos) (tIfS tc t u):=by
 intro pins s σ H D I h;refine wpAny_If (thn (hc pins s σ H _ I h) λ d s1 ⟨H1,I1,q1⟩=>?_);cases d with
 | true=>exact ha pins s1 σ H1 D I1 q1
 | false=>exact hb pins s1 σ H1 D I1 q1
def sz2:TS:=λ _ _ _=>False
theorem sc2:PS X st sz2:=λ _ _ _ _ _ _ h=>h.elim
end
abbrev TG:=V->St->Hp->(St->Hp->Prop)->Prop
abbrev TGs:=List V->St->Hp->(St->Hp->Prop)->Prop
def PG (X:Cx) (target:Expr) (t:TG):Prop :=
 ∀ (pins:[6]) (s:Shared) (σ:St) (H:Hp) (v:V) (u:Value) (Q:St->Hp->Prop),Inv X pins σ H s->RelV v u->t v σ H Q ->
  wpAny [8] X.A (assign target X.env u) (λ _ s'=>∃ σ' H',Inv X pins σ' H' s' /\ Q σ' H') X.xe s
def PGs (X:Cx) (ts:List Expr) (t:TGs):Prop :=
 ∀ (pins:[6]) (s:Shared) (σ:St) (H:Hp) (vs:List V) (us:[23]) (Q:St->Hp->Prop),Inv X pins σ H s->Vals vs us->t vs σ H Q ->
  wpAny [8] X.A (assignInOrder ((assignEach ts X.env).map (·.2)) us) (λ _ s'=>∃ σ' H',Inv X pins σ' H' s' /\ Q σ' H') X.xe s
abbrev TSet:=V->V->V->Hp->(Hp->Prop)->Prop
def PSet (X:Cx) (t:TSet):Prop :=
 ∀ (pins:[6]) (s:Shared) (σ:St) (H:Hp) (o i v:V) (ov iv u:Value) (Q:Hp->Prop),Inv X pins σ H s->RelV o ov->RelV i iv->RelV v u->t o i v H Q ->
  wpAny [8] X.A (setItem ov iv u) (λ _ s'=>∃ H',Inv X pins σ H' s' /\ Q H') X.xe s
section
variable {X:Cx} {pos:Pos}
def uv2 (i:Nat):TG:=λ v σ H Q=>Q (σ.set i (some v)) H
theorem zs2 {i:Nat} {x:Str} (hN:X.N.Nodup) (hi:X.N[i]?=some x) (hx:Loc X.env.scope x) (hf:X.fn x=true \/ X.env.scope.names.lookup x=some .local:=by first | exact .inl rfl | exact .inr rfl | assumption):PG X (.Name x pos) (uv2 i):=by
 intro pins s σ H v u Q I r h;exact wpAny_assign_Name (wg1 I hN hi hx r (λ s' I'=>⟨_,H,I',h⟩) hf)
def gNil:TGs:=λ vs σ H Q=>vs=[] /\ Q σ H
def sx3 (t:TG) (u:TGs):TGs:=λ vs σ H Q=>∃ v r,vs=v :: r /\ t v σ H λ σ' H'=>u r σ' H' Q
theorem ys2:PGs X [] gNil:=by
 intro pins s σ H vs us Q I r h;obtain ⟨e,h⟩:=h;subst e;cases r;exact assignInOrder_nil ⟨σ,H,I,h⟩
theorem yd2 {e:Expr} {es:List Expr} {t:TG} {u:TGs} (h1:PG X e t) (h2:PGs X es u)
    (hs:(assignEach (e :: es) X.env).map (·.2)=assign e X.env :: (assignEach es X.env).map (·.2):=by rfl):PGs X (e :: es) (sx3 t u):=by
 intro pins s σ H vs us Q I r h;obtain ⟨v,vr,e1,h⟩:=h;subst e1;cases r with
 | cons r rr =>
  rw [hs];refine assignInOrder_cons (thn (h1 pins s σ H _ _ _ I r h) λ _ s1 ⟨σ1,H1,I1,q1⟩=>?_);exact h2 pins s1 σ1 H1 _ _ Q I1 rr q1
def gTup (K:PySem.W.Frag) (n:Nat) (t:TGs):TG:=λ v σ H Q=>∃ a xs,v=.ref a /\ SqT K H a xs /\ xs.length=n /\ t xs σ H Q
theorem yg3 {es:List Expr} {k:Nat} {t:TGs} {n:Nat} (hc:X.calm=true) (h:PGs X es t)
    (hn:(assignEach es X.env).length=n:=by rfl) (hst:(assignEach es X.env).findIdx? (·.1)=none:=by rfl):PG X (.Tuple es k pos) (gTup X.K n t):=by
 intro pins s σ H v u Q I r hw;obtain ⟨a,xs,e1,hq,hl,hw⟩:=hw;subst e1;cases r;obtain ⟨its,rv,ht,hz⟩:=I.tuple hq;refine assign_Tuple_tuple (I.ok.hd hc) ht (by simp [hn,<- hl,rv.length]) hst λ h' hx=>?_;have I1:Inv X pins σ H { s with heap:=h' }:=I.kept (t':=s.toks) λ b o e=>hx b o (Nat.ne_of_lt (Heap.lt_size e)) e;exact h pins _ σ H xs _ Q I1 (by simpa using rv) hw
def gSub (to ti:TE) (t:TSet):TG:=λ v σ H Q=>to σ H λ o H1=>ti σ H1 λ i H2=>t o i v H2 λ H3=>Q σ H3
theorem zg3 {o i:Expr} {to ti:TE} {t:TSet} (ho:PE X o to) (hi:PE X i ti) (hs:PSet X t)
    (ha:∀ v,assign (.Subscript o i pos) X.env v=(do
     let ov <- holding [v] (eval o X.env)
     let iv <- holding [v,ov] (eval i X.env)
     standAt pos
     holding [v,ov,iv] (setItem ov iv v)
     release [v,ov,iv] []):=by intro _; rfl):PG X (.Subscript o i pos) (gSub to ti t):=by
 intro pins s σ H v u Q I r h;rw [ha];refine wpAny_bind (wpAny_holding (thn (ho pins s σ H _ I h) λ ov s1 ⟨x,H1,I1,r1,q1⟩=>?_));refine wpAny_bind (wpAny_holding (thn (hi pins s1 σ H1 _ I1 q1) λ iv s2 ⟨y,H2,I2,r2,q2⟩=>?_));refine wpAny_bind (wpAny_standAt (wpAny_bind (wpAny_holding (thn (hs pins s2 σ H2 x y v ov iv u _ I2 r1 r2 r q2) λ _ s3 ⟨H3,I3,q3⟩=>?_))));exact wpAny_release ⟨σ,H3,I3,q3⟩
def tAsg (te:TE) (g:TG):TS:=λ D σ H=>te σ H λ x H1=>g x σ H1 D.nx
theorem uf3 {tg e:Expr} {te:TE} {g:TG} (he:PE X e te) (hg:PG X tg g) (hs:swapsWithSole [tg] e pos.line X.env=pure false:=by rfl) (hw:swappedStores [tg] e X.env=pure none:=by rfl)
    (h1:(assignEach [tg] X.env).map (·.2)=[assign tg X.env]:=by rfl):PS X (.Assign [tg] e pos) (tAsg te g):=by
 intro pins s σ H D I h;refine wpAny_Assign_stores (thn (he pins s σ H _ I h) λ v s1 ⟨x,H1,I1,r1,q1⟩=>?_) hs hw;rw [h1];exact thn (hg pins s1 σ H1 x v _ I1 r1 q1) λ _ s2 q=>q
theorem xq1 {i:Nat} {x:Str} {e:Expr} {te:TE} {pos':Pos} (hN:X.N.Nodup) (hi:X.N[i]?=some x) (hx:Loc X.env.scope x) (he:PE X e te) (hs:swapsWith e (some (.Name x pos')) pos.line X.env=pure false:=by rfl) (hf:X.fn x=true \/ X.env.scope.names.lookup x=some .local:=by first | exact .inl rfl | exact .inr rfl | assumption) :
    PS X (.Assign [.Name x pos'] e pos) (tAsg te (uv2 i)):=by
 intro pins s σ H D I h;refine wpAny_Assign_Name (thn (he pins s σ H _ I h) λ v s1 ⟨y,H1,I1,r1,q1⟩=>?_) hs;exact wg1 I1 hN hi hx r1 (λ s2 I2=>⟨_,H1,I2,q1⟩) hf
end
section
variable {X:Cx} {pos:Pos}
def uz2 (c:TT) (tb:TS):TS:=λ D σ H=>∃ W:Nat->St->Hp->Prop,(∃ m,W m σ H) /\ ∀ m σ H,W m σ H ->
 c σ H λ b H1=>if b=true then ∃ N:St->Hp->Prop,(∀ σ' H',N σ' H'->∃ m',m' < m /\ W m' σ' H') /\ tb { D with nx:=N,ct:=N,bk:=D.nx } σ H1 else D.nx σ H1
theorem tc2 {c:Expr} {body:List Stmt} {tc:TT} {tb:TS} (hp:PassesOwn [8] X.A X.env X.xe) (hc:PT X c tc) (hb:PSs X body tb):PS X (.While c body [] pos) (uz2 tc tb):=by
 intro pins s σ H D I h;obtain ⟨W,⟨m0,w0⟩,turn⟩:=h;refine wpAny_While (codeAny_whileLoop (λ n s'=>∃ σ' H',Inv X pins σ' H' s' /\ W n σ' H') ?_ m0 ⟨σ,H,I,w0⟩);rintro n s1 ⟨σ1,H1,I1,w1⟩;refine wpAny_passesOwn hp (thn (hc pins s1 σ1 H1 _ I1 (turn n σ1 H1 w1)) λ b s2 ⟨H2,I2,q2⟩=>?_);cases b with
 | true =>
  obtain ⟨N,hN,q2⟩:=q2;rw [if_pos rfl];refine wpAny_passesOwn hp (thn (hb pins s2 σ1 H2 _ I2 q2) λ f s3 q3=>?_);cases f with
  | next =>
   obtain ⟨σ3,H3,I3,n3⟩:=q3;obtain ⟨m',hm,w3⟩:=hN σ3 H3 n3;exact ⟨m',hm,σ3,H3,I3,w3⟩
  | cont =>
   obtain ⟨σ3,H3,I3,n3⟩:=q3;obtain ⟨m',hm,w3⟩:=hN σ3 H3 n3;exact ⟨m',hm,σ3,H3,I3,w3⟩
  | brk=>exact q3
  | ret v=>exact q3
 | false =>
  rw [if_neg Bool.false_ne_true];exact wpAny_execs_nil ⟨σ1,H2,I2,q2⟩
end
structure It where
 go:Nat->Hp->Prop
 yld:Nat->Hp->V->Hp->Prop
 stop:Nat->Hp->Prop
def FpOk (X:Cx) (pins:[6]) (H:Hp) (b:Addr):Prop :=
 H b=none /\ b ≠ X.env.locals /\ b ∉ X.fs /\ (b ∈ X.ex \/ X.s₀.heap.objs.size<=b) /\ (∀ x c,X.env.cells.lookup x=some c->c ≠ b) /\ ∀ p ∈ X.pn ++ pins,p.1 ≠ b
theorem Inv.fpOk {X:Cx} {pins:[6]} {σ:St} {H H':Hp} {s:Shared} {b:Addr} (I:[5]) (hb:s.heap.objs.size<=b) (hn:H' b=none):FpOk X pins H' b:=by
 refine ⟨hn,Nat.ne_of_gt (Nat.lt_of_lt_of_le I.lt hb),I.nofs hb,.inr (Nat.le_trans I.sz hb),λ x c e z=>?_,λ p hp z=>?_⟩
 ·obtain ⟨v,q⟩:=I.cell x c e;exact absurd (Nat.lt_of_lt_of_le q.lt (by rw [z]; exact hb)) (Nat.lt_irrefl _)
 ·exact absurd (Nat.lt_of_lt_of_le (Heap.lt_size (I.pin p hp).1) (by rw [z]; exact hb)) (Nat.lt_irrefl _)
structure Turn (P:Program) (w:World) (K:PySem.W.Frag) (tg:Expr) (J:It) (fp:List Addr) (it:Addr) (tn:Nat->Heap->Prop):Prop where
 mem:it ∈ fp
 obj:∀ i h,tn i h->∀ b ∈ fp,∃ o,h.get? b=some o /\ ∀ v,o.data ≠ .cell v
 keep:∀ i h h',tn i h->(∀ b ∈ fp,∀ o,h.get? b=some o->h'.get? b=some o)->tn i h'
 item:∀ (X:Cx),X.prog=P->X.w=w->X.K=K->X.calm=true->∀ (i:Nat) (pins:List (Addr × Obj)) (s:Shared) (σ:St) (H:Hp) (E:Value->Shared->Prop),Inv X pins σ H s->(∀ b ∈ fp,FpOk X pins H b)->tn i s.heap->J.go i H ->
  wpAny (model P w) X.A (pyNext (.ref it)) (λ r s1=>∃ u,r=some u ∧
   wpAny (model P w) X.A (letOwnedTupleGo tg (.ref it) u) (λ _ s2=>∃ x H',Inv X pins σ H' s2 /\ RelV x u /\ J.yld i H x H' /\ tn (i + 1) s2.heap /\ ∀ b ∈ fp,H' b=none) E s1) E s
 done:∀ (X:Cx),X.prog=P->X.w=w->X.K=K->X.calm=true->∀ (i:Nat) (pins:List (Addr × Obj)) (s:Shared) (σ:St) (H:Hp) (E:Value->Shared->Prop),Inv X pins σ H s->(∀ b ∈ fp,FpOk X pins H b)->tn i s.heap->J.stop i H ->
  wpAny (model P w) X.A (pyNext (.ref it)) (λ r s1=>r=none /\ Inv X pins σ H s1) E s
 self:∀ (A:Around) (i:Nat) (s:Shared) (Q:Value->Shared->Prop) (E:Value->Shared->Prop),tn i s.heap->Q (.ref it) s->wpAny (model P w) A (pyIter (.ref it)) Q E s
abbrev TI:=St->Hp->(It->Hp->Prop)->Prop
def PIE (X:Cx) (pins:[6]) (σ:St) (tg:Expr) (R:It->Hp->Prop) (itv:Value) (s2:Shared):Prop :=
 ∃ (it:Addr) (fp:List Addr) (tn:Nat->Heap->Prop) (J:It) (H':Hp),itv=.ref it /\ Inv X pins σ H' s2 /\ Turn X.prog X.w X.K tg J fp it tn /\ tn 0 s2.heap /\ (∀ b ∈ fp,FpOk X pins H' b) /\ R J H'
def PI (X:Cx) (tg iter:Expr) (wi:TI):Prop :=
 ∀ (pins:[6]) (s:Shared) (σ:St) (H:Hp) (R:It->Hp->Prop),Inv X pins σ H s->wi σ H R ->
  wpAny [8] X.A (eval iter X.env) (λ v s1=>wpAny [8] X.A (pyIter v) (PIE X pins σ tg R) X.xe s1) X.xe s
theorem yv1 {M:Model} {A:Around} {E:[2]} {s:Shared} {tg:Expr} {it:Addr} {u:Value} {o:Obj} {n:String} {vs:Array Value} {Q:Unit->Shared->Prop} (ho:s.heap.get? it=some o) (hc:o.cls=.type n) (hd:o.data=.fields vs)
    (hn:["enumerate", "zip", "dict_itemiterator", "dict_reverseitemiterator", "odict_iterator", "itertools.zip_longest", "itertools.pairwise"].contains n=false) (hQ:Q () s):wpAny M A (letOwnedTupleGo tg (.ref it) u) Q E s:=by
 unfold letOwnedTupleGo
 cases tg <;> first
  | exact wpAny_pure hQ
  | (cases u <;> first
      | exact wpAny_pure hQ
      | (refine wpAny_bind (wpAny_load ho ?_)
         rw [hc,hd];show wpAny M A (if (["enumerate", "zip", "dict_itemiterator", "dict_reverseitemiterator", "odict_iterator", "itertools.zip_longest", "itertools.pairwise"].contains n && vs[0]? == some (rawInt _))=true then _ else _) Q E s;rw [if_neg (by intro h; rw [hn,Bool.false_and] at h; cases h)];exact wpAny_pure hQ))
def Itl (K:PySem.W.Frag) (a:Addr):It :=
 ⟨λ i H=>∃ xs x,SqL K H a xs /\ xs[i]?=some x,λ i H x H'=>H'=H /\ ∀ xs,SqL K H a xs->xs[i]?=some x,λ i H=>∃ xs,SqL K H a xs /\ xs.length<=i⟩
def Itt (K:PySem.W.Frag) (a:Addr):It :=
 ⟨λ i H=>∃ xs x,SqT K H a xs /\ xs[i]?=some x,λ i H x H'=>H'=H /\ ∀ xs,SqT K H a xs->xs[i]?=some x,λ i H=>∃ xs,SqT K H a xs /\ xs.length<=i⟩
def Itr (lo:Int) (n:Nat):It:=⟨λ i _=>i < n,λ i H x H'=>H'=H /\ x=.int (lo + i),λ i _=>n<=i⟩
theorem vn1 {P:Program} {w:World} {K:PySem.W.Frag} {tg:Expr} (a it:Addr):Turn P w K tg (Itl K a) [it] it (λ i h=>h.IsListIter it a i) where
 mem:=by simp
 obj:=λ i h st b hb=>by
  have e:b=it:=by simpa using hb
  subst e;obtain ⟨o,e,c,d⟩:=st;exact ⟨o,e,λ v z=>by rw [d] at z; cases z⟩
 keep:=λ i h h' st k=>st.at λ o e=>k it [24] o e
 item:=by
  intro X hP hw hK hc i pins s σ H E I hf st hg;subst hP hw hK;obtain ⟨xs,x,hq,hx⟩:=hg;obtain ⟨its,rv,p,hz⟩:=I.list hq;obtain ⟨u,hu,ru⟩:=rv.get hx;obtain ⟨f0,f1,f2,f3,f4,f5⟩:=hf it [24];refine wpAny_pyNext_list_item st p.isList (x:=u) (by simpa using hu) λ h' st' sb=>?_;have I1:Inv X pins σ H { s with heap:=h' }:=I.turned (t':=s.toks) (λ b o hb e=>(sb.2 b hb).trans e) f0 f1 f3 f4 f5;obtain ⟨o,e,c,d⟩:=id st';exact ⟨u,rfl,yv1 (s:={ s with heap:=h' }) e c d [20] ⟨x,H,I1,ru,⟨rfl,λ ys hy=>by rw [I.list_inj hy hq]; exact hx⟩,st',λ b hb=>(hf b hb).1⟩⟩
 done:=by
  intro X hP hw hK hc i pins s σ H E I hf st hg;subst hP hw hK;obtain ⟨xs,hq,hx⟩:=hg;obtain ⟨its,rv,p,hz⟩:=I.list hq;obtain ⟨f0,f1,f2,f3,f4,f5⟩:=hf it [24];have hl:=rv.length;exact wpAny_pyNext_list_end (I.ok.hd hc) st p.isList (by simp; omega) λ h' eb=>⟨rfl,I.turned (t':=s.toks) (λ b o hb e=>eb b o hb e) f0 f1 f3 f4 f5⟩
 self:=λ _ _ _ _ _ st h=>wpAny_pyIter_listiter st h
theorem vk1 {P:Program} {w:World} {K:PySem.W.Frag} {tg:Expr} (a it:Addr):Turn P w K tg (Itt K a) [it] it (λ i h=>h.IsTupleIter it a i) where
 mem:=by simp
 obj:=λ i h st b hb=>by
  have e:b=it:=by simpa using hb
  subst e;obtain ⟨o,e,c,d⟩:=st;exact ⟨o,e,λ v z=>by rw [d] at z; cases z⟩
 keep:=λ i h h' st k=>st.at λ o e=>k it [24] o e
 item:=by
  intro X hP hw hK hc i pins s σ H E I hf st hg;subst hP hw hK;obtain ⟨xs,x,hq,hx⟩:=hg;obtain ⟨its,rv,p,hz⟩:=I.tuple hq;obtain ⟨u,hu,ru⟩:=rv.get hx;obtain ⟨f0,f1,f2,f3,f4,f5⟩:=hf it [24];refine wpAny_pyNext_tuple_item st (show s.heap.IsTuple a its.toArray from p) (x:=u) (by simpa using hu) λ h' st' sb=>?_;have I1:Inv X pins σ H { s with heap:=h' }:=I.turned (t':=s.toks) (λ b o hb e=>(sb.2 b hb).trans e) f0 f1 f3 f4 f5;obtain ⟨o,e,c,d⟩:=id st';exact ⟨u,rfl,yv1 (s:={ s with heap:=h' }) e c d [20] ⟨x,H,I1,ru,⟨rfl,λ ys hy=>by rw [I.tuple_inj hy hq]; exact hx⟩,st',λ b hb=>(hf b hb).1⟩⟩
 done:=by
  intro X hP hw hK hc i pins s σ H E I hf st hg;subst hP hw hK;obtain ⟨xs,hq,hx⟩:=hg;obtain ⟨its,rv,p,hz⟩:=I.tuple hq;obtain ⟨f0,f1,f2,f3,f4,f5⟩:=hf it [24];have hl:=rv.length;exact wpAny_pyNext_tuple_end (I.ok.hd hc) st (show s.heap.IsTuple a its.toArray from p) (by simp; omega) λ h' eb=>⟨rfl,I.turned (t':=s.toks) (λ b o hb e=>eb b o hb e) f0 f1 f3 f4 f5⟩
 self:=λ _ _ _ _ _ st h=>wpAny_pyIter_tupleiter st h
theorem uk1 {P:Program} {w:World} {K:PySem.W.Frag} {tg:Expr} (it:Addr) (lo:Int) (n:Nat):Turn P w K tg (Itr lo n) [it] it (λ i h=>IsRangeIter h it (lo + (i:Nat) * 1) ((n:Int) - (i:Nat)) 1) where
 mem:=by simp
 obj:=λ i h st b hb=>by
  have e:b=it:=by simpa using hb
  subst e
  exact ⟨_,st,λ v z=>by
   have z':Data.fields _=Data.cell v:=z;cases z'⟩
 keep:=λ i h h' st k=>k it [24] _ st
 item:=by
  intro X hP hw hK hc i pins s σ H E I hf st hg;subst hP hw hK;obtain ⟨f0,f1,f2,f3,f4,f5⟩:=hf it [24];have W:=Walks.range (prog:=X.prog) (w:=X.w) (I.ok.hd hc) it lo 1 n;refine W.item i s _ _ hg st λ v h' tk hv st' kk=>?_;obtain ⟨t,rfl⟩:=hv;have I1:Inv X pins σ H [32]:=I.turned (λ b o hb e=>kk b o (by simpa using hb) e) f0 f1 f3 f4 f5;refine ⟨_,rfl,yv1 (s:=[32]) (n := "range_iterator") st' rfl rfl [20] ⟨.int (lo + i),H,I1,⟨t,?_⟩,⟨rfl,rfl⟩,st',λ b hb=>(hf b hb).1⟩⟩;rw [Int.mul_one]
 done:=by
  intro X hP hw hK hc i pins s σ H E I hf st hg;subst hP hw hK;obtain ⟨f0,f1,f2,f3,f4,f5⟩:=hf it [24];exact wpAny_pyNext_range_end (I.ok.hd hc) st (by have:n<=i:=hg; omega) λ h' eb=>⟨rfl,I.turned (t':=s.toks) (λ b o hb e=>eb b o hb e) f0 f1 f3 f4 f5⟩
 self:=λ _ _ _ _ _ st h=>wpAny_pyIter_rangeiter st h
section
variable {X:Cx} {tg:Expr}
theorem vh1 {pins:[6]} {σ:St} {H:Hp} {s:Shared} {R:It->Hp->Prop} {E:[2]} {lo hi:Int} {t u v:Tok} {tk:Nat} (I:[5]) (h1 : -(2 ^ 62)<=lo) (h2:lo < 2 ^ 62) (h3 : -(2 ^ 62)<=hi) (h4:hi < 2 ^ 62)
    (q:R (Itr lo (hi - lo).toNat) H):wpAny [8] X.A (pyIter (.ref s.heap.objs.size)) (PIE X pins σ tg R) E { s with heap:=s.heap.push [35],toks:=tk }:=by
 refine wpAny_pyIter_range (IsRange.new ..) (small_one h1 h2 h3 h4) ?_;have I1:Inv X pins σ H { s with heap:=s.heap.push [35],toks:=tk }:=I.kept λ b o e=>Heap.get?_push_of_some _ e
 refine ⟨(s.heap.push [35]).objs.size,[(s.heap.push [35]).objs.size],_,_,H,rfl,
  I1.kept (t':=tk) λ b o e=>Heap.get?_push_of_some _ e,uk1 _ lo (hi - lo).toNat,?_,λ b hb=>?_,q⟩
 ·have e1:lo + ((0:Nat):Int) * 1=lo:=by simp
  have e2:(((hi - lo).toNat:Nat):Int) - ((0:Nat):Int)=Builtin.Range.rangeSize lo hi 1:=by rw [rangeSize_one]; split <;> omega
  show IsRangeIter _ _ (lo + ((0:Nat):Int) * 1) ((((hi - lo).toNat:Nat):Int) - ((0:Nat):Int)) 1;rw [e1,e2];exact Heap.get?_push_size _ rfl
 ·have e:b=(s.heap.push [35]).objs.size:=by simpa using hb
  subst e;exact I1.fpOk [18] (I1.hok.fresh [18])
def ux3 (ta:TA):TI:=λ σ H R=>ta σ H λ vs H1=>∃ j:Int,vs=[.int j] /\ -(2 ^ 62)<=j /\ j < 2 ^ 62 /\ R (Itr 0 j.toNat) H1
def vx3 (ta:TA):TI:=λ σ H R=>ta σ H λ vs H1=>∃ i j:Int,vs=[.int i,.int j] /\ (-(2 ^ 62)<=i /\ i < 2 ^ 62 /\ -(2 ^ 62)<=j /\ j < 2 ^ 62) /\ R (Itr i (j - i).toNat) H1
theorem tq1 {a:Expr} {ta:TA} {p pos:Pos} (hg:Gl X "range") (hm:X.mg "range" = none) (ha:PA X [a] ta) (hs:starEach [a] X.env=[(false,eval a X.env)]:=by rfl):PI X tg (.Call (.Name "range" p) [a] [] pos) (ux3 ta):=by
 intro pins s σ H R I h;refine Call_ (zm0 I hg hm boot_range (PyProof.Rows.callWith_type1 (thn (ha pos pins s σ H _ I h) λ us s1 ⟨vs,H1,I1,r1,q1⟩=>?_) hs rfl));obtain ⟨j,e,q1,q2,q⟩:=q1;subst e;cases r1 with
 | cons r rr =>
  cases rr;obtain ⟨t,rfl⟩:=r;exact call_range_1 (vh1 I1 [1] [1] q1 q2 (by simpa using q))
theorem uq1 {a b:Expr} {ta:TA} {p pos:Pos} (hg:Gl X "range") (hm:X.mg "range" = none) (ha:PA X [a,b] ta) (hs:starEach [a,b] X.env=[(false,eval a X.env),(false,eval b X.env)]:=by rfl) (hs2:starEach [b] X.env=[(false,eval b X.env)]:=by rfl) :
    PI X tg (.Call (.Name "range" p) [a,b] [] pos) (vx3 ta):=by
 intro pins s σ H R I h;refine Call_ (zm0 I hg hm boot_range (PyProof.Rows.callWith_type1 (thn (ha pos pins s σ H _ I h) λ us s1 ⟨vs,H1,I1,r1,q1⟩=>?_) (by rw [hs,hs2]) (by rw [hs2]; rfl)));obtain ⟨i,j,e,⟨q1,q2,q3,q4⟩,q⟩:=q1;subst e;cases r1 with
 | cons r rr =>
  cases rr with
  | cons r' rr =>
   cases rr;obtain ⟨t,rfl⟩:=r;obtain ⟨t',rfl⟩:=r';exact call_range_2 (vh1 I1 q1 q2 q3 q4 q)
def tFor (wi:TI) (g:TG) (tb:TS):TS:=λ D σ H=>wi σ H λ J H1=>∃ W:Nat->Nat->St->Hp->Prop,(∃ m,W 0 m σ H1) /\ ∀ i m σ H,W i m σ H ->
 (J.stop i H /\ D.nx σ H) \/ (J.go i H /\ ∃ N:St->Hp->Prop,(∀ σ' H',N σ' H'->∃ m',m' < m /\ W (i + 1) m' σ' H') /\ ∀ x H',J.yld i H x H'->g x σ H' λ σ2 H2=>tb { D with nx:=N,ct:=N,bk:=D.nx } σ2 H2)
def ys0 (fp:List Addr) (h:Heap):List (Addr × Obj):=fp.filterMap λ b=>(h.get? b).map λ o=>(b,o)
theorem xg0 {fp:List Addr} {h:Heap} {b:Addr} {o:Obj} (hb:b ∈ fp) (e:h.get? b=some o):(b,o) ∈ ys0 fp h:=List.mem_filterMap.mpr ⟨b,hb,by rw [e]; rfl⟩
theorem vr1 {fp:List Addr} {h:Heap} {p:Addr × Obj} (hp:p ∈ ys0 fp h):p.1 ∈ fp /\ h.get? p.1=some p.2:=by
 obtain ⟨b,hb,e⟩:=List.mem_filterMap.mp hp;cases q:h.get? b with
 | none=>rw [q] at e; cases e
 | some o =>
  rw [q] at e;have e':(b,o)=p:=Option.some.inj e;subst e';exact ⟨hb,q⟩
theorem Inv.pinned {pins:[6]} {σ:St} {H:Hp} {s:Shared} {fp:List Addr} (I:[5]) (hf:∀ b ∈ fp,FpOk X pins H b) (ho:∀ b ∈ fp,∃ o,s.heap.get? b=some o /\ ∀ v,o.data ≠ .cell v):Inv X (pins ++ ys0 fp s.heap) σ H s :=
 I.pins_of λ p hp=>(List.mem_append.mp hp).elim (λ z=>I.pin p (mem_append_right _ z)) λ z=>by
  obtain ⟨hb,e⟩:=vr1 z;obtain ⟨f0,f1,f2,_⟩:=hf p.1 hb;obtain ⟨o,e',d⟩:=ho p.1 hb;rw [e] at e'; cases e';exact ⟨e,f0,f1,f2,d⟩
theorem Inv.unpinned {pins pl:[6]} {σ:St} {H:Hp} {s:Shared} (I:Inv X (pins ++ pl) σ H s):Inv X pins σ H s:=I.pins_of λ p hp=>I.pin p (mem_append_right _ (mem_append_left _ hp))
theorem vf3 {iter:Expr} {body:List Stmt} {wi:TI} {g:TG} {tb:TS} {pos:Pos} (hp:PassesOwn [8] X.A X.env X.xe) (hc:X.calm=true) (hi:PI X tg iter wi) (hg:PG X tg g) (hb:PSs X body tb)
    (hs:∀ x,foldedSetIterable iter X.env x=pure x:=by intro _; rfl):PS X (.For tg iter body [] pos) (tFor wi g tb):=by
 intro pins s σ H D I h;refine wpAny_For (thn (hi pins s σ H _ I h) λ v s1 h1=>thn h1 λ itv s2 h2=>?_) hs;obtain ⟨it,fp,tn,J,H2,e,I2,T,st2,f2,W,⟨m0,w0⟩,turn⟩:=h2;subst e;have stat:∀ {H':Hp},(∀ b ∈ fp,H' b=none)->∀ b ∈ fp,FpOk X pins H' b:=λ hn b hb=>⟨hn b hb,(f2 b hb).2⟩;refine codeAny_forLoop_any (λ n s'=>∃ i σ' H',Inv X pins σ' H' s' /\ tn i s'.heap /\ (∀ b ∈ fp,H' b=none) /\ W i n σ' H') ?_ m0 ⟨0,σ,H2,I2,st2,λ b hb=>(f2 b hb).1,w0⟩;rintro n s3 ⟨i,σ3,H3,I3,st3,fr3,w3⟩;rcases turn i n σ3 H3 w3 with ⟨stop,qn⟩ | ⟨go,N,hN,step⟩
 ·refine wpAny_passesOwn hp (thn (T.done X rfl rfl rfl hc i pins s3 σ3 H3 X.xe I3 (stat fr3) st3 stop) λ r s4 ⟨hr,I4⟩=>?_);subst hr;exact wpAny_execs_nil ⟨σ3,H3,I4,qn⟩
 ·refine wpAny_passesOwn hp (thn (T.item X rfl rfl rfl hc i pins s3 σ3 H3 X.xe I3 (stat fr3) st3 go) λ r s4 ⟨u,hr,h4⟩=>?_);subst hr;refine wpAny_passesOwn hp (thn h4 λ _ s5 ⟨x,H5,I5,r5,y5,st5,fr5⟩=>?_);have I5':=I5.pinned (stat fr5) (T.obj _ _ st5);refine wpAny_passesOwn hp (thn (hg _ s5 σ3 H5 x u _ I5' r5 (step x H5 y5)) λ _ s6 ⟨σ6,H6,I6,q6⟩=>?_);refine wpAny_passesOwn hp (thn (hb _ s6 σ6 H6 _ I6 q6) λ f s7 q7=>?_)
  have again:∀ {σ7:St} {H7:Hp},Inv X (pins ++ ys0 fp s5.heap) σ7 H7 s7->N σ7 H7->∃ m,m < n /\ ∃ i σ' H',Inv X pins σ' H' s7 /\ tn i s7.heap /\ (∀ b ∈ fp,H' b=none) /\ W i m σ' H':=λ {σ7 H7} I7 n7=>by
   obtain ⟨m',hm,w7⟩:=hN σ7 H7 n7;refine ⟨m',hm,i + 1,σ7,H7,I7.unpinned,T.keep _ _ _ st5 λ b hb o e=>(I7.pin (b,o) (mem_append_right _ (mem_append_right _ (xg0 hb e)))).1,λ b hb=>?_,w7⟩;obtain ⟨o,e,d⟩:=T.obj _ _ st5 b hb;exact (I7.pin (b,o) (mem_append_right _ (mem_append_right _ (xg0 hb e)))).2.1
  cases f with
  | next=>obtain ⟨σ7,H7,I7,n7⟩:=q7; exact again I7 n7
  | cont=>obtain ⟨σ7,H7,I7,n7⟩:=q7; exact again I7 n7
  | brk=>obtain ⟨σ7,H7,I7,q7⟩:=q7; exact ⟨σ7,H7,I7.unpinned,q7⟩
  | ret v=>obtain ⟨x7,σ7,H7,I7,r7,q7⟩:=q7; exact ⟨x7,σ7,H7,I7.unpinned,r7,q7⟩
end
abbrev R2:=V->V->Hp->VK->Prop
def OpR (X:Cx) (f:Value->Value->Sem Value) (r:R2):Prop :=
 ∀ (pins:[6]) (s:Shared) (σ:St) (H:Hp) (x y:V) (v u:Value) (Q:VK),Inv X pins σ H s->RelV x v->RelV y u->r x y H Q ->
  wpAny [8] X.A (f v u) (EP X pins σ Q) X.xe s
def CallR (X:Cx) (f:Value) (r:List V->Hp->VK->Prop):Prop :=
 ∀ (pins:[6]) (s:Shared) (σ:St) (H:Hp) (xs:List V) (us:[23]) (Q:VK),Inv X pins σ H s->Vals xs us->r xs H Q ->
  wpAny [8] X.A (call f us) (EP X pins σ Q) X.xe s
def tOp (r:R2) (ta tb:TE):TE:=λ σ H Q=>ta σ H λ x H1=>tb σ H1 λ y H2=>r x y H2 Q
def rI (C:Int->Int->Prop) (g:Int->Int->V):R2:=λ x y H Q=>∃ i j,x=.int i /\ y=.int j /\ C i j /\ Q (g i j) H
def rI0 (g:Int->Int->V):R2:=λ x y H Q=>∃ i j,x=.int i /\ y=.int j /\ Q (g i j) H
section
variable {X:Cx} {a b c:Expr} {ta tb tc:TE} {pos:Pos}
theorem binT (ha:PE X a ta) (hb:PE X b tb) {pins:[6]} {s:Shared} {σ:St} {H:Hp} {R:V->V->Hp->Prop} (I:[5])
    (h:ta σ H λ x H1=>tb σ H1 λ y H2=>R x y H2) {Q:[2]} {f:Value->Value->Sem Value}
    (hf:∀ v u s2 x y H2,Inv X pins σ H2 s2->RelV x v->RelV y u->R x y H2->wpAny [8] X.A (f v u) Q X.xe s2) :
    wpAny [8] X.A (eval a X.env) (λ v s₁=>wpAny [8] X.A (eval b X.env) (λ u s₂=>wpAny [8] X.A (f v u) Q X.xe s₂) X.xe s₁) X.xe s:=by
 refine thn (ha pins s σ H _ I h) λ v s1 ⟨x,H1,I1,r1,q1⟩=>?_;refine thn (hb pins s1 σ H1 _ I1 q1) λ u s2 ⟨y,H2,I2,r2,q2⟩=>?_;exact hf v u s2 x y H2 I2 r1 r2 q2
theorem tv3 {op:Operator} {r:R2} (ho:OpR X (binaryOp op) r) (ha:PE X a ta) (hb:PE X b tb):PE X (.BinOp a op b pos) (tOp r ta tb):=by
 intro pins s σ H Q I h;exact wpAny_BinOp (binT ha hb I h λ v u s2 x y H2 I2 rx ry q=>ho pins s2 σ H2 x y v u Q I2 rx ry q)
theorem opI {f:Value->Value->Sem Value} {C:Int->Int->Prop} {g:Int->Int->Int}
    (rule:∀ (i j:Int) (t u:Tok) (s:Shared) (Q:[2]) (E:[2]),C i j->Q (.int (g i j) s.toks) { s with toks:=s.toks + 1 }->wpAny [8] X.A (f (.int i t) (.int j u)) Q E s) :
    OpR X f (rI C λ i j=>.int (g i j)):=by
 intro pins s σ H x y v u Q I rx ry h;obtain ⟨i,j,rfl,rfl,hc,q⟩:=h;obtain ⟨t,rfl⟩:=rx;obtain ⟨t',rfl⟩:=ry;exact rule i j t t' s _ _ hc ⟨.int (g i j),H,I.tok _,⟨_,rfl⟩,q⟩
theorem opI0 {f:Value->Value->Sem Value} {g:Int->Int->Int}
    (rule:∀ (i j:Int) (t u:Tok) (s:Shared) (Q:[2]) (E:[2]),Q (.int (g i j) s.toks) { s with toks:=s.toks + 1 }->wpAny [8] X.A (f (.int i t) (.int j u)) Q E s) :
    OpR X f (rI0 λ i j=>.int (g i j)):=by
 intro pins s σ H x y v u Q I rx ry h;obtain ⟨i,j,rfl,rfl,q⟩:=h;obtain ⟨t,rfl⟩:=rx;obtain ⟨t',rfl⟩:=ry;exact rule i j t t' s _ _ ⟨.int (g i j),H,I.tok _,⟨_,rfl⟩,q⟩
theorem opB0 {f:Value->Value->Sem Value} {g:Int->Int->Bool}
    (rule:∀ (i j:Int) (t u:Tok) (s:Shared) (Q:[2]) (E:[2]),Q (.bool (g i j)) s->wpAny [8] X.A (f (.int i t) (.int j u)) Q E s) :
    OpR X f (rI0 λ i j=>.bl (g i j)):=by
 intro pins s σ H x y v u Q I rx ry h;obtain ⟨i,j,rfl,rfl,q⟩:=h;obtain ⟨t,rfl⟩:=rx;obtain ⟨t',rfl⟩:=ry;exact rule i j t t' s _ _ ⟨.bl (g i j),H,I,rfl,q⟩
def CPow (i j:Int):Prop:=0<=j /\ j<=1000000 /\ i.natAbs < 2 ^ 64
def CMul (i j:Int):Prop:=(-(2 ^ 64) < i /\ i < 2 ^ 64) \/ (-(2 ^ 64) < j /\ j < 2 ^ 64)
theorem CMul.ok {i j:Int} (h:CMul i j):IntMulOk i j:=by
 rcases h with ⟨h1,h2⟩ | ⟨h1,h2⟩
 ·exact .of_left (intBits_le_64 h1 h2)
 ·exact .of_right (intBits_le_64 h1 h2)
theorem op_add:OpR X (binaryOp .Add) (rI0 λ i j=>.int (i + j)):=opI0 λ _ _ _ _ _ _ _ q=>add_int q
theorem vh3:OpR X (binaryOp .Sub) (rI0 λ i j=>.int (i - j)):=opI0 λ _ _ _ _ _ _ _ q=>sub_int q
theorem xi3:OpR X (binaryOp .Mod) (rI (λ _ j=>0 < j) λ i j=>.int (i % j)):=opI λ i j _ _ _ _ _ hc q=>by
 have h1:(0:Int) < j:=hc;exact mod_int' [1] (by rw [Int.fmod_eq_emod_of_nonneg i [1]]; exact q)
theorem th3:OpR X (binaryOp .Pow) (rI CPow λ i j=>.int (i ^ j.toNat)):=opI λ _ _ _ _ _ _ _ hc q=>pow_int_small hc.1 hc.2.1 hc.2.2 q
end
def scal:V->V->Bool
 | .non,.non=>true | .non,.int _=>true | .int _,.non=>true | .non,.bl _=>true | .bl _,.non=>true | .non,.str _=>true | .str _,.non=>true
 | .int _,.int _=>true | .bl _,.bl _=>true | .str _,.str _=>true | .byt _,.byt _=>true
 | .int _,.str _=>true | .str _,.int _=>true | .bl _,.str _=>true | .str _,.bl _=>true
 | _,_=>false
def rEq:R2:=λ x y H Q=>scal x y=true /\ Q (.bl (decide (x=y))) H
def rNe:R2:=λ x y H Q=>scal x y=true /\ Q (.bl (!decide (x=y))) H
theorem sx1 {i j:Int}:decide (V.int i=V.int j)=(i == j):=by
 rw [Bool.eq_iff_iff];simp
theorem zm2 {i j:Bool}:decide (V.bl i=V.bl j)=(i == j):=by
 rw [Bool.eq_iff_iff];simp
theorem tx1 {i j:Str}:decide (V.str i=V.str j)=(i == j):=by
 rw [Bool.eq_iff_iff];simp
theorem xy1 {i j:Array UInt8}:decide (V.byt i=V.byt j)=(i.toList == j.toList):=by
 rw [Bool.eq_iff_iff];cases i;cases j;simp
section
variable {X:Cx} {a b c:Expr} {ta tb tc:TE} {pos:Pos}
theorem xd0 {pins:[6]} {σ:St} {H:Hp} {s:Shared} {Q:VK} {k k':Bool} (I:[5]) (q:Q (.bl k) H) (e:k=k'):EP X pins σ Q (.bool k') s:=by
 subst e;exact ⟨.bl k,H,I,rfl,q⟩
theorem op_eq:OpR X (compareOp .Eq) rEq:=by
 intro pins s σ H x y v u Q I rx ry h;obtain ⟨hs,q⟩:=h;cases x with
 | non =>
  cases rx;cases y with
  | non=>cases ry; exact PySem.EqNone.eq_none_none (xd0 I q [24])
  | bl j=>cases ry; exact PySem.EqNone.eq_none_bool (xd0 I q [24])
  | int j=>obtain ⟨t',rfl⟩:=ry; exact PySem.EqNone.eq_none_int (xd0 I q [24])
  | str j=>obtain ⟨t',rfl⟩:=ry; exact PySem.EqNone.eq_none_str (xd0 I q [24])
  | _=>exact absurd (show false=true from hs) Bool.false_ne_true
 | bl i =>
  cases rx;cases y with
  | non=>cases ry; exact PySem.EqNone.eq_bool_none (xd0 I q [24])
  | bl j=>cases ry; exact eq_bool (xd0 I q zm2)
  | str j=>obtain ⟨t',rfl⟩:=ry; exact PySem.EqMixed.eq_bool_str (xd0 I q [24])
  | _=>exact absurd (show false=true from hs) Bool.false_ne_true
 | int i =>
  obtain ⟨t,rfl⟩:=rx;cases y with
  | non=>cases ry; exact PySem.EqNone.eq_int_none (xd0 I q [24])
  | int j=>obtain ⟨t',rfl⟩:=ry; exact eq_int (xd0 I q sx1)
  | str j=>obtain ⟨t',rfl⟩:=ry; exact PySem.EqMixed.eq_int_str (xd0 I q [24])
  | _=>exact absurd (show false=true from hs) Bool.false_ne_true
 | str i =>
  obtain ⟨t,rfl⟩:=rx;cases y with
  | non=>cases ry; exact PySem.EqNone.eq_str_none (xd0 I q [24])
  | bl j=>cases ry; exact PySem.EqMixed.eq_str_bool (xd0 I q [24])
  | int j=>obtain ⟨t',rfl⟩:=ry; exact PySem.EqMixed.eq_str_int (xd0 I q [24])
  | str j=>obtain ⟨t',rfl⟩:=ry; exact eq_str (xd0 I q tx1)
  | _=>exact absurd (show false=true from hs) Bool.false_ne_true
 | byt i =>
  obtain ⟨t,rfl⟩:=rx;cases y with
  | byt j=>obtain ⟨t',rfl⟩:=ry; exact PySem.W.eq_bytes (xd0 I q xy1)
  | _=>exact absurd (show false=true from hs) Bool.false_ne_true
 | _=>cases y <;> exact absurd (show false=true from hs) Bool.false_ne_true
theorem op_ne:OpR X (compareOp .NotEq) rNe:=by
 intro pins s σ H x y v u Q I rx ry h;obtain ⟨hs,q⟩:=h;cases x with
 | non =>
  cases rx;cases y with
  | non=>cases ry; exact PySem.EqNone.ne_none_none (xd0 I q [24])
  | bl j=>cases ry; exact PySem.EqNone.ne_none_bool (xd0 I q [24])
  | int j=>obtain ⟨t',rfl⟩:=ry; exact PySem.EqNone.ne_none_int (xd0 I q [24])
  | str j=>obtain ⟨t',rfl⟩:=ry; exact PySem.EqNone.ne_none_str (xd0 I q [24])
  | _=>exact absurd (show false=true from hs) Bool.false_ne_true
 | bl i =>
  cases rx;cases y with
  | non=>cases ry; exact PySem.EqNone.ne_bool_none (xd0 I q [24])
  | bl j=>cases ry; exact ne_bool (xd0 I q (congrArg not zm2))
  | str j=>obtain ⟨t',rfl⟩:=ry; exact PySem.EqMixed.ne_bool_str (xd0 I q [24])
  | _=>exact absurd (show false=true from hs) Bool.false_ne_true
 | int i =>
  obtain ⟨t,rfl⟩:=rx;cases y with
  | non=>cases ry; exact PySem.EqNone.ne_int_none (xd0 I q [24])
  | int j=>obtain ⟨t',rfl⟩:=ry; exact ne_int (xd0 I q (congrArg not sx1))
  | str j=>obtain ⟨t',rfl⟩:=ry; exact PySem.EqMixed.ne_int_str (xd0 I q [24])
  | _=>exact absurd (show false=true from hs) Bool.false_ne_true
 | str i =>
  obtain ⟨t,rfl⟩:=rx;cases y with
  | non=>cases ry; exact PySem.EqNone.ne_str_none (xd0 I q [24])
  | bl j=>cases ry; exact PySem.EqMixed.ne_str_bool (xd0 I q [24])
  | int j=>obtain ⟨t',rfl⟩:=ry; exact PySem.EqMixed.ne_str_int (xd0 I q [24])
  | str j=>obtain ⟨t',rfl⟩:=ry; exact ne_str (xd0 I q (congrArg not tx1))
  | _=>exact absurd (show false=true from hs) Bool.false_ne_true
 | byt i =>
  obtain ⟨t,rfl⟩:=rx;cases y with
  | byt j=>obtain ⟨t',rfl⟩:=ry; exact PySem.W.ne_bytes (xd0 I q (congrArg not xy1))
  | _=>exact absurd (show false=true from hs) Bool.false_ne_true
 | _=>cases y <;> exact absurd (show false=true from hs) Bool.false_ne_true
theorem ww3:OpR X (compareOp .Lt) (rI0 λ i j=>.bl (decide (i < j))):=opB0 λ _ _ _ _ _ _ _ q=>lt_int q
theorem vw3:OpR X (compareOp .Gt) (rI0 λ i j=>.bl (decide (j < i))):=opB0 λ _ _ _ _ _ _ _ q=>gt_int q
theorem op_ge:OpR X (compareOp .GtE) (rI0 λ i j=>.bl (decide (j<=i))):=opB0 λ _ _ _ _ _ _ _ q=>ge_int q
theorem yi3:OpR X (compareOp .Is) (λ x y H Q=>y=.non /\ Q (.bl (decide (x=.non))) H):=by
 intro pins s σ H x y v u Q I rx ry h;obtain ⟨rfl,q⟩:=h;cases ry;refine is_none_gen (xd0 I q ?_)
 cases x <;> first
  | (cases rx; rfl)
  | (obtain ⟨t,rfl⟩:=rx; rfl)
theorem OpR.or {f:Value->Value->Sem Value} {r r':R2} (h:OpR X f r) (h':OpR X f r'):OpR X f (λ x y H Q=>r x y H Q \/ r' x y H Q):=by
 intro pins s σ H x y v u Q I rx ry q;rcases q with q | q
 ·exact h pins s σ H x y v u Q I rx ry q
 ·exact h' pins s σ H x y v u Q I rx ry q
theorem vi3 (b:Expr) {op:CmpOp} (h:op ≠ .In:=by decide) (h2:op ≠ .NotIn:=by decide):behindInMarks op b=false:=by
 have e1:(op == CmpOp.In)=false:=by cases op <;> first | rfl | exact absurd rfl h
 have e2:(op == CmpOp.NotIn)=false:=by cases op <;> first | rfl | exact absurd rfl h2
 cases b <;> simp [behindInMarks,e1,e2]
def tz2 (t:TE):TT:=λ σ H Q=>t σ H λ x H'=>∃ k,x=.bl k /\ Q k H'
theorem yr2 {op:CmpOp} {r:R2} (ho:OpR X (compareOp op) r) (ha:PE X a ta) (hb:PE X b tb) (hm:behindInMarks op b=false):PT X (.Compare a [op] [b] pos) (tz2 (tOp r ta tb)):=by
 intro pins s σ H Q I h
 refine wpAny_isTrue_Compare1 (thn (ha pins s σ H _ I h) λ v s1 ⟨x,H1,I1,r1,q1⟩=>thn (hb pins s1 σ H1 _ I1 q1) λ u s2 ⟨y,H2,I2,r2,q2⟩ =>
  thn (ho pins s2 σ H2 x y v u _ I2 r1 r2 q2) λ c s3 ⟨z,H3,I3,r3,k,e,q3⟩=>?_) hm
 subst e;cases r3;exact wpAny_truthy_bool ⟨H3,I3,q3⟩
theorem zs0:(sizeLine:Nat) < 2 ^ 63:=by rw [sizeLine_eq]; decide
theorem ym1:OpR X (binaryOp .Add) (λ x y H Q=>∃ i j,x=.str i /\ y=.str j /\ i.length + j.length<=sizeLine /\ Q (.str (i ++ j)) H):=by
 intro pins s σ H x y v u Q I rx ry h;obtain ⟨i,j,rfl,rfl,hz,q⟩:=h;obtain ⟨t,rfl⟩:=rx;obtain ⟨t',rfl⟩:=ry;exact add_str (λ t' tk=>⟨.str (i ++ j),H,I.tok _,⟨_,rfl⟩,q⟩) hz
theorem wk1 {x:V} {us:[23]} (r:Vals [x] us):∃ u,us=[u] /\ RelV x u:=by
 cases r with
 | cons r1 r2=>cases r2; exact ⟨_,rfl,r1⟩
theorem xp3 {x y:V} {us:[23]} (r:Vals [x,y] us):∃ u w',us=[u,w'] /\ RelV x u /\ RelV y w':=by
 cases r with
 | cons r1 r2 =>
  cases r2 with
  | cons r3 r4=>cases r4; exact ⟨_,_,rfl,r1,r3⟩
theorem ty1 (hc:X.calm=true):CallR X (.builtin "min") (λ xs H Q=>∃ i j,xs=[.int i,.int j] /\ Q (.int (if j < i then j else i)) H):=by
 intro pins s σ H xs us Q I r h;obtain ⟨i,j,rfl,q⟩:=h;obtain ⟨u,w',rfl,⟨t,rfl⟩,⟨t',rfl⟩⟩:=xp3 r;refine min_two_ints (I.ok.hd hc) λ h' tk k=>⟨_,H,I.kept k,?_,q⟩;by_cases hj:j < i
 ·rw [if_pos hj,if_pos hj]; exact ⟨_,rfl⟩
 ·rw [if_neg hj,if_neg hj]; exact ⟨_,rfl⟩
end
theorem RelO.some_of {v:V} {o:Option Value} (r:RelO (some v) o):∃ u,o=some u /\ RelV v u:=by
 cases o with
 | none=>exact (show False from r).elim
 | some u=>exact ⟨u,rfl,r⟩
structure Cls (K:PySem.W.Frag) (C:Addr):Prop where
 pg:PySem.W.plainGet K C Str.empty=true
 hd:PySem.W.hasDictIn K C=true
 po:PySem.W.plainOver K C=true
 sa:findIn K (.ref C) "__setattr__" = some (some (.builtin "object.__setattr__"))
section
variable {X:Cx} {pins:[6]} {σ:St} {H:Hp} {s:Shared} {A:Around} {E:[2]} {Q:[2]} {c:Value} {b:Bool}
inductive TyOf (K:PySem.W.Frag) (H:Hp):V->Value->Prop where
 | non:TyOf K H .non (.type "NoneType")
 | bl (x:Bool):TyOf K H (.bl x) (.type "bool")
 | int (i:Int):TyOf K H (.int i) (.type "int")
 | str (x:Str):TyOf K H (.str x) (.type "str")
 | flt (x:UInt64):TyOf K H (.flt x) (.type "float")
 | lst {a:Addr} {xs:List V} (e:H a=some (.lst xs)):TyOf K H (.ref a) (.type "list")
 | frz {a:Addr} {o:Obj} {xs:List V} (e:H a=some (.frz o (.lst xs))):TyOf K H (.ref a) (.type "list")
 | tup {a:Addr} {xs:List V} (e:H a=some (.tup xs)):TyOf K H (.ref a) (.type "tuple")
 | dK {a:Addr} {kvs:List (List Key × V)} (e:H a=some (.dK kvs)):TyOf K H (.ref a) (.type "dict")
 | dT {a:Addr} {kvs:List (List Key × V)} (e:H a=some (.dT kvs)):TyOf K H (.ref a) (.type "dict")
 | ins {a C dx:Addr} {fs:List (Str × V)} (e:H a=some (.ins C dx fs)) (cl:Cls K C) (ha:findIn K (.ref C) "__class__" = some (some (.builtin "object.__class__")))
     (hn:PySem.W.specialIn K (.builtin "object.__class__") "__get__" = some (some (.builtin "getset_descriptor.__get__"))) (htk:PySem.W.takesIn K (.builtin "object.__class__")=some true)
     (hm:PySem.W.mroIn K C (.type "object")=some true):TyOf K H (.ref a) (.ref C)
end
structure Room (k:Nat) (A:Around):Prop where
 hd:A.handled=none
 dp:A.depth + 3 * k + 5 < recursionLimit
 un:A.units + 16 * k + 200 < cLine
theorem Room.mono {j k:Nat} {A:Around} (r:Room k A) (h:j<=k):Room j A:=⟨r.hd,by have:=r.dp; omega,by have:=r.un; omega⟩
theorem Room.deeper {k:Nat} {A:Around} (r:Room (k + 1) A) (env:Env):Room k (A.deeper env) :=
 ⟨r.hd,by have:=r.dp; show A.depth + 1 + 3 * k + 5 < _; omega,by have:=r.un; show A.units + 3 + 16 * k + 200 < _; omega⟩
theorem Room.depth {k:Nat} {A:Around} (r:Room k A):A.depth < recursionLimit:=by have:=r.dp; omega
def tNil:TA:=λ _ H Q=>Q [] H
def yq3 (ta:TE) (tr:TA):TA:=λ σ H Q=>ta σ H λ x H1=>tr σ H1 λ xs H2=>Q (x :: xs) H2
section
variable {X:Cx} {e:Expr} {es:List Expr} {te:TE} {t:TA} {pos:Pos}
theorem zh3:PA X [] tNil:=λ _ _ _ _ H Q I h=>Calls.spliced_nil ⟨[],H,I,.nil,h⟩
theorem yt2 (ha:PE X e te) (hr:PA X es t) (hs:starEach (e :: es) X.env=[30] :: starEach es X.env:=by rfl):PA X (e :: es) (yq3 te t):=by
 intro pos pins s σ H Q I h;rw [hs];show wpAny _ _ (spliced ([30] :: backTo pos (starEach es X.env))) _ _ s;refine Calls.spliced_cons (thn (ha pins s σ H _ I h) λ u s1 ⟨x,H1,I1,r1,q1⟩=>?_);exact thn (hr pos pins s1 σ H1 _ I1 q1) λ us s2 ⟨xs,H2,I2,r2,q2⟩=>⟨x :: xs,H2,I2,.cons r1 r2,q2⟩
def tTup (t:TA):TE:=λ σ H Q=>t σ H λ xs H1=>xs.length<=sizeLine /\ ∀ p,H1 p=none->Q (.ref p) (upd H1 p (.tup xs))
def tLst (t:TA):TE:=λ σ H Q=>t σ H λ xs H1=>xs.length<=sizeLine /\ ∀ p,H1 p=none->Q (.ref p) (upd H1 p (.lst xs))
theorem wg3 {x1} (h:PA X es t):PE X (.Tuple es x1 pos) (tTup t):=by
 intro pins s σ H Q I hq;refine wpAny_Tuple_spliced (thn (h pos pins s σ H _ I hq) λ us s1 ⟨xs,H1,I1,r,z,q⟩=>⟨by rw [<- r.length]; exact z,?_⟩);have hf:H1 s1.heap.objs.size=none:=I1.hok.fresh [18];refine ⟨.ref s1.heap.objs.size,upd H1 s1.heap.objs.size (.tup xs),I1.laid (t':=s1.toks) (λ b u e=>Heap.get?_push_of_some _ e) [18] ?_,rfl,q _ hf⟩;exact ⟨z,us,r,⟨_,Heap.get?_push_size _ rfl,rfl,_,rfl⟩⟩
theorem ug3 (h:PA X es t):PE X (.List es pos) (tLst t):=by
 intro pins s σ H Q I hq;refine wpAny_List_spliced (thn (h pos pins s σ H _ I hq) λ us s1 ⟨xs,H1,I1,r,z,q⟩=>⟨by rw [<- r.length]; exact z,?_⟩);have hf:H1 s1.heap.objs.size=none:=I1.hok.fresh [18];refine ⟨.ref s1.heap.objs.size,upd H1 s1.heap.objs.size (.lst xs),I1.laid (t':=s1.toks) (λ b u e=>Heap.get?_push_of_some _ e) [18] ?_,rfl,q _ hf⟩;exact ⟨z,us,0,r,Heap.get?_push_size _ rfl⟩
end
abbrev Sp:=List V->Hp->VK->XK->Prop
abbrev CXT:=List Env->Hp->Shared->XK->Value->Shared->Prop
structure Env0 (P:Program) (w:World) (K:PySem.W.Frag) (mg:Str->Option Value) (base:Heap) (A:Around) (outer:List Env) (s:Shared) (H:Hp):Prop where
 frames:A.frames=some outer
 mod:Mod K mg base
 bs:∀ b o,base.get? b=some o->s.heap.get? b=some o /\ H b=none
 bsz:base.objs.size<=s.heap.objs.size
 funs:s.heap.FunFrames base outer
 frf:∀ b ∈ frs outer,H b=none
 hok:HOk P w H s.heap
 bare:AllBare s.gens
def CE (outer:List Env) (P:Program) (w:World) (H:Hp) (s:Shared) (Q:VK) (u:Value) (s':Shared):Prop :=
 ∃ v H',s'.os=s.os /\ AllBare s'.gens /\ Un (frs outer) [] H H' s.heap s'.heap /\ HOk P w H' s'.heap /\ RelV v u /\ Q v H'
def CR (CX:CXT) (outer:List Env) (P:Program) (w:World) (H:Hp) (s:Shared) (Q:VK) (E:XK) (r:Result) (s':Shared):Prop :=
 match r with
 | .ok (.ret u)=>CE outer P w H s Q u s'
 | .ok _=>False
 | .error e=>CX outer H s E e s'
structure FnOk (P:Program) (w:World) (K:PySem.W.Frag) (mg:Str->Option Value) (base:Heap) (CX:CXT) (k:Nat) (f:Addr) (fd:FuncData) (ps:List Str) (sp:Sp):Prop where
 len:∀ vs H Q E,sp vs H Q E->vs.length=ps.length
 run:∀ (A:Around) (outer:List Env) (s:Shared) (H:Hp) (args:Args) (us:List Value) (vs:List V) (Q:VK) (E:XK),Room k A->Env0 P w K mg base A outer s H->BindsTo s fd args (ps.zip us)->Vals vs us->sp vs H Q E ->
  codeAny (model P w) A (.call (.ref f) args) (CR CX outer P w H s Q E) s
theorem FnOk.mono {P:Program} {w:World} {K:PySem.W.Frag} {mg:Str->Option Value} {base:Heap} {CX:CXT} {j k:Nat} {f:Addr} {fd:FuncData} {ps:List Str} {sp:Sp} (F:FnOk P w K mg base CX j f fd ps sp) (h:j<=k) :
    FnOk P w K mg base CX k f fd ps sp:=⟨F.len,λ A outer s H args us vs Q E hr=>F.run A outer s H args us vs Q E (hr.mono h)⟩
section
variable {X:Cx} {pins:[6]} {σ:St} {H:Hp} {s s':Shared}
theorem Inv.env0 (I:[5]):Env0 X.prog X.w X.K X.mg X.base X.A X.stack s H :=
 ⟨I.ok.frames,I.ok.mod,I.bs,Nat.le_trans I.ok.bsz I.sz,I.stack,I.stkFree,I.hok,I.bare⟩
theorem Inv.after {Q:VK} {u:Value} (I:[5]) (h:CE X.stack X.prog X.w H s Q u s'):EP X pins σ Q u s':=by
 obtain ⟨v,H',os,bare,un,hok,r,q⟩:=h;obtain ⟨hh,g,d,t,os'⟩:=s';obtain rfl:os'=s.os:=os;exact ⟨v,H',I.call (h':=hh) (g':=g) (d':=d) (t':=t) (ch:=[]) un hok bare (λ b z=>absurd z [24]),r,q⟩
end
def zq3 (sp:Sp) (dvs:List V) (E:XK) (t:TA):TE:=λ σ H Q=>t σ H λ vs H1=>sp (vs ++ dvs) H1 Q E
def Binds (K:PySem.W.Frag) (fd:FuncData) (ps:List Str) (ds:[23]):Prop :=
 ∀ (s:Shared) (us:[23]),K.In s.heap->(us ++ ds).length=ps.length->BindsTo s fd ⟨us,[]⟩ (ps.zip (us ++ ds))
theorem Binds.all {K:PySem.W.Frag} {fd:FuncData} {ps:List Str} (h:∀ us:List Value,us.length=ps.length->bindArgs fd ⟨us,[]⟩=pure (ps.zip us)):Binds K fd ps []:=λ s us _ hl=>by
 rw [append_nil] at hl ⊢;exact .of_eq (h us hl)
def xa2 (CX:CXT) (X:Cx) (E:XK):Prop:=∀ (pins:[6]) (σ:St) (H:Hp) (s:Shared) (e:Value) (s':Shared),Inv X pins σ H s->CX X.stack H s E e s'->X.xe e s'
section
variable {X:Cx} {CX:CXT} {k:Nat} {f C:Addr} {fd:FuncData} {ps:List Str} {sp:Sp} {dvs:List V} {ds:[23]} {E:XK} {x m:Str} {p pos apos:Pos} {e o:Expr} {es:List Expr} {ta:TE} {t:TA}
theorem tb3 {pins:[6]} {σ:St} {H:Hp} {s:Shared} {Q:VK} {us:[23]} {vs:List V} (F:FnOk X.prog X.w X.K X.mg X.base CX k f fd ps sp) (hr:Room k X.A) (hb:Binds X.K fd ps ds) (hd:Vals dvs ds) (hx:xa2 CX X E)
    (I:[5]) (r:Vals vs us) (h:sp (vs ++ dvs) H Q E):wpAny [8] X.A (call (.ref f) us) (EP X pins σ Q) X.xe s:=by
 have r2:Vals (vs ++ dvs) (us ++ ds):=r.append hd;have hl:(us ++ ds).length=ps.length:=by rw [<- r2.length]; exact F.len _ _ _ _ h
 refine wpAny_call (codeAny_mono (F.run X.A X.stack s H ⟨us,[]⟩ (us ++ ds) (vs ++ dvs) Q E hr I.env0 (hb s us I.kIn hl) r2 h) λ r s' hq=>?_);cases r with
 | error e=>exact hx pins σ H s e s' I hq
 | ok fl =>
  cases fl with
  | ret u=>exact I.after hq
  | next=>exact False.elim hq
  | brk=>exact False.elim hq
  | cont=>exact False.elim hq
theorem ss2 (F:FnOk X.prog X.w X.K X.mg X.base CX k f fd ps sp) (hr:Room k X.A) (hg:Gl X x) (hm:X.mg x=some (.ref f)) (hk:keepIn X.K (.ref f)=true) (hb:Binds X.K fd ps ds) (hd:Vals dvs ds) (hx:xa2 CX X E)
    (ha:PA X (e :: es) t) (hdb:(x == ("__debug__" : Str))=false:=by decide) (he:starEach (e :: es) X.env=[30] :: starEach es X.env:=by rfl) (hpl:(backTo pos (starEach es X.env)).any (·.1)=false:=by rfl) :
    PE X (.Call (.Name x p) (e :: es) [] pos) (zq3 sp dvs E t):=by
 intro pins s σ H Q I h;refine wpAny_Call_Name_kw (vs1 I hg hm ?_ hdb);refine PySem.W.callWith_K (h₀:=X.base) I.ok.mod.kin hk (thn (ha pos pins s σ H _ I h) λ us s1 ⟨vs,H1,I1,r,q⟩=>⟨I1.kIn,?_⟩) he hpl;exact tb3 F hr hb hd hx I1 r q
structure Mk (K:PySem.W.Frag) (C f:Addr):Prop where
 makes:PySem.W.makesIn K C=true
 init:findIn K (.ref C) "__init__" = some (some (.ref f))
 fn:PySem.W.isFn K (.ref f)=true
 kp:keepIn K (.ref C)=true
end
structure FnScope (N P:List Str) (sc:Scope):Prop where
 kind:sc.kind=.function
 co:sc.isCoroutine=false
 gen:sc.isGenerator=false
 nd:N.Nodup
 pre:N.take P.length=P
 par:∀ x ∈ P,sc.names.lookup x=some .local \/ sc.names.lookup x=some .cell
 nofree:∀ y ∈ sc.names,y.2 ≠ .free
theorem tb1 {kindOf:Str->Option NameKind} {x:Str}:∀ {binds:List (Str × Value)} {m:Str->Option Value},(∀ v,(x,v) ∉ binds)->bindL kindOf binds m x=m x
 | [],_,_=>rfl
 | (n,v) :: r,m,h=>by
  unfold bindL;rw [tb1 λ w hw=>h w (mem_cons_of_mem _ hw)];split
  ·have:x ≠ n:=by rintro rfl; exact h v mem_cons_self
   simp [this]
  ·rfl
theorem xc1 {kindOf:Str->Option NameKind} {x:Str}:∀ {binds:List (Str × Value)} {m:Str->Option Value},(∀ v,(x,v) ∉ binds)->bindC kindOf binds m x=m x
 | [],_,_=>rfl
 | (n,v) :: r,m,h=>by
  unfold bindC;rw [xc1 λ w hw=>h w (mem_cons_of_mem _ hw)];split
  ·rfl
  ·have:x ≠ n:=by rintro rfl; exact h v mem_cons_self
   simp [this]
theorem sb1 {kindOf:Str->Option NameKind} {x:Str} {v:Value}:∀ {P:List Str} {vs:[23]} {i:Nat} {m:Str->Option Value},P.Nodup->P[i]?=some x->vs[i]?=some v->kindOf x=some .local ->
    bindL kindOf (P.zip vs) m x=some v
 | [],_,_,_,_,h,_,_=>by simp at h
 | _ :: _,[],_,_,_,_,h,_=>by simp at h
 | p :: P,w :: vs,0,m,nd,h1,h2,hk=>by
  simp at h1 h2; subst h1; subst h2;show bindL kindOf ((p,w) :: P.zip vs) m p=_;unfold bindL;rw [tb1 λ v hv=>(List.nodup_cons.mp nd).1 (List.of_mem_zip hv).1,if_pos hk];simp
 | p :: P,w :: vs,i + 1,m,nd,h1,h2,hk=>by
  show bindL kindOf ((p,w) :: P.zip vs) m x=_;unfold bindL;exact sb1 (i:=i) (List.nodup_cons.mp nd).2 (by simpa using h1) (by simpa using h2) hk
theorem yc1 {kindOf:Str->Option NameKind} {x:Str} {v:Value}:∀ {P:List Str} {vs:[23]} {i:Nat} {m:Str->Option Value},P.Nodup->P[i]?=some x->vs[i]?=some v->kindOf x ≠ some .local ->
    bindC kindOf (P.zip vs) m x=some v
 | [],_,_,_,_,h,_,_=>by simp at h
 | _ :: _,[],_,_,_,_,h,_=>by simp at h
 | p :: P,w :: vs,0,m,nd,h1,h2,hk=>by
  simp at h1 h2; subst h1; subst h2;show bindC kindOf ((p,w) :: P.zip vs) m p=_;unfold bindC;rw [xc1 λ v hv=>(List.nodup_cons.mp nd).1 (List.of_mem_zip hv).1,if_neg hk];simp
 | p :: P,w :: vs,i + 1,m,nd,h1,h2,hk=>by
  show bindC kindOf ((p,w) :: P.zip vs) m x=_;unfold bindC;exact yc1 (i:=i) (List.nodup_cons.mp nd).2 (by simpa using h1) (by simpa using h2) hk
def start (N:List Str) (vs:List V):St:=vs.map some ++ List.replicate (N.length - vs.length) none
def cxOf (CX:CXT) (P:Program) (w:World) (K:PySem.W.Frag) (mg:Str->Option Value) (base:Heap) (N:List Str) (qual:Str) (scope:Scope) (f:Addr) (cd:Value) (A:Around) (outer:List Env) (s:Shared) (H:Hp) (E:XK):Cx where
 prog:=P
 w:=w
 K:=K
 mg:=mg
 base:=base
 A:=A.deeper (envOfC qual scope s.heap.objs.size f cd)
 N:=N
 s₀:=s
 H₀:=H
 env:=envOfC qual scope s.heap.objs.size f cd
 outer:=outer
 stack:=envOfC qual scope s.heap.objs.size f cd :: outer
 ex:=[]
 calm:=true
 fn:=λ _=>true
 pn:=[]
 xe:=λ e s'=>wpAny (model P w) (A.deeper (envOfC qual scope s.heap.objs.size f cd)) (leaving (envOfC qual scope s.heap.objs.size f cd) e) (λ _ s''=>CX outer H s E e s'') (λ e' s''=>CX outer H s E e' s'') s'
theorem yx0 {sc:Scope} {n:Nat} {x:Str} (h:sc.names.lookup x=some .cell):∃ c,(cellsFrom n sc.names []).lookup x=some c:=by
 have q:=cellsFrom_some sc.names n [] (.inl h);exact Option.isSome_iff_exists.mp q
theorem tt1 {CX:CXT} {P:Program} {w:World} {K:PySem.W.Frag} {mg:Str->Option Value} {base:Heap} {N ps:List Str} {qual:Str} {scope:Scope} {f:Addr} {cd:Value} {A:Around} {outer:List Env} {s s1:Shared} {H:Hp} {E:XK} {us:[23]} {vs:List V}
    (S:FnScope N ps scope) (hd:A.handled=none) (e0:Env0 P w K mg base A outer s H) (hl:vs.length=ps.length) (r:Vals vs us)
    (x:InCallC s s.heap.objs.size (bindL (envOfC qual scope s.heap.objs.size f cd).kindOf (ps.zip us) λ _=>none) (cellsFrom (s.heap.objs.size + 1) scope.names []) (bindC (envOfC qual scope s.heap.objs.size f cd).kindOf (ps.zip us) λ _=>none) s1) :
    Inv (cxOf CX P w K mg base N qual scope f cd A outer s H E) [] (start N vs) H s1:=by
 have hpl:ps.length<=N.length:=by have:=congrArg List.length S.pre; rw [length_take] at this; omega
 obtain ⟨h1,tk,rfl,hk⟩:=x.done;have noA:∀ b:Addr,b ∉ (cxOf CX P w K mg base N qual scope f cd A outer s H E).ex:=λ b z=>absurd (show b ∈ ([]:List Addr) from z) [24]
 refine ⟨⟨e0.mod,S.kind,rfl,rfl,Nat.le_refl _,λ y z c h1 h2=>?_,λ y hy=>?_,λ y c _ h=>?_,λ _=>hd,Around.frames_deeper e0.frames,.inr ⟨rfl,rfl⟩,λ b z=>absurd z (noA b),e0.bs,e0.bsz,λ b _ _=>noA b,λ b z=>absurd z (noA b),e0.funs,e0.frf⟩,
  rfl,e0.bare,Un.kept hk,⟨_,x.toInCall.ns,λ i y v h1 h2 h3=>?_⟩,λ y c h=>⟨_,x.cell y c h⟩,e0.hok.fresh [18],λ y c h=>?_,λ p hp=>absurd (show p ∈ ([]:List (Addr × Obj)) from hp) [24],e0.hok.kept hk,?_⟩
 ·exact name_of_addr x.apart (PySem.mem_of_lookup h1) (PySem.mem_of_lookup h2)
 ·have hy:scope.names.lookup y=some .cell \/ scope.names.lookup y=some .free:=hy;rcases hy with hy | hy
  ·exact yx0 hy
  ·exact absurd rfl (S.nofree _ (PySem.mem_of_lookup hy))
 ·exact Nat.le_of_lt (x.above y c (PySem.mem_of_lookup h))
 ·have hi:i < vs.length:=by
    unfold start at h2;by_cases hi:i < vs.length
    ·exact hi
    ·rw [getElem?_append_right (by simpa using hi)] at h2;rw [List.getElem?_replicate] at h2;split at h2 <;> cases h2
  have ha:vs[i]?=some v:=by
   unfold start at h2;rw [getElem?_append_left (by simpa using hi),getElem?_map] at h2;cases e:vs[i]? with
   | none=>rw [e] at h2; cases h2
   | some a=>rw [e] at h2; cases h2; rfl
  obtain ⟨u,hu,rv⟩:=r.get ha
  have hp:ps[i]?=some y:=by
   rw [<- S.pre,getElem?_take_of_lt [1]]; exact h1
  have ndP:ps.Nodup:=by rw [<- S.pre]; exact S.nd.sublist (take_sublist _ _)
  refine ⟨u,rv,?_⟩;rcases S.par y (mem_of_getElem? hp) with k | k
  ·exact .inl ⟨k,sb1 ndP hp hu k⟩
  ·obtain ⟨c,e⟩:=yx0 (n:=s.heap.objs.size + 1) k;refine .inr ⟨.inl k,c,e,?_⟩;have q:=x.cell y c e;rw [yc1 ndP hp hu (by show scope.names.lookup y ≠ _; rw [k]; decide)] at q;exact q
 ·exact e0.hok.fresh (Nat.le_of_lt (x.above y c (PySem.mem_of_lookup h)))
 ·unfold start;show _=N.length;rw [length_append,length_map,List.length_replicate];omega
theorem xy3 {CX:CXT} {P:Program} {w:World} {K:PySem.W.Frag} {mg:Str->Option Value} {base:Heap} {k:Nat} {f:Addr} {name qual:Str} {params:Arguments} {body:List Stmt} {scope:Scope} {dV kV doc pm cdv ct oc:Value} {an od:Option Addr}
    {osl:Array (Option Value)} {N ps:List Str} {sp:Sp} (lk:K.lookup f=some ⟨oc,od,.func (fnOf name qual params body scope dV kV doc pm an cdv ct),osl⟩) (hcd:codeIn K cdv qual=true) (S:FnScope N ps scope)
    (len:∀ vs H Q E,sp vs H Q E->vs.length=ps.length)
    (hbody:∀ (A:Around) (outer:List Env) (s:Shared) (H:Hp) (vs:List V) (Q:VK) (E:XK),Room k (A.deeper (envOfC qual scope s.heap.objs.size f cdv))->sp vs H Q E ->
     ∃ t,PSs (cxOf CX P w K mg base N qual scope f cdv A outer s H E) body t /\ t { nx:=λ _ H'=>Q .non H',rt:=Q } (start N vs) H) :
    FnOk P w K mg base CX (k + 1) f (fnOf name qual params body scope dV kV doc pm an cdv ct) ps sp:=by
 refine ⟨len,λ A outer s H args us vs Q E hr e0 hb r hsp=>?_⟩;have hl:=len _ _ _ _ hsp;have KX:K.In s.heap:=e0.mod.kin.keeps λ b o e=>(e0.bs b o e).1;have lim:s.heap.NoLimit:=e0.mod.nolimit.keeps λ b o e=>(e0.bs b o e).1
 have hkind:∀ y ∈ ps.zip us,scope.names.lookup y.1=some .local \/ (scope.names.lookup y.1=some .cell /\ ((cellsFrom (s.heap.objs.size + 1) scope.names []).lookup y.1).isSome=true):=λ ⟨n,v⟩ hy=>by
  rcases S.par n (List.of_mem_zip hy).1 with q | q
  ·exact .inl q
  ·exact .inr ⟨q,cellsFrom_some _ _ _ (.inl q)⟩
 refine codeAny_call_function hr.depth (KX _ _ lk) rfl S.co S.gen rfl (PySem.W.codeRec_of KX hcd) (hb _ _ _ _ ?_);refine wpAny_newFunctionEnv_cells S.kind hkind λ env he s1 x=>?_;subst he;refine ⟨lim.keeps x.toInCall.keep,codeAny_func ?_⟩;obtain ⟨t,ht,hq⟩:=hbody A outer s H vs Q E (hr.deeper _) hsp;have I:Inv (cxOf CX P w K mg base N qual scope f cdv A outer s H E) [] (start N vs) H s1:=tt1 S hr.hd e0 hl r x;refine wpAny_mono (ht [] s1 (start N vs) H _ I hq) (λ fl s' hs=>?_) λ e s' hs=>hs
 have fin:∀ {σ':St} {H':Hp} {v:V} {u:Value},Inv (cxOf CX P w K mg base N qual scope f cdv A outer s H E) [] σ' H' s'->RelV v u->Q v H'->CE outer P w H s Q u s' :=
  λ {σ' H' v u} J rv q=>⟨v,H',J.os,J.bare,J.base,J.hok,rv,q⟩
 cases fl with
 | ret u =>
  obtain ⟨v,σ',H',J,rv,q⟩:=hs;exact fin J rv q
 | next =>
  obtain ⟨σ',H',J,q⟩:=hs;exact fin (v:=V.non) (u:=Value.none) J rfl q
 | brk =>
  obtain ⟨_,_,_,q⟩:=hs;exact False.elim q
 | cont =>
  obtain ⟨_,_,_,q⟩:=hs;exact False.elim q
section
variable {X:Cx} {x:Str} {p pos:Pos} {e:Expr} {es:List Expr} {t:TA} {id T:String} {r:List V->Hp->VK->Prop}
def tCB (r:List V->Hp->VK->Prop) (t:TA):TE:=λ σ H Q=>t σ H λ vs H1=>r vs H1 Q
theorem vd2 (hc:CallR X (.builtin id) r) (hg:Gl X x) (hm:X.mg x=none) (hv:bootBuiltins x=some (.builtin id)) (ha:PA X (e :: es) t) (hn:x ≠ "__name__" := by decide) (hdb:(x == ("__debug__" : Str))=false:=by decide)
    (he:starEach (e :: es) X.env=[30] :: starEach es X.env:=by rfl) (hpl:(backTo pos (starEach es X.env)).any (·.1)=false:=by rfl):PE X (.Call (.Name x p) (e :: es) [] pos) (tCB r t):=by
 intro pins s σ H Q I h;refine wpAny_Call_Name_kw (zm0 I hg hm hv ?_ hn hdb);exact PyProof.Rows.callWith_builtin1 (thn (ha pos pins s σ H _ I h) λ us s1 ⟨vs,H1,I1,r1,q1⟩=>hc pins s1 σ H1 vs us Q I1 r1 q1) he hpl
theorem yr1 (hc:CallR X (.type T) r) (hg:Gl X x) (hm:X.mg x=none) (hv:bootBuiltins x=some (.type T)) (ha:PA X (e :: es) t) (hn:x ≠ "__name__" := by decide) (hdb:(x == ("__debug__" : Str))=false:=by decide)
    (he:starEach (e :: es) X.env=[30] :: starEach es X.env:=by rfl) (hpl:(backTo pos (starEach es X.env)).any (·.1)=false:=by rfl):PE X (.Call (.Name x p) (e :: es) [] pos) (tCB r t):=by
 intro pins s σ H Q I h;refine wpAny_Call_Name_kw (zm0 I hg hm hv ?_ hn hdb);exact PyProof.Rows.callWith_type1 (thn (ha pos pins s σ H _ I h) λ us s1 ⟨vs,H1,I1,r1,q1⟩=>hc pins s1 σ H1 vs us Q I1 r1 q1) he hpl
end
end L2
namespace HT
open PySem PyProof.Rows
section
variable {prog:Program} {w:World} {A:Around} {E:[2]} {s:Shared}
theorem cat_tup {t b:Addr} {vs ws:[23]} {Q:[2]} (ht:IsTup s.heap t vs.toArray) (hb:IsTup s.heap b ws.toArray) (hv:vs ≠ [])
    (h1:ws=[]->Q (.ref t) s) (h2:ws ≠ []->Q (.ref s.heap.objs.size) { s with heap:=s.heap.push { cls:=.type "tuple",data:=.seq (vs ++ ws).toArray } })
    (hsz:vs.length + ws.length<=sizeLine):wpAny [4] A (binaryOp .Add (.ref t) (.ref b)) Q E s:=by
 obtain ⟨⟨cls,dd,data,sl⟩,ho,hc,n,hd⟩:=id ht;obtain ⟨⟨cls2,dd2,data2,sl2⟩,ho2,hc2,n2,hd2⟩:=id hb;simp only at hc hd hc2 hd2;subst hc hd hc2 hd2;have e:vs.toArray ++ ws.toArray=(vs ++ ws).toArray:=by simp
 by_cases hw:ws=[]
 ·exact concat_meets ⟨_,ho,rfl⟩ ⟨_,ho2,rfl⟩ noFill_tuple_add seq_tuple_add slot_tuple_add entry_tuple_add (args_tuple_add_2 _ _)
    (tuple_addW1 t b vs.toArray ws.toArray n n2 dd dd2 sl sl2 (by simpa using hv) (by simp [hw])) ⟨ho,ho2,h1 hw⟩
 ·refine concat_meets ⟨_,ho,rfl⟩ ⟨_,ho2,rfl⟩ noFill_tuple_add seq_tuple_add slot_tuple_add entry_tuple_add (args_tuple_add_2 _ _)
    (tuple_addW2 t b vs.toArray ws.toArray n n2 dd dd2 sl sl2 (by simpa using hv) (by simpa using hw) (by rw [size_toArray,size_toArray]; exact hsz)) ⟨ho,ho2,?_⟩
  rw [e];exact h2 hw
end
end HT
namespace L2
open PySem PySem.Spec PyProof.Rows
abbrev TO:=St->Hp->(Option Int->Hp->Prop)->Prop
theorem us0 {ns:List Int}:∀ {us:[23]},Vals (ns.map V.int) us->IntsAre us ns:=by
 induction ns with
 | nil=>intro us r; rw [map_nil] at r; cases r; exact .nil
 | cons n ns ih =>
  intro us r;rw [map_cons] at r;cases r with
  | cons r1 r2 =>
   obtain ⟨t,e⟩:=r1;subst e;exact .cons n t (ih r2)
section
variable {X:Cx} {e:Expr} {te:TE} {lo hi:Option Expr} {tl th:TO} {pos p2:Pos}
def tu3 (K:PySem.W.Frag):R2:=λ x y H Q=>∃ a b xs ys,x=.ref a /\ y=.ref b /\ SqT K H a xs /\ SqT K H b ys /\ xs ≠ [] /\ xs.length + ys.length<=sizeLine ∧
 (ys=[]->Q (.ref a) H) /\ (ys ≠ []->∀ p,H p=none->Q (.ref p) (upd H p (.tup (xs ++ ys))))
theorem Vals.nil_iff {xs:List V} {us:[23]} (r:Vals xs us):us=[] ↔ xs=[]:=by
 cases r with
 | nil=>simp
 | cons _ _=>simp
theorem zt2:OpR X (binaryOp .Add) (tu3 X.K):=by
 intro pins s σ H x y v u Q I rx ry h;obtain ⟨a,b,xs,ys,rfl,rfl,ha,hb,hx,hz,q1,q2⟩:=h;cases rx;cases ry;obtain ⟨its,r1,p1,_⟩:=I.tuple ha;obtain ⟨its2,r2,p2,_⟩:=I.tuple hb;refine HT.cat_tup p1 p2 (λ z=>hx (r1.nil_iff.mp z)) (λ z=>⟨.ref a,H,I,rfl,q1 (r2.nil_iff.mp z)⟩) (λ z=>?_) (by rw [<- r1.length,<- r2.length]; exact hz);refine ⟨.ref s.heap.objs.size,_,I.laid (t':=s.toks) (o:=.tup (xs ++ ys)) (λ b ob q=>Heap.get?_push_of_some _ q) [18] ?_,rfl,q2 (λ w=>z (r2.nil_iff.mpr w)) _ (I.hok.fresh [18])⟩;exact ⟨by rw [length_append]; exact hz,_,r1.append r2,IsTup.new _ _⟩
end
def ixN (n:Nat) (i:Int):Option Nat:=if 0<=i then (if i < n then some i.toNat else none) else if -(n:Int)<=i then some (i + n).toNat else none
def atI {α:Type} (xs:List α) (i:Int):Option α:=(ixN xs.length i).bind λ j=>xs[j]?
theorem vt1 {n:Nat} {i:Int} {j:Nat} (h:ixN n i=some j):seqIndex? i n=some j /\ j < n /\ -(n:Int)<=i /\ i < n:=by
 unfold ixN at h;by_cases h0:0<=i
 ·rw [if_pos h0] at h;by_cases h1:i < n
  ·rw [if_pos h1] at h;have e:i.toNat=j:=Option.some.inj h;exact ⟨by rw [seqIndex_of h0 h1,e],by omega,by omega,h1⟩
  ·rw [if_neg h1] at h; cases h
 ·rw [if_neg h0] at h;by_cases h1 : -(n:Int)<=i
  ·rw [if_pos h1] at h;have e:(i + n).toNat=j:=Option.some.inj h;exact ⟨by rw [seqIndex_neg [1] h1,e],by omega,h1,by omega⟩
  ·rw [if_neg h1] at h; cases h
theorem uz1 {α:Type} {xs:List α} {i:Int} {v:α} (h:atI xs i=some v):∃ j,seqIndex? i xs.length=some j /\ xs[j]?=some v /\ j < xs.length /\ -(xs.length:Int)<=i /\ i < xs.length:=by
 unfold atI at h;cases e:ixN xs.length i with
 | none=>rw [e] at h; cases h
 | some j =>
  rw [e] at h;obtain ⟨h1,h2,h3,h4⟩:=vt1 e;exact ⟨j,h1,h,h2,h3,h4⟩
def sz1 (b:Expr):Prop:=∀ o i,subscripted b false o i=operate [o,i] (getItem o i)
def IxR (X:Cx) (r:R2):Prop :=
 ∀ (value slice:Expr) (pins:[6]) (s:Shared) (σ:St) (H:Hp) (x y:V) (v u:Value) (Q:VK),Inv X pins σ H s->RelV x v->RelV y u->r x y H Q ->
  subscripted slice false v u=operate [v,u] (getItem v u)->wpAny [8] X.A (subscriptTail value slice v u) (EP X pins σ Q) X.xe s
def MtR (X:Cx) (id:String) (r:V->List V->Hp->VK->Prop):Prop :=
 ∀ (pins:[6]) (s:Shared) (σ:St) (H:Hp) (x:V) (xs:List V) (v:Value) (us:[23]) (Q:VK),Inv X pins σ H s->RelV x v->Vals xs us->r x xs H Q ->
  wpAny [8] X.A (call (.builtin id) (v :: us)) (EP X pins σ Q) X.xe s
section
variable {X:Cx} {a b:Expr} {ta tb:TE} {pos:Pos}
theorem IxR.or {r r':R2} (h:IxR X r) (h':IxR X r'):IxR X (λ x y H Q=>r x y H Q \/ r' x y H Q):=by
 intro value slice pins s σ H x y v u Q I rx ry q hs;rcases q with q | q
 ·exact h value slice pins s σ H x y v u Q I rx ry q hs
 ·exact h' value slice pins s σ H x y v u Q I rx ry q hs
theorem sv3 {r:R2} (hr:IxR X r) (ha:PE X a ta) (hb:PE X b tb) (hs:sz1 b):PE X (.Subscript a b pos) (tOp r ta tb):=by
 intro pins s σ H Q I h;exact Subscript_ (binT ha hb I h λ v u s2 x y H2 I2 rx ry q=>hr a b pins s2 σ H2 x y v u Q I2 rx ry q (hs _ _))
def rIxL (K:PySem.W.Frag):R2:=λ x y H Q=>∃ p xs i v,x=.ref p /\ y=.int i /\ SqL K H p xs /\ atI xs i=some v /\ Q v H
def rIxT (K:PySem.W.Frag):R2:=λ x y H Q=>∃ p xs i v,x=.ref p /\ y=.int i /\ SqT K H p xs /\ atI xs i=some v /\ Q v H
theorem ix_list:IxR X (rIxL X.K):=by
 intro value slice pins s σ H x y v u Q I rx ry h hs;obtain ⟨p,xs,i,z,rfl,rfl,hq,he,q⟩:=h;cases rx;obtain ⟨t,rfl⟩:=ry;obtain ⟨its,r,pl,hz⟩:=I.list hq;obtain ⟨j,h1,h2,h3,h4,h5⟩:=uz1 he;obtain ⟨w,ew,rw'⟩:=r.get h2;have hl:=r.length;have hn:=zs0;have fin:EP X pins σ Q w s:=⟨z,H,I,rw',q⟩;by_cases h0:0<=i
 ·have hj:i.toNat=j:=by
    rw [seqIndex_of h0 h5] at h1;exact Option.some.inj h1
  exact item_listR pl.isList h0 [1] (by rw [hj]; simpa using ew) fin hs
 ·have hj:(i + (its.toArray.size:Int)).toNat=j:=by
    rw [seqIndex_neg [1] h4] at h1;rw [size_toArray,<- hl];exact Option.some.inj h1
  exact subscriptTail_builtinR (x:=w) pl.isList.typeIs slot_list_getitem.lookup
   (wpAny_getItem_list_neg (Q:=λ r s'=>r=w /\ EP X pins σ Q r s') pl.isList [1] (by rw [size_toArray] <;> omega) [1] (by rw [hj]; simpa using ew) ⟨rfl,fin⟩) hs
theorem uk3:IxR X (rIxT X.K):=by
 intro value slice pins s σ H x y v u Q I rx ry h hs;obtain ⟨p,xs,i,z,rfl,rfl,hq,he,q⟩:=h;cases rx;obtain ⟨t,rfl⟩:=ry;obtain ⟨its,r,pl,hz⟩:=I.tuple hq;obtain ⟨j,h1,h2,h3,h4,h5⟩:=uz1 he;obtain ⟨w,ew,rw'⟩:=r.get h2;have hl:=r.length;have hn:=zs0;have fin:EP X pins σ Q w s:=⟨z,H,I,rw',q⟩
 exact subscriptTail_builtinR (x:=w) pl.typeIs slot_tuple_getitem.lookup
  (getItem_tuple (j:=j) (Q:=λ r s'=>r=w /\ EP X pins σ Q r s') pl [1] [1] (by rw [size_toArray,<- hl]; exact h1) (by simpa using ew) ⟨rfl,fin⟩) hs
theorem vm1 (its:[23]) (n j:Nat) (u:Value):Obj.mapSeq (·.setIfInBounds j u) { cls:=.type "list",data:=.seq its.toArray n }={ cls:=.type "list",data:=.seq (its.set j u).toArray n }:=by
 simp [Obj.mapSeq]
theorem Inv.lst {pins:[6]} {σ:St} {H:Hp} {s:Shared} {p:Addr} {xs:List V} (I:[5]) (h:H p=some (.lst xs)) :
    ∃ (its:[23]) (n:Nat),Vals xs its /\ s.heap.get? p=some { cls:=.type "list",data:=.seq its.toArray n } /\ xs.length<=sizeLine:=by
 obtain ⟨z,its,n,r,e⟩:=I.hok p _ h;exact ⟨its,n,r,e,z⟩
theorem Inv.lstUpd {pins:[6]} {σ:St} {H:Hp} {s:Shared} {p:Addr} {xs ys:List V} {its its':[23]} {n n':Nat} {f:Obj->Obj} (I:[5]) (h:H p=some (.lst xs))
    (ho:s.heap.get? p=some { cls:=.type "list",data:=.seq its.toArray n }) (hf:f { cls:=.type "list",data:=.seq its.toArray n }={ cls:=.type "list",data:=.seq its'.toArray n' }) (r:Vals ys its') (hz:ys.length<=sizeLine) (t:Nat) :
    Inv X pins σ (upd H p (.lst ys)) { s with heap:=s.heap.update p f,toks:=t }:=by
 have e:(s.heap.update p f).get? p=some { cls:=.type "list",data:=.seq its'.toArray n' }:=by
  rw [Heap.get?_update_self f ho (by rw [hf] <;> rfl),hf]
 refine I.write (x:=p) (e:=p) (by rw [h]; trivial) (.inl rfl) (λ b u hb q=>(Heap.get?_update_other _ _ (Ne.symm hb)).trans q) ⟨_,e⟩ ?_;exact ⟨hz,its',n',r,e⟩
def vu3:V->V->V->Hp->(Hp->Prop)->Prop:=λ o i v H Q=>∃ p xs k j,o=.ref p /\ i=.int k /\ H p=some (.lst xs) /\ ixN xs.length k=some j /\ Q (upd H p (.lst (xs.set j v)))
theorem yn0:PSet X vu3:=by
 intro pins s σ H o i v ov iv u Q I ro ri rv h;obtain ⟨p,xs,k,j,rfl,rfl,hp,hj,q⟩:=h;cases ro;obtain ⟨t,rfl⟩:=ri;obtain ⟨its,n,r,ho,hz⟩:=I.lst hp;obtain ⟨h1,h2,h3,h4⟩:=vt1 hj;have hl:=r.length;have hn:=zs0
 have I':Inv X pins σ (upd H p (.lst (xs.set j v))) { s with heap:=s.heap.update p (Obj.mapSeq (·.setIfInBounds j u)) } :=
  I.lstUpd hp ho (vm1 its n j u) (r.set rv j) (by rw [List.length_set]; exact hz) s.toks
 by_cases h0:0<=k
 ·have hk:k.toNat=j:=by
    rw [seqIndex_of h0 h4] at h1;exact Option.some.inj h1
  exact PySem.W.ki_setAt ho h0 [1] (by rw [size_toArray,<- hl]; exact h4) (by rw [hk]; exact ⟨_,I',q⟩)
 ·have hk:(k + (its.toArray.size:Int)).toNat=j:=by
    rw [seqIndex_neg [1] h3] at h1;rw [size_toArray,<- hl];exact Option.some.inj h1
  exact PySem.W.ki_setBack ho [1] (by rw [size_toArray,<- hl]; exact h3) [1] (by rw [hk]; exact ⟨_,I',q⟩)
def tw0:V->Bool
 | .non=>true
 | .bl _=>true
 | .int _=>true
 | .str _=>true
 | _=>false
def eqV:V->V->Bool
 | .non,.non=>true
 | .bl a,.bl b=>a == b
 | .bl a,.int b=>(if a then 1 else 0) == b
 | .int a,.bl b=>a == (if b then 1 else 0)
 | .int a,.int b=>a == b
 | .str a,.str b=>a == b
 | _,_=>false
theorem ym3 {A:Around} {s:Shared} {y x:V} {u v:Value} (ry:RelV y u) (rx:RelV x v) (fy:tw0 y=true) (fx:tw0 x=true):SeqAt.EqAt A s u v (eqV y x):=by
 cases y with
 | non =>
  cases ry;cases x with
  | non=>cases rx; exact SeqAt.EqAt.same _
  | bl b=>cases rx; exact SeqAt.EqAt.none_bool b
  | int b=>obtain ⟨t,rfl⟩:=rx; exact SeqAt.EqAt.none_int b t
  | str b=>obtain ⟨t,rfl⟩:=rx; exact SeqAt.EqAt.none_str b t
  | _=>exact absurd (show false=true from fx) Bool.false_ne_true
 | bl a =>
  cases ry;cases x with
  | non=>cases rx; exact SeqAt.EqAt.bool_none a
  | bl b=>cases rx; exact SeqAt.EqAt.bool_bool a b
  | int b=>obtain ⟨t,rfl⟩:=rx; exact SeqAt.EqAt.bool_int a b t
  | str b=>obtain ⟨t,rfl⟩:=rx; exact SeqAt.EqAt.bool_str a b t
  | _=>exact absurd (show false=true from fx) Bool.false_ne_true
 | int a =>
  obtain ⟨t',rfl⟩:=ry;cases x with
  | non=>cases rx; exact SeqAt.EqAt.int_none a t'
  | bl b=>cases rx; exact SeqAt.EqAt.int_bool a t' b
  | int b=>obtain ⟨t,rfl⟩:=rx; exact SeqAt.EqAt.int_int a t' b t
  | str b=>obtain ⟨t,rfl⟩:=rx; exact SeqAt.EqAt.int_str a t' b t
  | _=>exact absurd (show false=true from fx) Bool.false_ne_true
 | str a =>
  obtain ⟨t',rfl⟩:=ry;cases x with
  | non=>cases rx; exact SeqAt.EqAt.str_none a t'
  | bl b=>cases rx; exact SeqAt.EqAt.str_bool a t' b
  | int b=>obtain ⟨t,rfl⟩:=rx; exact SeqAt.EqAt.str_int a t' b t
  | str b=>obtain ⟨t,rfl⟩:=rx; exact SeqAt.EqAt.str_str a t' b t
  | _=>exact absurd (show false=true from fx) Bool.false_ne_true
 | _=>exact absurd (show false=true from fy) Bool.false_ne_true
def eqU (x:V) (u:Value):Bool:=match u with
 | .none=>eqV .non x
 | .bool b=>eqV (.bl b) x
 | .int i _=>eqV (.int i) x
 | .str z _=>eqV (.str z) x
 | _=>false
theorem xm2 {x y:V} {u:Value} (r:RelV y u) (f:tw0 y=true):eqU x u=eqV y x:=by
 cases y with
 | non=>cases r; rfl
 | bl b=>cases r; rfl
 | int i=>obtain ⟨t,rfl⟩:=r; rfl
 | str z=>obtain ⟨t,rfl⟩:=r; rfl
 | _=>exact absurd (show false=true from f) Bool.false_ne_true
theorem uf1 {x:V}:∀ {xs:List V} {us:[23]},Vals xs us->xs.all tw0=true->us.any (eqU x)=xs.any λ y=>eqV y x
 | _,_,.nil,_=>rfl
 | y :: xs,u :: us,.cons r t,f=>by
  rw [List.all_cons,Bool.and_eq_true] at f;rw [any_cons,any_cons,xm2 r f.1,uf1 t f.2]
theorem yw0 {A:Around} {s:Shared} {x:V} {v:Value} (rx:RelV x v) (fx:tw0 x=true):∀ {xs:List V} {us:[23]},Vals xs us->xs.all tw0=true->∀ u ∈ us,SeqAt.EqAt A s u v (eqU x u)
 | _,_,.nil,_=>λ u hu=>by cases hu
 | y :: xs,u :: us,.cons r t,f=>λ u' hu=>by
  rw [List.all_cons,Bool.and_eq_true] at f;rcases List.mem_cons.mp hu with rfl | hu
  ·rw [xm2 r f.1]; exact ym3 r rx f.1 fx
  ·exact yw0 rx fx t f.2 u' hu
def inV (x:V) (xs:List V):Bool:=xs.any λ y=>eqV y x
def rIn (K:PySem.W.Frag) (neg:Bool):R2:=λ x y H Q=>∃ p xs,y=.ref p /\ (SqL K H p xs \/ SqT K H p xs) /\ tw0 x=true /\ xs.all tw0=true /\ Q (.bl (if neg then !inV x xs else inV x xs)) H
theorem op_notIn_seq:OpR X (compareOp .NotIn) (rIn X.K true):=by
 intro pins s σ H x y v u Q I rx ry h;obtain ⟨p,xs,rfl,hq,fx,fs,q⟩:=h;cases ry;rcases hq with hq | hq
 ·obtain ⟨its,r,pl,hz⟩:=I.list hq;refine SeqAt.notIn_listAt (eqU x) pl.isList (λ w hw=>yw0 rx fx r fs w (by simpa using hw)) ⟨.bl _,H,I,rfl,?_⟩;rw [show its.toArray.any (eqU x)=its.any (eqU x) by simp,uf1 r fs];exact q
 ·obtain ⟨its,r,pl,hz⟩:=I.tuple hq;refine SeqAt.notIn_tupleAt (eqU x) pl (λ w hw=>yw0 rx fx r fs w (by simpa using hw)) ⟨.bl _,H,I,rfl,?_⟩;rw [show its.toArray.any (eqU x)=its.any (eqU x) by simp,uf1 r fs];exact q
theorem ty0:OpR X (compareOp .NotIn) (λ x y H Q=>∃ i j,x=.str i /\ y=.str j /\ Q (.bl (!(!(Builtin.Str.occurrences j i 0 j.length 1).isEmpty))) H):=by
 intro pins s σ H x y v u Q I rx ry h;obtain ⟨i,j,rfl,rfl,q⟩:=h;obtain ⟨t,rfl⟩:=rx;obtain ⟨t',rfl⟩:=ry;exact notIn_str ⟨.bl _,H,I,rfl,q⟩
theorem call_len_seq:CallR X (.builtin "len") (λ xs H Q=>∃ p ys,xs=[.ref p] /\ (SqL X.K H p ys \/ SqT X.K H p ys) /\ Q (.int ys.length) H):=by
 intro pins s σ H xs us Q I r h;obtain ⟨p,ys,rfl,hq,q⟩:=h;obtain ⟨u,rfl,rx⟩:=wk1 r;cases rx;have hn:=zs0;rcases hq with hq | hq
 ·obtain ⟨its,r',pl,hz⟩:=I.list hq;have hlen:=r'.length;exact Calls.call_len_list pl.isList (by simp only [size_toArray] <;> omega) ⟨.int ys.length,H,I.tok _,⟨s.toks + 1,by rw [size_toArray,hlen]⟩,q⟩
 ·obtain ⟨its,r',pl,hz⟩:=I.tuple hq;have hlen:=r'.length;exact len_tuple pl (by simp only [size_toArray] <;> omega) ⟨.int ys.length,H,I.tok _,⟨s.toks + 1,by rw [size_toArray,hlen]⟩,q⟩
theorem ub1:CallR X (.builtin "len") (λ xs H Q=>∃ z,xs=[.str z] /\ z.length<=sizeLine /\ Q (.int z.length) H):=by
 intro pins s σ H xs us Q I r h;obtain ⟨z,rfl,hz,q⟩:=h;obtain ⟨u,rfl,t,rfl⟩:=wk1 r;have hn:=zs0;exact len_str [1] ⟨.int z.length,H,I.tok _,⟨_,rfl⟩,q⟩
theorem CallR.or {f:Value} {r r':List V->Hp->VK->Prop} (h:CallR X f r) (h':CallR X f r'):CallR X f (λ xs H Q=>r xs H Q \/ r' xs H Q):=by
 intro pins s σ H xs us Q I rs q;rcases q with q | q
 ·exact h pins s σ H xs us Q I rs q
 ·exact h' pins s σ H xs us Q I rs q
theorem zx0:CallR X (.type "tuple") (λ xs H Q=>∃ p ys,xs=[.ref p] /\ ((SqL X.K H p ys /\ ∀ l,H l=none->Q (.ref l) (upd H l (.tup ys))) \/ (SqT X.K H p ys /\ Q (.ref p) H))):=by
 intro pins s σ H xs us Q I r h;obtain ⟨p,ys,rfl,h⟩:=h;obtain ⟨u,rfl,rx⟩:=wk1 r;cases rx;rcases h with ⟨hq,q⟩ | ⟨hq,q⟩
 ·obtain ⟨its,r',pl,hz⟩:=I.list hq;have hlen:=r'.length;refine call_tuple_list pl.isList (λ h' kp=>?_) (by simp only [size_toArray] <;> omega);have I1:Inv X pins σ H { s with heap:=h' }:=I.kept (t':=s.toks) kp
  have I2:Inv X pins σ (upd H h'.objs.size (.tup ys)) { s with heap:=h'.push { cls:=.type "tuple",data:=.seq its.toArray } } :=
   I1.laid (t':=s.toks) (λ b o e=>Heap.get?_push_of_some _ e) [18] (show ObjOk X.prog X.w _ _ _ (.tup ys) from ⟨hz,its,r',IsTup.new _ _⟩)
  exact ⟨.ref h'.objs.size,_,I2,rfl,q _ (I1.hok.fresh [18])⟩
 ·obtain ⟨its,r',pl,hz⟩:=I.tuple hq;exact call_tuple_same pl ⟨.ref p,H,I,rfl,q⟩
def tyV (K:PySem.W.Frag) (T:String) (x:V) (H:Hp):Prop:=match x with
 | .str _=>T = "str"
 | .int _=>T = "int"
 | .ref p=>(T = "list" /\ ∃ xs,SqL K H p xs) \/ (T = "tuple" /\ ∃ o,K.lookup p=some o /\ o.cls=.type "tuple" /\ o.dict=none) ∨
     (T = "dict" /\ ((∃ kvs,H p=some (.dK kvs)) \/ ∃ kvs,H p=some (.dT kvs))) \/ (T = "set" /\ ∃ S n,H p=some (.set S n))
 | _=>False
theorem uy2 {pins:[6]} {σ:St} {H:Hp} {s:Shared} {T:String} {x:V} {v:Value} (I:[5]) (r:RelV x v) (ty:tyV X.K T x H) :
    s.TypeIs v T /\ ∀ a,v=.ref a->∃ ob,s.heap.get? a=some ob /\ ob.dict=none:=by
 cases x with
 | str z =>
  obtain ⟨t,rfl⟩:=r;cases (show T = "str" from ty);exact ⟨typeIs_str s z t,λ _ e=>nomatch e⟩
 | int i =>
  obtain ⟨t,rfl⟩:=r;cases (show T = "int" from ty);exact ⟨typeIs_int s i t,λ _ e=>nomatch e⟩
 | ref p =>
  cases r;rcases ty with ⟨rfl,xs,hq⟩ | ⟨rfl,o,hk,hc,hd⟩ | ⟨rfl,hk⟩ | ⟨rfl,S,n,hk⟩
  ·obtain ⟨its,_,pl,_⟩:=I.list hq;refine ⟨pl.isList.typeIs,λ a e=>?_⟩;cases e;obtain ⟨o,n,e,c,hd,_⟩:=pl;exact ⟨o,e,hd⟩
  ·refine ⟨⟨o,I.kIn p o hk,hc⟩,λ a e=>?_⟩;cases e;exact ⟨o,I.kIn _ o hk,hd⟩
  ·have z:∃ o,s.heap.get? p=some o /\ o.ExactDict:=by
     rcases hk with ⟨kvs,hk⟩ | ⟨kvs,hk⟩
     ·obtain ⟨_,_,_,_,o,_,_,e,ex,_⟩:=I.hok p _ hk;exact ⟨o,e,ex⟩
     ·obtain ⟨_,_,_,_,o,_,_,e,ex,_⟩:=I.hok p _ hk;exact ⟨o,e,ex⟩
   obtain ⟨o,e,ex⟩:=z;refine ⟨⟨o,e,ex.1⟩,λ a e2=>?_⟩;cases e2;exact ⟨o,e,ex.2.1⟩
  ·obtain ⟨o,_,_,_,e,ex,_⟩:=I.hok p _ hk;refine ⟨⟨o,e,ex.1⟩,λ a e2=>?_⟩;cases e2;exact ⟨o,e,ex.2.1⟩
 | _=>exact False.elim ty
def tBM (K:PySem.W.Frag) (T:String) (r:V->List V->Hp->VK->Prop) (to:TE) (t:TA):TE:=λ σ H Q=>to σ H λ x H1=>tyV K T x H1 /\ t σ H1 λ xs H2=>r x xs H2 Q
variable {o e:Expr} {es:List Expr} {to:TE} {t:TA} {name:Str} {apos cpos:Pos} {T id:String} {r:V->List V->Hp->VK->Prop}
theorem xt2 (pa:PlainAttrs T) (slot:Slot T name id) (hty:typeOf (.builtin id)=pure (.type "method_descriptor")) (hm:MtR X id r) (ho:PE X o to) (ha:PA X (e :: es) t)
    (hbase:attributeBase o name X.env (eval o X.env)=eval o X.env:=by rfl)
    (hfew:((backTo cpos (starEach (e :: es) X.env)).all (λ x=>!x.1) && (backToKw cpos (keywordEach [] X.env)).all (λ x=>x.1.isSome)
     && decide [17])=true:=by rfl)
    (hline:(apos.endLine == cpos.line)=true:=by rfl) (hs:starEach (e :: es) X.env=[30] :: starEach es X.env:=by rfl) (hplain:(backTo cpos (starEach es X.env)).any (·.1)=false:=by rfl) :
    PE X (.Call (.Attribute o name apos) (e :: es) [] cpos) (tBM X.K T r to t):=by
 intro pins s σ H Q I h;refine wpAny_Call_method_late hbase hfew hline rfl (thn (ho pins s σ H _ I h) λ v s1 ⟨x,H1,I1,r1,ty,q1⟩=>?_);obtain ⟨h1,h2⟩:=uy2 I1 r1 ty;refine ⟨T,id,pa,slot,hty,h1,h2,?_⟩;have hA:=ha cpos pins s1 σ H1 _ I1 q1;rw [hs] at hA ⊢;refine Calls.callWith_builtin (by show (false || (backTo cpos (starEach es X.env)).any (·.1))=false; rw [hplain] <;> rfl) (Calls.evalArgs_plain ?_);exact thn hA λ us s2 ⟨vs,H2,I2,r2,q2⟩=>hm pins s2 σ H2 x vs v us Q I2 r1 r2 q2
end
def MtM (X:Cx) (id:String) (r:V->List V->Hp->VK->Prop):Prop :=
 ∀ (pins:[6]) (s:Shared) (σ:St) (H:Hp) (x:V) (xs:List V) (v:Value) (us:[23]) (Q:VK),Inv X pins σ H s->RelV x v->Vals xs us->r x xs H Q ->
  wpAny [8] X.A (call (.builtin id) (v :: us)) (EP X pins σ Q) X.xe s
theorem Vals.one:∀ {x:V} {us:[23]},Vals [x] us->∃ u,us=[u] /\ RelV x u
 | _,_,.cons r .nil=>⟨_,rfl,r⟩
theorem Vals.rep {xs:List V} {us:[23]} (h:Vals xs us):∀ k:Nat,Vals (List.replicate k xs).flatten (List.replicate k us).flatten
 | 0=>.nil
 | k + 1=>by
  rw [replicate_succ,replicate_succ,flatten_cons,flatten_cons];exact Vals.append h (Vals.rep h k)
theorem wq0 (its:[23]):∀ (k:Nat) (acc:[23]),
    List.foldl (λ x1 x2=>x1 ++ x2) acc.toArray (List.replicate k its.toArray)=(acc ++ (List.replicate k its).flatten).toArray
 | 0,acc=>by simp
 | k + 1,acc=>by
  have e:acc.toArray ++ its.toArray=(acc ++ its).toArray:=by simp
  have e2:(acc ++ its) ++ (List.replicate k its).flatten=acc ++ (List.replicate (k + 1) its).flatten:=by
   rw [replicate_succ,flatten_cons,append_assoc]
  rw [<- e2,<- wq0 its k (acc ++ its),<- e,replicate_succ,foldl_cons]
section
variable {X:Cx} {pins:[6]} {σ:St} {H:Hp} {s:Shared} {l b:Addr} {xs ys zs:List V}
theorem Inv.lset {its its':[23]} {n:Nat} {f:Array Value->Array Value} {t':Nat} (I:[5]) (hH:H l=some (.lst xs))
    (e:s.heap.get? l=some { cls:=.type "list",data:=.seq its.toArray n }) (hf:f its.toArray=its'.toArray) (hv:Vals ys its') (hz:ys.length<=sizeLine) :
    Inv X pins σ (upd H l (.lst ys)) { s with heap:=s.heap.update l (Obj.mapSeq f),toks:=t' }:=by
 have q:=PySem.IsL.update e f;rw [hf] at q;refine I.write (x:=l) (e:=l) (by rw [hH]; exact trivial) (.inl rfl) (λ b' u hb hu=>(Heap.get?_update_other s.heap (Obj.mapSeq f) (Ne.symm hb)).trans hu) ⟨_,q⟩ ?_;exact ⟨hz,its',_,hv,q⟩
theorem Inv.lnew {its:[23]} {t':Nat} (I:[5]) (hv:Vals ys its) (hz:ys.length<=sizeLine) :
    Inv X pins σ (upd H s.heap.objs.size (.lst ys)) { s with heap:=s.heap.push { cls:=.type "list",data:=.seq its.toArray },toks:=t' } :=
 I.laid (λ _ _ q=>Heap.get?_push_of_some _ q) [18] ⟨hz,its,0,hv,Heap.get?_push_size _ rfl⟩
theorem Inv.fresh (I:[5]):H s.heap.objs.size=none:=I.hok.fresh [18]
theorem Inv.lstM (I:[5]) (hH:H l=some (.lst xs)):xs.length<=sizeLine /\ ∃ (its:[23]) (n:Nat),Vals xs its /\ xs.length=its.length /\ s.heap.get? l=some { cls:=.type "list",data:=.seq its.toArray n }:=by
 obtain ⟨z,its,n,r,e⟩:=I.hok l _ hH;exact ⟨z,its,n,r,r.length,e⟩
theorem sh1 {n:Nat} (h:n<=sizeLine):Builtin.List.listTooLong n=false:=by
 unfold Builtin.List.listTooLong;exact decide_eq_false [1]
end
section
variable {X:Cx}
def yq2:V->List V->Hp->VK->Prop:=λ x vs H Q=>∃ l xs y,x=.ref l /\ vs=[y] /\ H l=some (.lst xs) /\ xs.length < sizeLine /\ Q .non (upd H l (.lst (xs ++ [y])))
theorem tp0:MtM X "list.append" yq2:=by
 intro pins s σ H x vs v us Q I rx rv h;obtain ⟨l,xs,y,rfl,rfl,hH,hz,q⟩:=h;cases rx;obtain ⟨u,rfl,ru⟩:=rv.one;obtain ⟨z,its,n,r,hl,e⟩:=I.lstM hH;refine call_meets F.slot_list_append ⟨_,e,rfl⟩ F.entry_list_append (F.args_list_append_2 _ _) (PySem.list_append l its.toArray n u (by rw [size_toArray]; omega)) ⟨e,?_⟩;refine ⟨.non,_,I.lset (its':=its ++ [u]) hH e [24] (r.append (.cons ru .nil)) ?_,rfl,q⟩;rw [length_append,length_singleton];omega
def xq2:V->List V->Hp->VK->Prop:=λ x vs H Q=>∃ l b xs zs,x=.ref l /\ vs=[.ref b] /\ H l=some (.lst xs) /\ H b=some (.lst zs) /\ xs.length + zs.length<=sizeLine /\ Q .non (upd H l (.lst (xs ++ zs)))
theorem sr1:MtM X "list.extend" xq2:=by
 intro pins s σ H x vs v us Q I rx rv h;obtain ⟨l,b,xs,zs,rfl,rfl,hH,hB,hz,q⟩:=h;cases rx;obtain ⟨u,rfl,ru⟩:=rv.one;cases ru;obtain ⟨z,its,n,r,hl,e⟩:=I.lstM hH;obtain ⟨z2,its2,n2,r2,hl2,e2⟩:=I.lstM hB;have hsz:its.toArray.size + its2.toArray.size<=sizeLine:=by rw [size_toArray,size_toArray]; omega
 have hlong:¬ (!its.toArray.isEmpty && Builtin.List.listTooLong (its.toArray.size + its2.toArray.size))=true:=by
  rw [sh1 hsz,Bool.and_false];exact Bool.false_ne_true
 refine call_meets F.slot_list_extend ⟨_,e,rfl⟩ F.entry_list_extend (F.args_list_extend_2 _ _)
  (AutoSeq1.list_extend_list_list_0 l its.toArray n b its2.toArray n2 hlong (by rw [size_toArray]; omega) [1]) ⟨e,e2,?_⟩
 refine ⟨.non,_,I.lset (its':=its ++ its2) hH e [24] (r.append r2) ?_,rfl,q⟩;rw [length_append];omega
def rCat:R2:=λ x y H Q=>∃ l b xs zs,x=.ref l /\ y=.ref b /\ H l=some (.lst xs) /\ H b=some (.lst zs) /\ xs.length + zs.length<=sizeLine /\ ∀ p,H p=none->Q (.ref p) (upd H p (.lst (xs ++ zs)))
theorem op_cat:OpR X (binaryOp .Add) rCat:=by
 intro pins s σ H x y v u Q I rx ry h;obtain ⟨l,b,xs,zs,rfl,rfl,hH,hB,hz,q⟩:=h;cases rx;cases ry;obtain ⟨z,its,n,r,hl,e⟩:=I.lstM hH;obtain ⟨z2,its2,n2,r2,hl2,e2⟩:=I.lstM hB;refine PySem.P.add_list e e2 ?_ (by rw [size_toArray,size_toArray]; omega);have ea:its.toArray ++ its2.toArray=(its ++ its2).toArray:=by simp
 rw [ea];exact ⟨.ref _,_,I.lnew (t':=s.toks) (r.append r2) (by rw [length_append]; omega),rfl,q _ I.fresh⟩
def rRep:R2:=λ x y H Q=>∃ l k xs,x=.ref l /\ y=.int k /\ H l=some (.lst xs) /\ -(2 ^ 63)<=k /\ k < 2 ^ 63 /\ xs.length * k.toNat<=sizeLine ∧
 ∀ p,H p=none->Q (.ref p) (upd H p (.lst (List.replicate k.toNat xs).flatten))
theorem ze1 {α:Type} (xs:List α) (k:Nat):(List.replicate k xs).flatten.length=k * xs.length:=by
 induction k with
 | zero=>simp
 | succ k ih=>rw [replicate_succ,flatten_cons,length_append,ih,Nat.succ_mul,Nat.add_comm]
theorem uh3:OpR X (binaryOp .Mult) rRep:=by
 intro pins s σ H x y v u Q I rx ry h;obtain ⟨l,k,xs,rfl,rfl,hH,h1,h2,hz,q⟩:=h;cases rx;obtain ⟨t,rfl⟩:=ry;obtain ⟨z,its,n,r,hl,e⟩:=I.lstM hH;have hlen:its.toArray.size * k.toNat<=sizeLine:=by rw [size_toArray,<- hl]; exact hz
 have hcap:¬ its.toArray.size * k.toNat > (2 ^ 63 - 1) / 8:=by
  have:(sizeLine:Nat)<=(2 ^ 63 - 1) / 8:=by decide
  omega
 have hfit:¬ (!Builtin.List.listFitsIndex k)=true:=by
  rw [fitsIndex_both h1 h2];exact Bool.false_ne_true
 have hlong:¬ Builtin.List.listTooLong (its.toArray.size * k.toNat)=true:=by
  rw [sh1 hlen];exact Bool.false_ne_true
 have hnew:List.foldl (λ x1 x2=>x1 ++ x2) #[] (List.replicate (if its.toArray.isEmpty=true then 0 else k.toNat) its.toArray)=(List.replicate k.toNat its).flatten.toArray:=by
  have f0:∀ m:Nat,List.foldl (λ x1 x2=>x1 ++ x2) #[] (List.replicate m its.toArray)=(List.replicate m its).flatten.toArray:=λ m=>by
   have:=wq0 its m [];rw [nil_append] at this;exact this
  rw [f0];cases its with
  | nil=>simp
  | cons a r'=>rw [if_neg [24]]
 refine wpAny_binaryOp_repeat_ref (T := "list") (U := "int") [20] ⟨_,e,rfl⟩ (λ s'=>typeIs_int s' k t) noFill_list_mul F.fills_int_mul F.slot_int_rmul repeat_list F.slot_int_index.lookup
  (call_meets F.slot_int_rmul (typeIs_int s k t) F.entry_int_rmul (F.args_int_rmul_2 _ _) (int___rmul___int_list k t l its.toArray n)
   ⟨e,rfl,⟨_,e,rfl⟩,call_meets F.slot_list_mul ⟨_,e,rfl⟩ F.entry_list_mul (F.args_list_mul_2 _ _) (AutoListH.list___mul___list_int_3 l its.toArray n k t hfit hcap hlong) ⟨e,?_⟩⟩)
 rw [hnew];exact ⟨.ref _,_,I.lnew (t':=s.toks) (r.rep k.toNat) (by rw [ze1,Nat.mul_comm]; exact hz),rfl,q _ I.fresh⟩
end
end L2
namespace Att
open PySem PySem.W PySem.Calls PyProof.Rows
theorem zq0 {P:Params} {h:Heap}:∀ (ns:List Int) (vs:[23]),WellAll P h vs (ns.map WData.int)->IntsAre vs ns:=by
 intro ns
 induction ns with
 | nil =>
  intro vs w;rw [map_nil] at w;cases w;exact .nil
 | cons n ns ih =>
  intro vs w;rw [map_cons] at w;cases w with
  | cons a b =>
   cases a;exact .cons _ _ (ih _ b)
theorem to1 {l:OpenLaw} {n:Nat} (hn:l.most=some n) {P:Params} {h:Heap} {args:List WData} {vals:[23]}
    (hpre:l.row.toRowW.claim.pre args=true) (hwl:WellAll P h vals args) :
    ∃ a vs ns,vals=[Value.ref a] /\ args=[WData.list (ns.map WData.int)] /\ h.get? a=some { cls:=.type "list",data:=.seq vs.toArray } /\ IntsAre vs ns /\ ns.length<=n:=by
 have hsh:WShape.hasAll [] args [.list .int]=true:=(pre_splitW hpre).1;have hc:l.pre.holds [] { args:=args }=true:=(pre_splitW hpre).2;obtain ⟨d,r,rfl,h1,h2⟩:=hasAllW_cons hsh;obtain rfl:=hasAllW_nil h2;obtain ⟨xs,rfl,h3⟩:=hasW_list h1;obtain ⟨ns,rfl⟩:=items_int h3
 have hlen:ns.length<=n:=by
  unfold OpenLaw.pre at hc
  have h4:(WTm.not (.lt (.lit (.int (n:Int))) (.len (.arg 0)))).holds [] { args:=[.list (ns.map .int)] }=true:=by
   have h4:=(holds_andW hc).1;rw [hn] at h4;exact h4
  have h5:=condW_of h4 (w_not (w_lt w_lit (w_len_list (w_arg rfl))));rw [length_map] at h5;refine Nat.le_of_not_lt λ q=>?_;have q':(n:Int) < ((ns.length:Nat):Int):=by omega
  first
   | (rw [decide_eq_true q'] at h5; exact absurd h5 [20])
   | (simp at h5; omega)
 cases hwl with
 | cons w1 w2 =>
  cases w2;cases w1 with
  | list ho hall=>exact ⟨_,_,ns,rfl,rfl,ho,zq0 ns _ hall,hlen⟩
theorem yq1 (l:OpenLaw) (args:List WData):l.row.toRowW.claim.post args (.bool true) args=true :=
 postW_of (r:=l.row.toRowW) (X:=(true == true))
  (show WShape.has [] (.bool true) .bool=true by first | rfl | decide | simp [WShape.has,WShape.arms,WShape.armsAll])
  (show (WTm.eq .res (.lit (.bool true))).value [] { args:=args,res:=some (.bool true),after:=args }=some (.bool (true == true)) from w_eq_bool (w_res rfl) w_lit) rfl
theorem attach_call {l:OpenLaw} {n:Nat} {q:Program} {loose:List Str} {XP:(Str->Option Value)->Heap->Prop} {YP:World->Heap->Prop} {d:DefRec}
    (hn:l.most=some n) (hdf:d.params.defaults=[])
    (call:∀ (w:World) (s₀ s₁:Shared) (mg mb:Str->Option Value) (fa:Addr) (o:Obj) (pm cd doc:Value) (a:Addr) (vs:[23]) (ns:List Int),
     Ground q loose [] XP w s₀ mg mb s₁.heap->YP w s₁.heap ->
     s₁.heap.get? fa=some o->o.data=.func (docDef d.name d.params d.body d.scope pm cd doc)->s₁.heap.CodeRec cd d.name->mg d.name=some (.ref fa) ->
     s₁.heap.get? a=some { cls:=.type "list",data:=.seq vs.toArray }->IntsAre vs ns->ns.length<=n->s₁.gens = #[] ->
     codeAny (model l.prog w) callerA (.call (.ref fa) ⟨[.ref a],[]⟩) (λ r s'=>r=.ok (.ret (.bool true)) /\ OldK s₁.heap s'.heap /\ s'.os=s₁.os /\ AllBare s'.gens) s₁) :
    WalkO q loose XP YP l.row.toRowW d [] (λ f vs=>PySem.call f vs):=by
 intro w s₀ s₁ mg mb G Y fa o pm cd doc dV kV ho hd hcd hD hmg hg args vals as hpre hlay hrd hwl hlo;obtain rfl:dV=.none:=Dflts.none hD hdf;obtain rfl:kV=.none:=Dflts.noKw hD;obtain ⟨a,vs,ns,rfl,rfl,hobj,hints,hlen⟩:=to1 hn hpre hwl;refine enter_call (codeAny_mono (call w s₀ s₁ mg mb fa o pm cd doc a vs ns G Y ho (fd_plain hd) hcd hmg hobj hints hlen hg) λ r s' hq=>?_);obtain ⟨rfl,h2,h3,h4⟩:=hq;exact ⟨.inl ⟨.bool true,.bool true,[],rfl,λ _=>rfl,.bool true,yq1 l _,λ _=>⟨List.Pairwise.nil,λ _ hm=>(nomatch hm)⟩⟩,h2,h3,h4⟩
section
variable {prog:Program} {w:World} {A:Around} {E:[2]} {s:Shared} {K:Frag}
def ledger (h:Heap) (L d:Addr):List (Addr × Obj):=(List.range h.objs.size).filterMap λ a=>if a=L \/ a=d then none else (h.get? a).map λ o=>(a,o)
end
end Att
namespace L2
open PySem PySem.Spec PyProof.Rows
theorem wx0:∀ {vs:[23]} {ns:List Int},IntsAre vs ns->Vals (ns.map V.int) vs
 | _,_,.nil=>.nil
 | _,_,.cons n t h=>.cons ⟨t,rfl⟩ (wx0 h)
def Only (H:Hp):Prop:=∀ b,H b=none \/ ∃ o xs,H b=some (.frz o (.lst xs))
theorem ve2 {P:Program} {w:World} {K:PySem.W.Frag} {mg mb:Str->Option Value} {CX:CXT} {k:Nat} {fa a:Addr} {fd:FuncData} {x:Str} {sp:Sp} {s₁:Shared} {vs:[23]} {ns:List Int}
    (KX:K.In s₁.heap) (hns:s₁.heap.Ns mainGlobals mg) (hb:s₁.heap.Ns builtinsNs mb) (hbb:∀ x:Str,x ≠ "__name__" -> mb x=bootBuiltins x) (hlim:s₁.heap.NoLimit) (hg:s₁.gens = #[])
    (ha:s₁.heap.get? a=some { cls:=.type "list",data:=.seq vs.toArray }) (hi:IntsAre vs ns) (hl:ns.length<=sizeLine) (hr:Room k callerA)
    (F:∀ base:Heap,K.In base->base.Ns mainGlobals mg->FnOk P w K mg base CX k fa fd [x] sp) (hbind:∀ (s:Shared) (u:Value),BindsTo s fd ⟨[u],[]⟩ [(x,u)])
    (hsp:∀ H:Hp,Only H->SqL K H a (ns.map V.int)->sp [.ref a] H (λ v _=>v=.bl true) λ _ _ _=>False)
    (hCX:∀ H e s',CX [] H s₁ (λ _ _ _=>False) e s'->False) :
    codeAny (model P w) callerA (.call (.ref fa) ⟨[.ref a],[]⟩) (λ r s'=>r=.ok (.ret (.bool true)) /\ OldK s₁.heap s'.heap /\ s'.os=s₁.os /\ AllBare s'.gens) s₁:=by
 have rv:=wx0 hi;have lenV:=hi.length
 have core:∀ H:Hp,Only H->SqL K H a (ns.map V.int)->HOk P w H s₁.heap->(∀ b,H b ≠ none->b=a)->(H a ≠ none->K.lookup a=none) ->
     codeAny (model P w) callerA (.call (.ref fa) ⟨[.ref a],[]⟩) (λ r s'=>r=.ok (.ret (.bool true)) /\ OldK s₁.heap s'.heap /\ s'.os=s₁.os /\ AllBare s'.gens) s₁:=by
  intro H hO hS hok hA hK;have base_of:∀ {b:Addr} {o:Obj},s₁.heap.get? b=some o->H b=none->(hidT s₁.heap H).get? b=some o:=λ e n=>vf2 e n
  have noA:∀ {b:Addr} {o:Obj} {es:Array DictEntry} {ep:Nat},s₁.heap.get? b=some o->o.data=.dict es ep->H b=none:=λ {b o es ep} e d=>by
   cases q:H b with
   | none=>rfl
   | some u =>
    have e':b=a:=hA b (by rw [q]; simp);subst e';rw [ha] at e; cases e;have d':Data.seq vs.toArray _=Data.dict es ep:=d;cases d'
  have nsK:∀ {b:Addr} {m:Str->Option Value},s₁.heap.Ns b m->(hidT s₁.heap H).Ns b m:=λ {b m} ⟨o,es,ep,e,d,r⟩=>⟨o,es,ep,base_of e (noA e d),d,r⟩
  have hKb:K.In (hidT s₁.heap H):=λ b o e=>base_of (KX b o e) (by
   cases q:H b with
   | none=>rfl
   | some u =>
    have e':b=a:=hA b (by rw [q]; simp);subst e';rw [hK (by rw [q]; simp)] at e; cases e)
  have hM:Mod K mg (hidT s₁.heap H):=⟨hKb,nsK hns,⟨mb,nsK hb,hbb⟩,let ⟨mc,h1,h2⟩:=hlim; ⟨mc,nsK h1,h2⟩⟩;have e0:Env0 P w K mg (hidT s₁.heap H) callerA [] s₁ H:=⟨rfl,hM,λ b o e=>ut2 e,Nat.le_of_eq (uu1 _ _),trivial,λ b hb=>absurd (show b ∈ ([]:List Addr) from hb) [24],hok,.of_eq hg⟩;refine codeAny_mono ((F _ hKb (nsK hns)).run callerA [] s₁ H ⟨[.ref a],[]⟩ [.ref a] [.ref a] _ _ hr e0 (hbind s₁ (.ref a)) (.cons rfl .nil) (hsp H hO hS)) λ r s' h=>?_;cases r with
  | error e=>exact (hCX H e s' h).elim
  | ok fl =>
   cases fl with
   | next=>exact False.elim h
   | brk=>exact False.elim h
   | cont=>exact False.elim h
   | ret u =>
    obtain ⟨v,H',os,bare,un,hok',r',q⟩:=h;have q':v=.bl true:=q;subst q';obtain rfl:u=Value.bool true:=r';refine ⟨rfl,OldK.of_keep λ b o e=>?_,os,bare⟩;cases q:H b with
    | none=>exact un.keep b o e q (by intro z; exact absurd (show b ∈ ([]:List Addr) from z) [24]) [24]
    | some u =>
     rcases hO b with z | ⟨ob,xs,z⟩
     ·rw [q] at z; cases z
     ·have z2:=un.frzs b ob _ z;obtain ⟨e1,_⟩:=hok b _ z;obtain ⟨e2,_⟩:=hok' b _ z2;rw [e] at e1; cases e1;exact e2
 cases hk:K.lookup a with
 | some o =>
  have e:=KX a o hk;rw [ha] at e;cases e;refine core (λ _=>none) (λ _=>.inl rfl) (.inr ⟨_,vs.toArray,_,hk,rfl,rfl,rfl,by rw [size_toArray,lenV]; exact hl,by simpa using rv⟩) (λ b u z=>by have z':(none:Option HO)=some u:=z; cases z') (λ b z=>absurd rfl z) λ z=>absurd rfl z
 | none =>
  refine core (λ b=>if b=a then some (.frz { cls:=.type "list",data:=.seq vs.toArray } (.lst (ns.map V.int))) else none) (λ b=>?_) (.inl (.inr ⟨{ cls:=.type "list",data:=.seq vs.toArray },if_pos rfl⟩)) (λ b u z=>?_) (λ b z=>?_) λ _=>hk
  ·by_cases hb:b=a
   ·exact .inr ⟨_,_,if_pos hb⟩
   ·exact .inl (if_neg hb)
  ·by_cases hb:b=a
   ·have z':=(if_pos hb).symm.trans z;cases z';subst hb;exact ⟨ha,by rw [length_map]; exact hl,vs,_,rv,ha⟩
   ·have z':=(if_neg hb).symm.trans z;cases z'
  ·by_cases hb:b=a
   ·exact hb
   ·exact absurd (if_neg hb) z
abbrev KOf {K:PySem.W.Frag} {h:Heap} (_:K.In h):PySem.W.Frag:=K
theorem walk_of {l:PySem.W.OpenLaw} {n k:Nat} {q:Program} {loose:List Str} {XP:(Str->Option Value)->Heap->Prop} {YP:World->Heap->Prop} {d:DefRec} {K:Params->PySem.W.Frag} {CX:World->CXT} {sp:World->Sp} {x:Str}
    (hn:l.most=some n) (hn2:n<=sizeLine) (hdf:d.params.defaults=[]) (hr:Room k callerA)
    (hY:∀ (w:World) (h:Heap),YP w h->(K w.params).In h)
    (F:∀ (w:World) (mg:Str->Option Value) (fa:Addr) (h:Heap),(K w.params).In h->h.Ns mainGlobals mg->mg d.name=some (.ref fa) ->
     ∃ fd:FuncData,(∀ (s:Shared) (u:Value),BindsTo s fd ⟨[u],[]⟩ [(x,u)]) ∧
      ∀ base:Heap,(K w.params).In base->base.Ns mainGlobals mg->FnOk l.prog w (K w.params) mg base (CX w) k fa fd [x] (sp w))
    (hsp:∀ (w:World) (H:Hp) (a:Addr) (ns:List Int),ns.length<=n->Only H->SqL (K w.params) H a (ns.map V.int)->sp w [.ref a] H (λ v _=>v=.bl true) λ _ _ _=>False)
    (hCX:∀ (w:World) (H:Hp) (s:Shared) (e:Value) (s':Shared),CX w [] H s (λ _ _ _=>False) e s'->False) :
    PySem.W.WalkO q loose XP YP l.row.toRowW d [] (λ f vs=>PySem.call f vs):=by
 refine Att.attach_call hn hdf λ w s₀ s₁ mg mb fa o pm cd doc a vs ns G Y ho hd hcd hmg hobj hints hlen hg=>?_;have KX:=hY w _ Y;obtain ⟨fd,hb,hF⟩:=F w mg fa _ KX G.T.g hmg;exact ve2 KX G.T.g G.T.b G.T.builtins G.T.nolimit hg hobj hints (Nat.le_trans hlen hn2) hr hF hb (λ H hO hS=>hsp w H a ns hlen hO hS) λ H e s'=>hCX w H s₁ e s'
abbrev CX0:CXT:=λ _ _ _ _ _ _=>False
abbrev E0:XK:=λ _ _ _=>False
theorem zw3 {X:Cx}:xa2 CX0 X E0:=λ _ _ _ _ _ _ _ h=>h.elim
structure Fun (K:PySem.W.Frag) (x qual:Str) (st:Stmt) (f:Addr) (fd:FuncData):Prop where
 ex:∃ (oc:Value) (od:Option Addr) (kV doc pm:Value) (an:Option Addr) (cdv ct:Value) (osl:Array (Option Value)),
  fd=fnOf x qual (xj0 st) (wc0 st) (sa0 st) .none kV doc pm an cdv ct /\ K.lookup f=some ⟨oc,od,.func fd,osl⟩ /\ codeIn K cdv qual=true
 kp:keepIn K (.ref f)=true
section
variable {P:Program} {w:World} {K:PySem.W.Frag} {mg:Str->Option Value} {base:Heap}
theorem Fun.ok {x qual:Str} {st:Stmt} {f:Addr} {fd:FuncData} {N ps:List Str} {k:Nat} {sp:Sp} (F:Fun K x qual st f fd) (S:FnScope N ps (sa0 st)) (len:∀ vs H Q E,sp vs H Q E->vs.length=ps.length)
    (hbody:∀ (cdv:Value) (A:Around) (outer:List Env) (s:Shared) (H:Hp) (vs:List V) (Q:VK) (E:XK),Room k (A.deeper (envOfC qual (sa0 st) s.heap.objs.size f cdv))->sp vs H Q E ->
     ∃ t,PSs (cxOf CX0 P w K mg base N qual (sa0 st) f cdv A outer s H E).nox (wc0 st) t /\ t { nx:=λ _ H'=>Q .non H',rt:=Q } (start N vs) H):FnOk P w K mg base CX0 (k + 1) f fd ps sp:=by
 obtain ⟨oc,od,kV,doc,pm,an,cdv,ct,osl,rfl,lk,hcd⟩:=F.ex;refine xy3 lk hcd S len λ A outer s H vs Q E hr hsp=>?_;obtain ⟨t,h,q⟩:=hbody cdv A outer s H vs Q E hr hsp;exact ⟨t,h.nox,q⟩
theorem Fun.binds {x qual:Str} {st:Stmt} {f:Addr} {fd:FuncData} {ps:List Str} (F:Fun K x qual st f fd)
    (h:∀ (kV doc pm:Value) (an:Option Addr) (cdv ct:Value) (us:[23]),us.length=ps.length->bindArgs (fnOf x qual (xj0 st) (wc0 st) (sa0 st) .none kV doc pm an cdv ct) ⟨us,[]⟩=pure (ps.zip us)):Binds K fd ps []:=by
 obtain ⟨oc,od,kV,doc,pm,an,cdv,ct,osl,rfl,lk,hcd⟩:=F.ex;exact .all (h kV doc pm an cdv ct)
theorem vl2 {x qual:Str} {st:Stmt} {f:Addr} {oc:Value} {od an:Option Addr} {osl:Array (Option Value)} {kV doc pm cdv ct:Value} (l:K.lookup f=some ⟨oc,od,.func (fnOf x qual (xj0 st) (wc0 st) (sa0 st) .none kV doc pm an cdv ct),osl⟩)
    (c:codeIn K cdv qual=true) (k:keepIn K (.ref f)=true):Fun K x qual st f (fnOf x qual (xj0 st) (wc0 st) (sa0 st) .none kV doc pm an cdv ct):=⟨⟨oc,od,kV,doc,pm,an,cdv,ct,osl,rfl,l,c⟩,k⟩
end
section
variable {X:Cx}
theorem pv (i:Nat) {x:Str} {pos:Pos} (hN:X.N[i]?=some x:=by rfl) (hv:Vis X.env.scope x:=by first | exact Or.inl rfl | exact Or.inr (Or.inl rfl) | exact Or.inr (Or.inr rfl)) (hd:(x == ("__debug__" : Str))=false:=by decide)
    (hcd:(x == ("__classdict__" : Str))=false:=by decide):PE X (.Name x pos) (tVar i):=yk2 hN hv hd hcd
end
def Same (H H':Hp):Prop:=∀ b o,H b=some o->H' b=some o
end L2
namespace Pv
open PySem
inductive D where
 | non | bl (b:Bool) | int (i:Int) | str (x:Str) | tup (l:List D) | fls (l:List D) | ref (a:Addr) | ty (n:String) | exc (c:Str)
 | ktp (l:List D)
inductive MO where
 | lst (xs:List D)
 | ins (c:Str) (fs:List (Str × D))
 | dcp (kvs:List (List Int × D))
 | dcl (kvs:List (List Int × D))
abbrev Mu:=Addr->Option MO
def updM (μ:Mu) (a:Addr) (o:MO):Mu:=λ b=>if b=a then some o else μ b
theorem va0 {μ:Mu} {a:Addr} {o:MO}:updM μ a o a=some o:=by unfold updM; rw [if_pos rfl]
theorem yb0 {μ:Mu} {a b:Addr} {o:MO} (h:b ≠ a):updM μ a o b=μ b:=by unfold updM; rw [if_neg h]
theorem vi0 {μ:Mu} {a:Addr} {o u:MO}:updM (updM μ a o) a u=updM μ a u:=by
 funext b; unfold updM; by_cases h:b=a <;> simp [h]
def Ext (μ μ':Mu):Prop:=∀ a o,μ a=some o->μ' a=some o
theorem Ext.refl (μ:Mu):Ext μ μ:=λ _ _ h=>h
theorem Ext.trans {a b c:Mu} (h:Ext a b) (k:Ext b c):Ext a c:=λ x o q=>k x o (h x o q)
theorem Ext.new {μ:Mu} {p:Addr} {o:MO} (h:μ p=none):Ext μ (updM μ p o):=λ a u q=>by
 rw [yb0]; exact q;intro e; subst e; rw [h] at q; cases q
theorem Ext.free {μ μ':Mu} {p:Addr} (e:Ext μ μ') (h:μ' p=none):μ p=none:=by
 cases q:μ p with
 | none=>rfl
 | some o=>rw [e p o q] at h; cases h
def ExtB (p:Addr) (μ μ':Mu):Prop:=∀ a o,a ≠ p->μ a=some o->μ' a=some o
theorem ExtB.trans {p:Addr} {a b c:Mu} (h:ExtB p a b) (k:ExtB p b c):ExtB p a c:=λ x o n q=>k x o n (h x o n q)
theorem Ext.b {μ μ':Mu} (p:Addr) (e:Ext μ μ'):ExtB p μ μ':=λ a o _ q=>e a o q
theorem ExtB.upd {μ:Mu} {p:Addr} {o:MO}:ExtB p μ (updM μ p o):=λ a u n q=>by rw [yb0 n]; exact q
theorem sb0 {μ:Mu} {p q:Addr} {o:MO} (h:μ p=some o) (k:μ q=none):p ≠ q:=by
 intro e; subst e; rw [h] at k; cases k
abbrev St3:=List (Option D)
def getI:St3->Nat->Option D
 | [],_=>none
 | o :: _,0=>o
 | _ :: r,i + 1=>getI r i
theorem te1:∀ (ρ:St3) (i:Nat),getI ρ i=(ρ[i]?).getD none
 | [],i=>by simp [getI]
 | o :: _,0=>by simp [getI]
 | _ :: r,i + 1=>by simp [getI,te1 r i]
abbrev VK3:=D->Mu->Prop
abbrev TE3:=St3->Mu->VK3->Prop
abbrev TT3:=St3->Mu->(Bool->Mu->Prop)->Prop
abbrev TA3:=St3->Mu->(List D->Mu->Prop)->Prop
structure Ends3 where
 nx:St3->Mu->Prop
 rt:VK3
 bk:St3->Mu->Prop:=λ _ _=>False
 ct:St3->Mu->Prop:=λ _ _=>False
abbrev TS3:=Ends3->St3->Mu->Prop
abbrev R3:=D->D->Mu->VK3->Prop
abbrev Sp3:=List D->Mu->VK3->Prop
abbrev C3:=List D->Mu->VK3->Prop
abbrev TG3:=D->St3->Mu->(St3->Mu->Prop)->Prop
abbrev TGs3:=List D->St3->Mu->(St3->Mu->Prop)->Prop
abbrev TI3:=St3->Mu->(List D->(Mu->Prop)->Mu->Prop)->Prop
def v3 (i:Nat):TE3:=λ ρ μ Q=>match getI ρ i with
 | some d=>Q d μ
 | none=>False
def c3 (d:D):TE3:=λ _ μ Q=>Q d μ
def o3 (r:R3) (ta tb:TE3):TE3:=λ ρ μ Q=>ta ρ μ λ x μ1=>tb ρ μ1 λ y μ2=>r x y μ2 Q
def b3 (t:TE3):TT3:=λ ρ μ Q=>t ρ μ λ d μ1=>match d with
 | .bl c=>Q c μ1
 | _=>False
def and3 (t u:TT3):TT3:=λ ρ μ Q=>t ρ μ λ c μ1=>if c=true then u ρ μ1 Q else Q false μ1
def or3 (t u:TT3):TT3:=λ ρ μ Q=>t ρ μ λ c μ1=>if c=true then Q true μ1 else u ρ μ1 Q
def nil3:TA3:=λ _ μ Q=>Q [] μ
def za0 (t:TE3) (u:TA3):TA3:=λ ρ μ Q=>t ρ μ λ d μ1=>u ρ μ1 λ ds μ2=>Q (d :: ds) μ2
def tup3 (t:TA3):TE3:=λ ρ μ Q=>t ρ μ λ ds μ1=>ds.length<=sizeLine /\ Q (.tup ds) μ1
def lst3 (t:TA3):TE3:=λ ρ μ Q=>t ρ μ λ ds μ1=>ds.length<=sizeLine /\ ∀ p,μ1 p=none->Q (.ref p) (updM μ1 p (.lst ds))
def vc0 (sp:Sp3) (t:TA3):TE3:=λ ρ μ Q=>t ρ μ λ ds μ1=>sp ds μ1 Q
def mt3 (r:D->List D->Mu->VK3->Prop) (to:TE3) (t:TA3):TE3:=λ ρ μ Q=>to ρ μ λ x μ1=>match x with
 | .ref p=>match μ1 p with
  | some (.lst _)=>t ρ μ1 λ ds μ2=>r (.ref p) ds μ2 Q
  | _=>False
 | _=>False
def ti0:TS3:=λ D ρ μ=>D.nx ρ μ
def yi1:TS3:=λ _ _ _=>False
def seq3 (t u:TS3):TS3:=λ D ρ μ=>t { D with nx:=u D } ρ μ
def zk0 (t:TE3):TS3:=λ D ρ μ=>t ρ μ λ _ μ1=>D.nx ρ μ1
def ret3 (t:TE3):TS3:=λ D ρ μ=>t ρ μ D.rt
def ifs3 (c:TT3) (t u:TS3):TS3:=λ D ρ μ=>c ρ μ λ b μ1=>if b=true then t D ρ μ1 else u D ρ μ1
def gn3 (i:Nat):TG3:=λ d ρ μ Q=>Q (ρ.set i (some d)) μ
def ua1:TGs3:=λ ds ρ μ Q=>match ds with
 | []=>Q ρ μ
 | _=>False
def zf0 (t:TG3) (u:TGs3):TGs3:=λ ds ρ μ Q=>match ds with
 | d :: r=>t d ρ μ λ ρ1 μ1=>u r ρ1 μ1 Q
 | []=>False
def ya1 (n:Nat) (t:TGs3):TG3:=λ d ρ μ Q=>match d with
 | .tup l=>l.length=n /\ t l ρ μ Q
 | _=>False
def set3 (i:Nat) (t:TE3):TS3:=λ D ρ μ=>t ρ μ λ d μ1=>D.nx (ρ.set i (some d)) μ1
def asg3 (t:TE3) (g:TG3):TS3:=λ D ρ μ=>t ρ μ λ d μ1=>g d ρ μ1 D.nx
def ixN (n:Nat) (i:Int):Option Nat:=if 0<=i then (if i < n then some i.toNat else none) else if -(n:Int)<=i then some (i + n).toNat else none
def atI {α:Type} (xs:List α) (i:Int):Option α:=(ixN xs.length i).bind λ j=>xs[j]?
def sub3 (to ti:TE3):TG3:=λ d ρ μ Q=>to ρ μ λ o μ1=>ti ρ μ1 λ i μ2=>match o,i with
 | .ref p,.int k=>match μ2 p with
  | some (.lst xs)=>match ixN xs.length k with
   | some j=>Q ρ (updM μ2 p (.lst (xs.set j d)))
   | none=>False
  | _=>False
 | _,_=>False
def se1 (S:Mu->Prop) (g:TG3) (tb:TS3) (D':Ends3):List D->St3->Mu->Prop
 | [],ρ,μ=>S μ /\ D'.nx ρ μ
 | x :: r,ρ,μ=>S μ /\ ∃ N:St3->Mu->Prop,(∀ ρ' μ',N ρ' μ'->se1 S g tb D' r ρ' μ') /\ g x ρ μ λ ρ1 μ1=>tb { D' with nx:=N,ct:=N,bk:=D'.nx } ρ1 μ1
def for3 (ti:TI3) (g:TG3) (tb:TS3):TS3:=λ D' ρ μ=>ti ρ μ λ l S μ1=>se1 S g tb D' l ρ μ1
theorem sv2 {S:Mu->Prop} {g:TG3} {tb:TS3} {D':Ends3} (W:List D->St3->Mu->Prop) {l:List D} {ρ:St3} {μ:Mu} (h0:W l ρ μ) (hS:∀ l ρ μ,W l ρ μ->S μ) (hn:∀ ρ μ,W [] ρ μ->D'.nx ρ μ)
    (hs:∀ x r ρ μ,W (x :: r) ρ μ->g x ρ μ λ ρ1 μ1=>tb { D' with nx:=W r,ct:=W r,bk:=D'.nx } ρ1 μ1):se1 S g tb D' l ρ μ:=by
 induction l generalizing ρ μ with
 | nil=>exact ⟨hS _ _ _ h0,hn _ _ h0⟩
 | cons x r ih=>exact ⟨hS _ _ _ h0,W r,λ ρ' μ' q=>ih q,hs x r ρ μ h0⟩
theorem tg0 {S:Mu->Prop} {g:TG3} {tb:TS3} {D':Ends3} (W:List D->St3->Mu->Prop) {l:List D} {ρ:St3} {μ:Mu} (h0:W l ρ μ) (hS:∀ l ρ μ,W l ρ μ->S μ) (hn:∀ ρ μ,W [] ρ μ->D'.nx ρ μ)
    (hs:∀ G:D->List D->St3->Mu->Prop,G=(λ x r ρ μ=>g x ρ μ λ ρ1 μ1=>tb { D' with nx:=W r,ct:=W r,bk:=D'.nx } ρ1 μ1)->∀ x r ρ μ,W (x :: r) ρ μ->G x r ρ μ):se1 S g tb D' l ρ μ:=sv2 W h0 hS hn (hs _ rfl)
def is3 (t:TE3):TI3:=λ ρ μ R=>t ρ μ λ d μ1=>match d with
 | .tup l=>R l (λ _=>True) μ1
 | .fls l=>R l (λ _=>True) μ1
 | .str z=>R (z.cps.toList.map λ c=>D.str ⟨#[c]⟩) (λ _=>True) μ1
 | .ref p=>match μ1 p with
  | some (.lst l)=>R l (λ μ=>μ p=some (.lst l)) μ1
  | _=>False
 | _=>False
def rngD (lo:Int) (n:Nat):List D:=(List.range n).map λ i=>.int (lo + (i:Nat))
theorem xp0 (lo:Int) (n:Nat):rngD lo (n + 1)=.int lo :: rngD (lo + 1) n:=by
 unfold rngD;rw [List.range_succ_eq_map,map_cons,map_map];have e0:lo + ((0:Nat):Int)=lo:=by simp
 rw [e0];congr 1;apply List.map_congr_left;intro a _;show D.int (lo + ((a + 1:Nat):Int))=D.int (lo + 1 + (a:Int));have e1:lo + ((a + 1:Nat):Int)=lo + 1 + (a:Int):=by omega
 rw [e1]
def ir3 (t:TA3):TI3:=λ ρ μ R=>t ρ μ λ ds μ1=>match ds with
 | [.int j]=>(-(2 ^ 62)<=j /\ j < 2 ^ 62) /\ R (rngD 0 j.toNat) (λ _=>True) μ1
 | _=>False
def ir23 (t:TA3):TI3:=λ ρ μ R=>t ρ μ λ ds μ1=>match ds with
 | [.int i,.int j]=>(-(2 ^ 62)<=i /\ i < 2 ^ 62 /\ -(2 ^ 62)<=j /\ j < 2 ^ 62) /\ R (rngD i (j - i).toNat) (λ _=>True) μ1
 | _=>False
def tg2 (S:Mu->Prop) (p:Addr) (g:TG3) (tc:TT3) (te:TE3) (Q:VK3) (l:List D) (ρ0:St3) (μ0:Mu):Prop :=
 ∃ W:List D->List D->St3->Mu->Prop,W l [] ρ0 μ0 /\ (∀ l ys ρ μ,W l ys ρ μ->S μ /\ μ p=some (.lst ys)) /\ (∀ ys ρ μ,W [] ys ρ μ->Q (.ref p) μ) ∧
  ∀ x r ys ρ μ,W (x :: r) ys ρ μ->ys.length < sizeLine /\ g x ρ μ λ ρ1 μ1=>tc ρ1 μ1 λ b μ2 =>
   if b=true then te ρ1 μ2 λ d μ3=>μ3 p=some (.lst ys) /\ W r (ys ++ [d]) ρ1 (updM μ3 p (.lst (ys ++ [d]))) else W r ys ρ1 μ2
def th0 (js:List [34]) (ti:TI3) (g:TG3) (tc:TT3) (te:TE3):TE3:=λ ρ μ Q=>ti ρ μ λ l S μ1=>∀ p,μ1 p=none->tg2 S p g tc te Q l (js.map λ j=>j.bind (getI ρ)) (updM μ1 p (.lst []))
def tt3:TT3:=λ _ μ Q=>Q true μ
theorem wj0 {S:Mu->Prop} {p:Addr} {te:TE3} {Q:VK3} {l:List D} {o:Option D} {rest:St3} {μ:Mu} (f:D->D) (hp:μ p=none) (hl:l.length<=sizeLine) (hS:∀ μ',Ext μ μ'->S μ')
    (hx:∀ x ∈ l,∀ μ' R,Ext μ μ'->(∀ μ2,Ext μ' μ2->R (f x) μ2)->te (some x :: rest) μ' R) (hQ:∀ μ',Ext μ μ'->μ' p=some (.lst (l.map f))->Q (.ref p) μ') :
    tg2 S p (gn3 0) tt3 te Q l (o :: rest) (updM μ p (.lst [])):=by
 refine ⟨λ r ys ρ μ'=>Ext μ μ' /\ μ' p=some (.lst ys) /\ (∃ o',ρ=o' :: rest) /\ ∃ a,a ++ r=l /\ ys=a.map f,?_,?_,?_,?_⟩
 ·exact ⟨Ext.new hp,va0,⟨o,rfl⟩,[],rfl,rfl⟩
 ·rintro r ys ρ μ' ⟨h1,h2,_⟩;exact ⟨hS _ h1,h2⟩
 ·rintro ys ρ μ' ⟨h1,h2,_,a,e,rfl⟩;rw [append_nil] at e;subst e;exact hQ _ h1 h2
 ·rintro x r ys ρ μ' ⟨h1,h2,⟨o',rfl⟩,a,e,rfl⟩;refine ⟨by rw [length_map]; rw [<- e,length_append,length_cons] at hl; omega,?_⟩;show te (some x :: rest) μ' _;refine hx x (by rw [<- e]; simp) μ' _ h1 λ μ2 h3=>⟨h3 _ _ h2,λ b u hb=>?_,va0,⟨_,rfl⟩,a ++ [x],by simp [<- e],by simp⟩;rw [yb0 (sb0 hb hp)];exact h3 _ _ (h1 _ _ hb)
def CPow (i j:Int):Prop:=0<=j /\ j<=1000000 /\ i.natAbs < 2 ^ 64
def Big:Nat:=2 ^ 1000
def CMul (i j:Int):Prop:=((-(2 ^ 64) < i /\ i < 2 ^ 64) \/ (-(2 ^ 64) < j /\ j < 2 ^ 64)) \/ (i.natAbs < Big /\ j.natAbs < Big)
def int2 (C:Int->Int->Prop) (g:Int->Int->D):R3:=λ x y μ Q=>match x,y with
 | .int i,.int j=>C i j /\ Q (g i j) μ
 | _,_=>False
def yu1 (g:Int->Int->D):R3:=λ x y μ Q=>match x,y with
 | .int i,.int j=>Q (g i j) μ
 | _,_=>False
def subR:R3:=yu1 λ i j=>.int (i - j)
def mulR:R3:=λ x y μ Q=>match x,y with
 | .int i,.int j=>CMul i j /\ Q (.int (i * j)) μ
 | .tup l,.int k=>((-(2 ^ 62)<=k /\ k < 2 ^ 62) /\ l.length * k.toNat<=1000000) /\ Q (.tup (List.replicate k.toNat l).flatten) μ
 | .ref p,.int k=>match μ p with
  | some (.lst l)=>((-(2 ^ 62)<=k /\ k < 2 ^ 62) /\ l.length * k.toNat<=1000000) /\ ∀ r,μ r=none->Q (.ref r) (updM μ r (.lst (List.replicate k.toNat l).flatten))
  | _=>False
 | _,_=>False
def modR:R3:=int2 (λ _ j=>0 < j) λ i j=>.int (i % j)
def ww1:R3:=int2 (λ _ j=>0 < j /\ j < 2 ^ 120) λ i j=>.int (i / j)
def powR:R3:=int2 CPow λ i j=>.int (i ^ j.toNat)
def ltR:R3:=yu1 λ i j=>.bl (decide (i < j))
def gtR:R3:=yu1 λ i j=>.bl (decide (j < i))
def geR:R3:=yu1 λ i j=>.bl (decide (j<=i))
def addR:R3:=λ x y μ Q=>match x,y with
 | .int i,.int j=>Q (.int (i + j)) μ
 | .str i,.str j=>i.length + j.length<=sizeLine /\ Q (.str (i ++ j)) μ
 | .ref p,.ref q=>match μ p,μ q with
  | some (.lst xs),some (.lst ys)=>xs.length + ys.length<=sizeLine /\ ∀ r,μ r=none->Q (.ref r) (updM μ r (.lst (xs ++ ys)))
  | _,_=>False
 | .tup l,.tup m=>l.length + m.length<=sizeLine /\ Q (.tup (l ++ m)) μ
 | _,_=>False
def eqS:D->D->Option Bool
 | .int i,.int j=>some (decide (i=j))
 | .bl i,.bl j=>some (decide (i=j))
 | .str i,.str j=>some (decide (i=j))
 | .non,.non=>some true
 | .non,.int _=>some false
 | .int _,.non=>some false
 | .non,.str _=>some false
 | .str _,.non=>some false
 | .int _,.str _=>some false
 | .str _,.int _=>some false
 | _,_=>none
mutual
def dat:D->Option PyData
 | .non=>some .none
 | .bl b=>some (.bool b)
 | .int i=>some (.int i)
 | .str x=>if PyData.strOk x=true then some (.str x) else none
 | .tup l=>match dats l with
  | some ps=>some (.tuple ps)
  | none=>none
 | .ktp l=>match dats l with
  | some ps=>some (.tuple ps)
  | none=>none
 | _=>none
def dats:List D->Option (List PyData)
 | []=>some []
 | d :: r=>match dat d with
  | some p=>match dats r with
   | some ps=>some (p :: ps)
   | none=>none
  | none=>none
end
def datM (μ:Mu):D->Option PyData
 | .ref p=>match μ p with
  | some (.lst l)=>match dats l with
   | some ps=>some (.list ps)
   | none=>none
  | _=>none
 | d=>dat d
def eqR:R3:=λ x y μ Q=>match eqS x y with
 | some c=>Q (.bl c) μ
 | none=>match datM μ x,datM μ y with
  | some p,some q=>(p.depth<=64 /\ q.depth<=64) /\ Q (.bl (PyData.eqv p q)) μ
  | _,_=>False
def neR:R3:=λ x y μ Q=>match eqS x y with
 | some c=>Q (.bl (!c)) μ
 | none=>match datM μ x,datM μ y with
  | some p,some q=>(p.depth<=64 /\ q.depth<=64) /\ Q (.bl (!PyData.eqv p q)) μ
  | _,_=>False
def strs?:List D->Option (List Str)
 | []=>some []
 | .str x :: r=>match strs? r with
  | some l=>some (x :: l)
  | none=>none
 | _ :: _=>none
def inD (neg:Bool):R3:=λ x y μ Q=>match datM μ x,datM μ y with
 | some d,some (.list xs)=>(d.depth<=64 /\ (PyData.list xs).depth<=64) /\ Q (.bl (if neg then !(xs.any λ e=>PyData.eqv e d) else xs.any λ e=>PyData.eqv e d)) μ
 | some d,some (.tuple xs)=>(d.depth<=64 /\ (PyData.tuple xs).depth<=64) /\ Q (.bl (if neg then !(xs.any λ e=>PyData.eqv e d) else xs.any λ e=>PyData.eqv e d)) μ
 | _,_=>False
def inR (neg:Bool):R3:=λ x y μ Q=>match x,y with
 | .str z,.tup l=>match strs? l with
  | some zs=>Q (.bl (if neg then !zs.contains z else zs.contains z)) μ
  | none=>inD neg (.str z) (.tup l) μ Q
 | .str z,.ktp l=>match strs? l with
  | some zs=>Q (.bl (if neg then !zs.contains z else zs.contains z)) μ
  | none=>inD neg (.str z) (.ktp l) μ Q
 | .str z,.str y=>Q (.bl (if neg then !(!(Builtin.Str.occurrences y z 0 y.length 1).isEmpty) else !(Builtin.Str.occurrences y z 0 y.length 1).isEmpty)) μ
 | x,y=>inD neg x y μ Q
def ixR:R3:=λ x y μ Q=>match x,y with
 | .tup l,.int i=>match atI l i with
  | some d=>Q d μ
  | none=>False
 | .ktp l,.int i=>match atI l i with
  | some d=>Q d μ
  | none=>False
 | .fls l,.int i=>match atI l i with
  | some d=>Q d μ
  | none=>False
 | .ref p,.int i=>match μ p with
  | some (.lst l)=>match atI l i with
   | some d=>Q d μ
   | none=>False
  | _=>False
 | _,_=>False
def lenR:C3:=λ ds μ Q=>match ds with
 | [.tup l]=>Q (.int l.length) μ
 | [.fls l]=>Q (.int l.length) μ
 | [.str z]=>z.length<=sizeLine /\ Q (.int z.length) μ
 | [.ref p]=>match μ p with
  | some (.lst l)=>Q (.int l.length) μ
  | _=>False
 | _=>False
def tupR:C3:=λ ds μ Q=>match ds with
 | [.tup l]=>Q (.tup l) μ
 | [.ref p]=>match μ p with
  | some (.lst l)=>Q (.tup l) μ
  | _=>False
 | _=>False
def ints?:List D->Option (List Int)
 | []=>some []
 | .int x :: r=>match ints? r with
  | some l=>some (x :: l)
  | none=>none
 | _ :: _=>none
def appR:D->List D->Mu->VK3->Prop:=λ x ds μ Q=>match x,ds with
 | .ref p,[d]=>match μ p with
  | some (.lst l)=>l.length < sizeLine /\ Q .non (updM μ p (.lst (l ++ [d])))
  | _=>False
 | _,_=>False
def extR:D->List D->Mu->VK3->Prop:=λ x ds μ Q=>match x,ds with
 | .ref p,[.ref q]=>match μ p,μ q with
  | some (.lst l),some (.lst m)=>l.length + m.length<=sizeLine /\ Q .non (updM μ p (.lst (l ++ m)))
  | _,_=>False
 | _,_=>False
theorem atI0 {α:Type} {a:α} {r:List α}:atI (a :: r) 0=some a:=by
 unfold atI ixN; rw [if_pos [20],if_pos (by simp only [length_cons]; omega)]; rfl
theorem atI1 {α:Type} {a b:α} {r:List α}:atI (a :: b :: r) 1=some b:=by
 unfold atI ixN; rw [if_pos [20],if_pos (by simp only [length_cons]; omega)]; rfl
theorem ixN0 {n:Nat}:ixN (n + 1) 0=some 0:=by
 unfold ixN; rw [if_pos [20],if_pos [1]]; rfl
theorem ixN1 {n:Nat}:ixN (n + 1 + 1) 1=some 1:=by
 unfold ixN; rw [if_pos [20],if_pos [1]]; rfl
theorem yo3 {α:Type} {l:List α} {i:Int} (h0:0<=i) (h1:i < l.length):∃ d,d ∈ l /\ atI l i=some d:=by
 have hn:i.toNat < l.length:=by omega
 refine ⟨l[i.toNat],getElem_mem hn,?_⟩;unfold atI ixN;rw [if_pos h0,if_pos h1];exact getElem?_eq_getElem hn
def ye0 (N:List Str) (ds:List D):St3:=ds.map some ++ List.replicate (N.length - ds.length) none
def th2 (c:TT3) (tb:TS3):TS3:=λ D ρ μ=>∃ W:Nat->St3->Mu->Prop,(∃ m,W m ρ μ) /\ ∀ m ρ μ,W m ρ μ ->
 c ρ μ λ b μ1=>if b=true then ∃ N:St3->Mu->Prop,(∀ ρ' μ',N ρ' μ'->∃ m',m' < m /\ W m' ρ' μ') /\ tb { D with nx:=N,ct:=N,bk:=D.nx } ρ μ1 else D.nx ρ μ1
end Pv
namespace Pv
open PySem L2
abbrev Fg:=PySem.W.Frag
structure Kp (H H':Hp):Prop where
 tup:∀ b xs,H b=some (.tup xs)->H' b=some (.tup xs)
 frz:∀ b o u,H b=some (.frz o u)->H' b=some (.frz o u)
theorem Kp.refl (H:Hp):Kp H H:=⟨λ _ _ h=>h,λ _ _ _ h=>h⟩
theorem Kp.trans {a b c:Hp} (h:Kp a b) (k:Kp b c):Kp a c:=⟨λ x xs q=>k.tup x xs (h.tup x xs q),λ x o u q=>k.frz x o u (h.frz x o u q)⟩
theorem Kp.new {H:Hp} {p:Addr} {o:HO} (h:H p=none):Kp H (upd H p o) :=
 ⟨λ b xs q=>by rw [vb0 (xf0 q h)]; exact q,λ b o u q=>by rw [vb0 (xf0 q h)]; exact q⟩
theorem Kp.wr {H:Hp} {p:Addr} {o:HO} {xs:List V} (h:H p=some (.lst xs)):Kp H (upd H p o) :=
 ⟨λ b ys q=>by rw [vb0 (sy0 q h (by intro z; cases z))]; exact q,λ b o u q=>by rw [vb0 (sy0 q h (by intro z; cases z))]; exact q⟩
def SqF (K:Fg) (H:Hp) (a:Addr) (xs:List V):Prop :=
 (∃ o,H a=some (.frz o (.lst xs))) \/ ∃ (o:Obj) (its:Array Value) (n:Nat),K.lookup a=some o /\ o.cls=.type "list" /\ o.dict=none /\ o.data=.seq its n /\ its.size<=sizeLine /\ Vals xs its.toList
theorem SqF.l {K:Fg} {H:Hp} {a:Addr} {xs:List V} (h:SqF K H a xs):SqL K H a xs:=by
 rcases h with ⟨o,h⟩ | h
 ·exact .inl (.inr ⟨o,h⟩)
 ·exact .inr h
theorem SqF.mono {K:Fg} {H H':Hp} {a:Addr} {xs:List V} (k:Kp H H') (h:SqF K H a xs):SqF K H' a xs:=by
 rcases h with ⟨o,h⟩ | h
 ·exact .inl ⟨o,k.frz _ _ _ h⟩
 ·exact .inr h
theorem SqT.mono {K:Fg} {H H':Hp} {a:Addr} {xs:List V} (k:Kp H H') (h:SqT K H a xs):SqT K H' a xs:=by
 rcases h with h | h
 ·rcases h with h | ⟨o,h⟩
  ·exact .inl (.inl (k.tup _ _ h))
  ·exact .inl (.inr ⟨o,k.frz _ _ _ h⟩)
 ·exact .inr h
mutual
inductive RelD (K:Fg) (H:Hp):D->V->Prop where
 | non:RelD K H .non .non
 | bl (b:Bool):RelD K H (.bl b) (.bl b)
 | int (i:Int):RelD K H (.int i) (.int i)
 | str (x:Str):RelD K H (.str x) (.str x)
 | ref (a:Addr):RelD K H (.ref a) (.ref a)
 | ty (n:String):RelD K H (.ty n) (.ty n)
 | tup {a:Addr} {l:List D} {vs:List V}:H a=some (.tup vs)->RelDs K H l vs->RelD K H (.tup l) (.ref a)
 | ktp {a:Addr} {l:List D} {vs:List V}:SqT K H a vs->RelDs K H l vs->RelD K H (.ktp l) (.ref a)
 | fls {a:Addr} {l:List D} {vs:List V}:SqF K H a vs->RelDs K H l vs->RelD K H (.fls l) (.ref a)
 | exc {a C:Addr} {c:Str} {ob:Obj} {u:HO}:H a=some (.frz ob u)->ob.cls=.ref C->nsIn K mainGlobals c=some (some (.ref C))->RelD K H (.exc c) (.ref a)
inductive RelDs (K:Fg) (H:Hp):List D->List V->Prop where
 | nil:RelDs K H [] []
 | cons {d:D} {v:V} {l:List D} {vs:List V}:RelD K H d v->RelDs K H l vs->RelDs K H (d :: l) (v :: vs)
end
mutual
theorem RelD.mono {K:Fg} {H H':Hp} (k:Kp H H'):∀ {d:D} {v:V},RelD K H d v->RelD K H' d v
 | _,_,.non=>.non
 | _,_,.bl b=>.bl b
 | _,_,.int b=>.int b
 | _,_,.str b=>.str b
 | _,_,.ref b=>.ref b
 | _,_,.ty b=>.ty b
 | _,_,.tup h r=>.tup (k.tup _ _ h) (RelDs.mono k r)
 | _,_,.ktp h r=>.ktp (SqT.mono k h) (RelDs.mono k r)
 | _,_,.fls h r=>.fls (SqF.mono k h) (RelDs.mono k r)
 | _,_,.exc h r1 r2=>.exc (k.frz _ _ _ h) r1 r2
theorem RelDs.mono {K:Fg} {H H':Hp} (k:Kp H H'):∀ {d:List D} {v:List V},RelDs K H d v->RelDs K H' d v
 | _,_,.nil=>.nil
 | _,_,.cons h r=>.cons (RelD.mono k h) (RelDs.mono k r)
end
theorem RelDs.length {K:Fg} {H:Hp}:∀ {l:List D} {vs:List V},RelDs K H l vs->l.length=vs.length
 | _,_,.nil=>rfl
 | _,_,.cons _ r=>congrArg (· + 1) r.length
theorem RelDs.get {K:Fg} {H:Hp}:∀ {l:List D} {vs:List V} {i:Nat} {d:D},RelDs K H l vs->l[i]?=some d->∃ v,vs[i]?=some v /\ RelD K H d v
 | _,_,_,_,.nil,e=>by simp at e
 | _,_,0,_,.cons h _,e=>by simp at e; subst e; exact ⟨_,rfl,h⟩
 | _,_,i + 1,d,.cons _ r,e=>by
  obtain ⟨v,h1,h2⟩:=RelDs.get (i:=i) (d:=d) r (by simpa using e);exact ⟨v,by simpa using h1,h2⟩
theorem RelDs.append {K:Fg} {H:Hp}:∀ {l m:List D} {vs us:List V},RelDs K H l vs->RelDs K H m us->RelDs K H (l ++ m) (vs ++ us)
 | _,_,_,_,.nil,q=>q
 | _,_,_,_,.cons h r,q=>.cons h (RelDs.append r q)
theorem RelDs.set {K:Fg} {H:Hp} {d:D} {v:V} (hd:RelD K H d v):∀ {l:List D} {vs:List V} (i:Nat),RelDs K H l vs->RelDs K H (l.set i d) (vs.set i v)
 | _,_,_,.nil=>.nil
 | _,_,0,.cons _ r=>.cons hd r
 | _,_,i + 1,.cons h r=>.cons h (RelDs.set hd i r)
theorem RelDs.rep {K:Fg} {H:Hp} {l:List D} {vs:List V} (r:RelDs K H l vs):∀ k:Nat,RelDs K H (List.replicate k l).flatten (List.replicate k vs).flatten
 | 0=>.nil
 | k + 1=>by rw [replicate_succ,replicate_succ,flatten_cons,flatten_cons]; exact r.append (RelDs.rep r k)
inductive RelFs (K:Fg) (H:Hp):List (Str × D)->List (Str × V)->Prop where
 | nil:RelFs K H [] []
 | cons {f:Str} {d:D} {v:V} {l:List (Str × D)} {vs:List (Str × V)}:RelD K H d v->RelFs K H l vs->RelFs K H ((f,d) :: l) ((f,v) :: vs)
theorem RelFs.mono {K:Fg} {H H':Hp} (k:Kp H H') {l:List (Str × D)} {vs:List (Str × V)} (r:RelFs K H l vs):RelFs K H' l vs:=by
 induction r with
 | nil=>exact .nil
 | cons h _ ih=>exact .cons (h.mono k) ih
def kT (t:Int × Int × Int):List Key:=[.inl t.1,.inl t.2.1,.inl t.2.2]
inductive RelKs (K:Fg) (H:Hp):List ((Int × Int × Int) × D)->List (List Key × V)->Prop where
 | nil:RelKs K H [] []
 | cons {t:Int × Int × Int} {d:D} {v:V} {l:List ((Int × Int × Int) × D)} {vs:List (List Key × V)}:RelD K H d v->RelKs K H l vs->RelKs K H ((t,d) :: l) ((kT t,v) :: vs)
def kL (k:List Int):List Key:=k.map Sum.inl
inductive RelKl (K:Fg) (H:Hp):List (List Int × D)->List (List Key × V)->Prop where
 | nil:RelKl K H [] []
 | cons {t:List Int} {d:D} {v:V} {l:List (List Int × D)} {vs:List (List Key × V)}:RelD K H d v->RelKl K H l vs->RelKl K H ((t,d) :: l) ((kL t,v) :: vs)
theorem RelKl.mono {K:Fg} {H H':Hp} (k:Kp H H') {l:[16]} {vs:[15]} (r:RelKl K H l vs):RelKl K H' l vs:=by
 induction r with
 | nil=>exact .nil
 | cons h _ ih=>exact .cons (h.mono k) ih
structure RelM (K:Fg) (μ:Mu) (H:Hp):Prop where
 lst:∀ p xs,μ p=some (.lst xs)->∃ vs,H p=some (.lst vs) /\ RelDs K H xs vs
 ins:∀ p c fs,μ p=some (.ins c fs)->∃ C dx vs,nsIn K mainGlobals c=some (some (.ref C)) /\ H p=some (.ins C dx vs) /\ H dx=some (.own p) /\ RelFs K H fs vs
 dcp:∀ p kvs,μ p=some (.dcp kvs)->∃ vs,H p=some (.dK vs) /\ RelKl K H kvs vs
 dcl:∀ p kvs,μ p=some (.dcl kvs)->∃ vs,H p=some (.dT vs) /\ RelKl K H kvs vs
instance {K:Fg} {μ:Mu} {H:Hp}:CoeFun (RelM K μ H) (λ _=>∀ p xs,μ p=some (.lst xs)->∃ vs,H p=some (.lst vs) /\ RelDs K H xs vs):=⟨RelM.lst⟩
theorem RelM.free {K:Fg} {μ:Mu} {H:Hp} (m:RelM K μ H) {p:Addr} (h:H p=none):μ p=none:=by
 cases e:μ p with
 | none=>rfl
 | some o =>
  cases o with
  | lst xs =>
   obtain ⟨vs,q,_⟩:=m.lst p xs e;rw [h] at q; cases q
  | ins c fs =>
   obtain ⟨C,dx,vs,_,q,_⟩:=m.ins p c fs e;rw [h] at q; cases q
  | dcp kvs =>
   obtain ⟨vs,q,_⟩:=m.dcp p kvs e;rw [h] at q; cases q
  | dcl kvs =>
   obtain ⟨vs,q,_⟩:=m.dcl p kvs e;rw [h] at q; cases q
theorem RelM.newT {K:Fg} {μ:Mu} {H:Hp} {p:Addr} {o:HO} (h:H p=none) (m:RelM K μ H):RelM K μ (upd H p o):=by
 have ne:∀ {q:Addr} {u:HO},H q=some u->q ≠ p:=λ {q u} e z=>by subst z; rw [h] at e; cases e
 refine ⟨λ q xs e=>?_,λ q c fs e=>?_,λ q kvs e=>?_,λ q kvs e=>?_⟩
 ·obtain ⟨vs,q1,r⟩:=m.lst q xs e;exact ⟨vs,by rw [vb0 (ne q1)]; exact q1,r.mono (Kp.new h)⟩
 ·obtain ⟨C,dx,vs,n,q1,q2,r⟩:=m.ins q c fs e;exact ⟨C,dx,vs,n,by rw [vb0 (ne q1)]; exact q1,by rw [vb0 (ne q2)]; exact q2,r.mono (Kp.new h)⟩
 ·obtain ⟨vs,q1,r⟩:=m.dcp q kvs e;exact ⟨vs,by rw [vb0 (ne q1)]; exact q1,r.mono (Kp.new h)⟩
 ·obtain ⟨vs,q1,r⟩:=m.dcl q kvs e;exact ⟨vs,by rw [vb0 (ne q1)]; exact q1,r.mono (Kp.new h)⟩
theorem RelM.newL {K:Fg} {μ:Mu} {H:Hp} {p:Addr} {xs:List D} {vs:List V} (h:H p=none) (r:RelDs K H xs vs) (m:RelM K μ H):RelM K (updM μ p (.lst xs)) (upd H p (.lst vs)):=by
 have m':=m.newT (o:=.lst vs) h;refine ⟨λ q ys e=>?_,λ q c fs e=>?_,λ q kvs e=>?_,λ q kvs e=>?_⟩
 ·by_cases z:q=p
  ·subst z;rw [va0] at e; cases e;exact ⟨vs,ve0,r.mono (Kp.new h)⟩
  ·rw [yb0 z] at e;exact m'.lst q ys e
 ·by_cases z:q=p
  ·subst z;rw [va0] at e; cases e
  ·rw [yb0 z] at e;exact m'.ins q c fs e
 ·by_cases z:q=p
  ·subst z;rw [va0] at e; cases e
  ·rw [yb0 z] at e;exact m'.dcp q kvs e
 ·by_cases z:q=p
  ·subst z;rw [va0] at e; cases e
  ·rw [yb0 z] at e;exact m'.dcl q kvs e
theorem RelM.wr {K:Fg} {μ:Mu} {H:Hp} {p:Addr} {xs:List D} {vs ws:List V} (h:H p=some (.lst ws)) (r:RelDs K H xs vs) (m:RelM K μ H):RelM K (updM μ p (.lst xs)) (upd H p (.lst vs)):=by
 refine ⟨λ q ys e=>?_,λ q c fs e=>?_,λ q kvs e=>?_,λ q kvs e=>?_⟩
 ·by_cases z:q=p
  ·subst z;rw [va0] at e; cases e;exact ⟨vs,ve0,r.mono (Kp.wr h)⟩
  ·rw [yb0 z] at e;rw [vb0 z];obtain ⟨us,q1,r1⟩:=m.lst q ys e;exact ⟨us,q1,r1.mono (Kp.wr h)⟩
 ·by_cases z:q=p
  ·subst z;rw [va0] at e; cases e
  ·rw [yb0 z] at e;obtain ⟨C,dx,us,n,q1,q2,r1⟩:=m.ins q c fs e;refine ⟨C,dx,us,n,by rw [vb0 z]; exact q1,?_,r1.mono (Kp.wr h)⟩;rw [vb0]
   ·exact q2
   ·intro y; subst y; rw [h] at q2; cases q2
 ·by_cases z:q=p
  ·subst z;rw [va0] at e; cases e
  ·rw [yb0 z] at e;rw [vb0 z];obtain ⟨us,q1,r1⟩:=m.dcp q kvs e;exact ⟨us,q1,r1.mono (Kp.wr h)⟩
 ·by_cases z:q=p
  ·subst z;rw [va0] at e; cases e
  ·rw [yb0 z] at e;rw [vb0 z];obtain ⟨us,q1,r1⟩:=m.dcl q kvs e;exact ⟨us,q1,r1.mono (Kp.wr h)⟩
structure RSt (K:Fg) (H:Hp) (ρ:St3) (σ:St):Prop where
 len:ρ.length=σ.length
 at':∀ i d,getI ρ i=some d->∃ v,σ[i]?=some (some v) /\ RelD K H d v
theorem RSt.mono {K:Fg} {H H':Hp} {ρ:St3} {σ:St} (k:Kp H H') (s:RSt K H ρ σ):RSt K H' ρ σ:=⟨s.len,λ i d e=>let ⟨v,h,r⟩:=s.at' i d e; ⟨v,h,r.mono k⟩⟩
theorem uj1:∀ (ρ:St3) (i j:Nat) (d:Option D),getI (ρ.set i d) j=if i=j /\ i < ρ.length then d else getI ρ j
 | [],i,j,d=>by simp [getI]
 | o :: r,0,0,d=>by simp [getI]
 | o :: r,0,j + 1,d=>by simp [getI]
 | o :: r,i + 1,0,d=>by simp [getI]
 | o :: r,i + 1,j + 1,d=>by simp only [List.set_cons_succ,getI,uj1 r i j d,length_cons]; simp
theorem RSt.set {K:Fg} {H:Hp} {ρ:St3} {σ:St} {d:D} {v:V} (i:Nat) (r:RelD K H d v) (s:RSt K H ρ σ):RSt K H (ρ.set i (some d)) (σ.set i (some v)):=by
 refine ⟨by simp [s.len],λ j e h=>?_⟩;rw [uj1] at h;split at h
 ·next c =>
  obtain ⟨rfl,c2⟩:=c;cases h;exact ⟨v,by rw [List.getElem?_set_self (by rw [<- s.len]; exact c2)],r⟩
 ·next c =>
  obtain ⟨u,q,r'⟩:=s.at' j e h;have hj:j < σ.length:=(List.getElem?_eq_some_iff.mp q).1;by_cases z:i=j
  ·subst z; exact absurd ⟨rfl,by rw [s.len]; exact hj⟩ c
  ·exact ⟨u,by rw [List.getElem?_set_ne z]; exact q,r'⟩
theorem RSt.start {K:Fg} {H:Hp} {ds:List D} {vs:List V} (N:List Str) (r:RelDs K H ds vs):RSt K H (ye0 N ds) (L2.start N vs):=by
 have hl:=r.length;refine ⟨by simp [ye0,L2.start,hl],λ i d e=>?_⟩;rw [te1] at e;unfold ye0 at e;unfold L2.start;by_cases c:i < ds.length
 ·rw [getElem?_append_left (by simpa using c),getElem?_map] at e;cases q:ds[i]? with
  | none=>rw [q] at e; cases e
  | some d' =>
   rw [q] at e;have e':d'=d:=by simpa using e
   subst e';obtain ⟨v,h1,h2⟩:=r.get q;exact ⟨v,by rw [getElem?_append_left (by rw [length_map]; omega),getElem?_map,h1]; rfl,h2⟩
 ·rw [getElem?_append_right (by simpa using c),List.getElem?_replicate] at e;split at e <;> simp at e
abbrev Ks (K:Fg) (H:Hp) (Q3:VK3) (Q:VK):Prop:=∀ d μ' v H',Q3 d μ'->Kp H H'->RelD K H' d v->RelM K μ' H'->Q v H'
theorem Ks.after {K:Fg} {H H1:Hp} {Q3:VK3} {Q:VK} (k:Ks K H Q3 Q) (e:Kp H H1):Ks K H1 Q3 Q:=λ d μ v H' q e'=>k d μ v H' q (e.trans e')
def RdE (K:Fg) (tv:TE) (t:TE3):Prop:=∀ σ H Q ρ μ Q3,RSt K H ρ σ->RelM K μ H->t ρ μ Q3->Ks K H Q3 Q->tv σ H Q
def RE (X:Cx) (e:Expr) (t:TE3):Prop:=∃ tv,PE X e tv /\ RdE X.K tv t
def RdT (K:Fg) (tv:TT) (t:TT3):Prop:=∀ σ H Q ρ μ Q3,RSt K H ρ σ->RelM K μ H->t ρ μ Q3->(∀ b μ' H',Q3 b μ'->Kp H H'->RelM K μ' H'->Q b H')->tv σ H Q
def RT (X:Cx) (e:Expr) (t:TT3):Prop:=∃ tv,PT X e tv /\ RdT X.K tv t
def RW (X:Cx) (e:Expr) (t:TT3):Prop:=∃ tv,PW X e tv /\ RdT X.K tv t
def RdA (K:Fg) (tv:TA) (t:TA3):Prop:=∀ σ H Q ρ μ Q3,RSt K H ρ σ->RelM K μ H->t ρ μ Q3->(∀ ds μ' vs H',Q3 ds μ'->Kp H H'->RelDs K H' ds vs->RelM K μ' H'->Q vs H')->tv σ H Q
def RA (X:Cx) (es:List Expr) (t:TA3):Prop:=∃ tv,PA X es tv /\ RdA X.K tv t
structure KsD (K:Fg) (H:Hp) (D3:Ends3) (D:Ends):Prop where
 nx:∀ ρ μ σ H',D3.nx ρ μ->Kp H H'->RSt K H' ρ σ->RelM K μ H'->D.nx σ H'
 bk:∀ ρ μ σ H',D3.bk ρ μ->Kp H H'->RSt K H' ρ σ->RelM K μ H'->D.bk σ H'
 ct:∀ ρ μ σ H',D3.ct ρ μ->Kp H H'->RSt K H' ρ σ->RelM K μ H'->D.ct σ H'
 rt:Ks K H D3.rt D.rt
theorem KsD.after {K:Fg} {H H1:Hp} {D3:Ends3} {D:Ends} (k:KsD K H D3 D) (e:Kp H H1):KsD K H1 D3 D :=
 ⟨λ ρ μ σ H' q e'=>k.nx ρ μ σ H' q (e.trans e'),λ ρ μ σ H' q e'=>k.bk ρ μ σ H' q (e.trans e'),λ ρ μ σ H' q e'=>k.ct ρ μ σ H' q (e.trans e'),k.rt.after e⟩
def RdS (K:Fg) (tv:TS) (t:TS3):Prop:=∀ σ H D ρ μ D3,RSt K H ρ σ->RelM K μ H->t D3 ρ μ->KsD K H D3 D->tv D σ H
def RS (X:Cx) (st:Stmt) (t:TS3):Prop:=∃ tv,PS X st tv /\ RdS X.K tv t
def RSs (X:Cx) (st:List Stmt) (t:TS3):Prop:=∃ tv,PSs X st tv /\ RdS X.K tv t
def RdG (K:Fg) (tv:TG) (t:TG3):Prop:=∀ v d σ H Q ρ μ Q3,RSt K H ρ σ->RelM K μ H->RelD K H d v->t d ρ μ Q3->(∀ ρ' μ' σ' H',Q3 ρ' μ'->Kp H H'->RSt K H' ρ' σ'->RelM K μ' H'->Q σ' H')->tv v σ H Q
def RG (X:Cx) (e:Expr) (t:TG3):Prop:=∃ tv,PG X e tv /\ RdG X.K tv t
def RdGs (K:Fg) (tv:TGs) (t:TGs3):Prop:=∀ vs ds σ H Q ρ μ Q3,RSt K H ρ σ->RelM K μ H->RelDs K H ds vs->t ds ρ μ Q3->(∀ ρ' μ' σ' H',Q3 ρ' μ'->Kp H H'->RSt K H' ρ' σ'->RelM K μ' H'->Q σ' H')->tv vs σ H Q
def RGs (X:Cx) (es:List Expr) (t:TGs3):Prop:=∃ tv,PGs X es tv /\ RdGs X.K tv t
def RdO (K:Fg) (r:R2) (r3:R3):Prop:=∀ x y v u H Q μ Q3,RelM K μ H->RelD K H x v->RelD K H y u->r3 x y μ Q3->Ks K H Q3 Q->r v u H Q
def RO (X:Cx) (f:Value->Value->Sem Value) (r3:R3):Prop:=∃ r,OpR X f r /\ RdO X.K r r3
def RdC (K:Fg) (r:List V->Hp->VK->Prop) (r3:C3):Prop:=∀ xs vs H Q μ Q3,RelM K μ H->RelDs K H xs vs->r3 xs μ Q3->Ks K H Q3 Q->r vs H Q
def RC (X:Cx) (f:Value) (r3:C3):Prop:=∃ r,CallR X f r /\ RdC X.K r r3
def RX (X:Cx) (r3:R3):Prop:=∃ r,IxR X r /\ RdO X.K r r3
section
variable {X:Cx} {a b c e:Expr} {ta tb tc te:TE3} {pos:Pos}
theorem ya0 (i:Nat) {x:Str} (hN:X.N[i]?=some x:=by rfl) (hv:Vis X.env.scope x:=by first | exact Or.inl rfl | exact Or.inr (Or.inl rfl) | exact Or.inr (Or.inr rfl)) (hd:(x == ("__debug__" : Str))=false:=by decide)
    (hcd:(x == ("__classdict__" : Str))=false:=by decide):RE X (.Name x pos) (v3 i):=by
 refine ⟨_,yk2 hN hv hd hcd,λ σ H Q ρ μ Q3 s m h k=>?_⟩;unfold v3 at h;cases q:getI ρ i with
 | none=>rw [q] at h; exact h.elim
 | some d =>
  rw [q] at h;obtain ⟨v,e,r⟩:=s.at' i d q;exact ⟨v,e,k d μ v H h (Kp.refl H) r m⟩
theorem RdE.cst {K:Fg} {d:D} {v:V} (r:∀ H,RelD K H d v):RdE K (tC v) (c3 d):=λ σ H Q ρ μ Q3 s m h k=>k d μ v H h (Kp.refl H) (r H) m
theorem ua0 {i:Int} {j}:RE X (.Constant (.int i) j pos) (c3 (.int i)):=⟨_,sg3,RdE.cst λ _=>.int i⟩
theorem tl1 {i:Bool} {j}:RE X (.Constant (.bool i) j pos) (c3 (.bl i)):=⟨_,xw3,RdE.cst λ _=>.bl i⟩
theorem zj2 {j}:RE X (.Constant .none j pos) (c3 .non):=⟨_,vg3,RdE.cst λ _=>.non⟩
def Gd (K:Fg) (mg:Str->Option Value) (x:Str) (d:D):Prop:=∃ u v,mg x=some u /\ RelV v u /\ ∀ H,RelD K H d v
theorem re_g {x:Str} {d:D} (g:Gd X.K X.mg x d) (hg:Gl X x:=by rfl) (hd:(x == ("__debug__" : Str))=false:=by decide):RE X (.Name x pos) (c3 d):=by
 obtain ⟨u,v,hm,r,rd⟩:=g;exact ⟨_,vs2 hg hm r hd,RdE.cst rd⟩
theorem wb0 {op:Operator} {r3:R3} (ho:RO X (binaryOp op) r3) (ha:RE X a ta) (hb:RE X b tb):RE X (.BinOp a op b pos) (o3 r3 ta tb):=by
 obtain ⟨r,po,ro⟩:=ho;obtain ⟨va,pa,ra⟩:=ha;obtain ⟨vb,pb,rb⟩:=hb
 exact ⟨_,tv3 po pa pb,λ σ H Q ρ μ Q3 s m h k=>ra σ H _ ρ μ _ s m h λ x μ1 v H1 h1 k1 r1 m1=>rb σ H1 _ ρ μ1 _ (s.mono k1) m1 h1 λ y μ2 u H2 h2 k2 r2 m2 =>
  ro x y v u H2 Q μ2 Q3 m2 (r1.mono k2) r2 h2 (k.after (k1.trans k2))⟩
theorem RdE.op {K:Fg} {r:R2} {r3:R3} {va vb:TE} (ra:RdE K va ta) (rb:RdE K vb tb) (ro:RdO K r r3):RdE K (tOp r va vb) (o3 r3 ta tb):=λ σ H Q ρ μ Q3 s m h k =>
 ra σ H _ ρ μ _ s m h λ x μ1 v H1 h1 k1 r1 m1=>rb σ H1 _ ρ μ1 _ (s.mono k1) m1 h1 λ y μ2 u H2 h2 k2 r2 m2=>ro x y v u H2 Q μ2 Q3 m2 (r1.mono k2) r2 h2 (k.after (k1.trans k2))
theorem RdT.test {K:Fg} {va:TE} (ra:RdE K va ta):RdT K (tz2 va) (b3 ta):=λ σ H Q ρ μ Q3 s m h k=>by
 refine ra σ H _ ρ μ _ s m h λ d μ1 v H1 h1 k1 r1 m1=>?_;cases r1 with
 | bl c=>exact ⟨c,rfl,k c μ1 H1 h1 k1 m1⟩
 | _=>exact False.elim h1
theorem te0 {op:CmpOp} {r3:R3} (ho:RO X (compareOp op) r3) (ha:RE X a ta) (hb:RE X b tb) (hm:behindInMarks op b=false:=by first | exact vi3 _ | with_unfolding_all rfl):RT X (.Compare a [op] [b] pos) (b3 (o3 r3 ta tb)):=by
 obtain ⟨r,po,ro⟩:=ho;obtain ⟨va,pa,ra⟩:=ha;obtain ⟨vb,pb,rb⟩:=hb;exact ⟨_,yr2 po pa pb hm,RdT.test (ra.op rb ro)⟩
variable {tA tB':TT3} {rest:List Expr}
theorem RW.pt (h:RW X a tA):RT X a tA:=let ⟨t,p,r⟩:=h; ⟨t,p.pt,r⟩
theorem zp2 (h:RW X a tA):RT X a tA:=h.pt
theorem xp1 (h:RT X a tA):RW X (.BoolOp .And [a] pos) tA:=let ⟨t,p,r⟩:=h; ⟨t,tq2 p,r⟩
theorem wb3 (h:RT X a tA):RW X (.BoolOp .Or [a] pos) tA:=let ⟨t,p,r⟩:=h; ⟨t,xf3 p,r⟩
theorem xj2 (ha:RT X a tA) (hb:RW X (.BoolOp .And (b :: rest) pos) tB'):RW X (.BoolOp .And (a :: b :: rest) pos) (and3 tA tB'):=by
 obtain ⟨va,pa,ra⟩:=ha;obtain ⟨vb,pb,rb⟩:=hb;refine ⟨_,yf3 pa pb,λ σ H Q ρ μ Q3 s m h k=>ra σ H _ ρ μ _ s m h λ c μ1 H1 h1 k1 m1=>?_⟩;cases c with
 | true=>exact rb σ H1 Q ρ μ1 Q3 (s.mono k1) m1 h1 λ b μ' H' q e=>k b μ' H' q (k1.trans e)
 | false=>exact k _ _ _ h1 k1 m1
theorem wr3 (ha:RT X a tA) (hb:RW X (.BoolOp .Or (b :: rest) pos) tB'):RW X (.BoolOp .Or (a :: b :: rest) pos) (or3 tA tB'):=by
 obtain ⟨va,pa,ra⟩:=ha;obtain ⟨vb,pb,rb⟩:=hb;refine ⟨_,zv3 pa pb,λ σ H Q ρ μ Q3 s m h k=>ra σ H _ ρ μ _ s m h λ c μ1 H1 h1 k1 m1=>?_⟩;cases c with
 | true=>exact k _ _ _ h1 k1 m1
 | false=>exact rb σ H1 Q ρ μ1 Q3 (s.mono k1) m1 h1 λ b μ' H' q e=>k b μ' H' q (k1.trans e)
variable {es:List Expr} {t:TA3}
theorem ta0:RA X [] nil3:=⟨_,zh3,λ σ H Q ρ μ Q3 s m h k=>k [] μ [] H h (Kp.refl H) .nil m⟩
theorem xa0 (ha:RE X e te) (hr:RA X es t) (hs:starEach (e :: es) X.env=[30] :: starEach es X.env:=by rfl):RA X (e :: es) (za0 te t):=by
 obtain ⟨va,pa,ra⟩:=ha;obtain ⟨vb,pb,rb⟩:=hr
 exact ⟨_,yt2 pa pb hs,λ σ H Q ρ μ Q3 s m h k=>ra σ H _ ρ μ _ s m h λ d μ1 v H1 h1 k1 r1 m1=>rb σ H1 _ ρ μ1 _ (s.mono k1) m1 h1 λ ds μ2 vs H2 h2 k2 r2 m2 =>
  k _ _ _ _ h2 (k1.trans k2) (.cons (r1.mono k2) r2) m2⟩
theorem ub0 {x1} (h:RA X es t):RE X (.Tuple es x1 pos) (tup3 t):=by
 obtain ⟨va,pa,ra⟩:=h;refine ⟨_,wg3 pa,λ σ H Q ρ μ Q3 s m h k=>ra σ H _ ρ μ _ s m h λ ds μ1 vs H1 h1 k1 r1 m1=>⟨by rw [<- r1.length]; exact h1.1,λ p hp=>?_⟩⟩;exact k _ _ _ _ h1.2 (k1.trans (Kp.new hp)) (.tup ve0 (r1.mono (Kp.new hp))) (m1.newT hp)
theorem zi0 (h:RA X es t):RE X (.List es pos) (lst3 t):=by
 obtain ⟨va,pa,ra⟩:=h;refine ⟨_,ug3 pa,λ σ H Q ρ μ Q3 s m h k=>ra σ H _ ρ μ _ s m h λ ds μ1 vs H1 h1 k1 r1 m1=>⟨by rw [<- r1.length]; exact h1.1,λ p hp=>?_⟩⟩;exact k _ _ _ _ (h1.2 p (m1.free hp)) (k1.trans (Kp.new hp)) (.ref p) (m1.newL hp r1)
variable {st:Stmt} {sts:List Stmt} {t3 u3:TS3}
theorem yf0:RSs X [] ti0:=⟨_,wr2,λ σ H D ρ μ D3 s m h k=>k.nx ρ μ σ H h (Kp.refl H) s m⟩
theorem zb0 (h:RS X st t3):RSs X [st] t3:=let ⟨t,p,r⟩:=h; ⟨t,zr2 p,r⟩
theorem xb0 (h1:RS X st t3) (h2:RSs X sts u3):RSs X (st :: sts) (seq3 t3 u3):=by
 obtain ⟨va,pa,ra⟩:=h1;obtain ⟨vb,pb,rb⟩:=h2;refine ⟨_,uc2 pa pb,λ σ H D ρ μ D3 s m h k=>ra σ H _ ρ μ _ s m h ⟨λ ρ1 μ1 σ1 H1 h1 k1 s1 m1=>rb σ1 H1 D ρ1 μ1 D3 s1 m1 h1 (k.after k1),k.bk,k.ct,k.rt⟩⟩
theorem wv0:RS X st yi1:=⟨_,sc2,λ σ H D ρ μ D3 s m h k=>h⟩
theorem wg0 (he:RE X e te) (hs:swapsWith e none pos.line X.env=pure false:=by rfl):RS X (.Expr e pos) (zk0 te):=by
 obtain ⟨va,pa,ra⟩:=he;exact ⟨_,ur2 pa hs,λ σ H D ρ μ D3 s m h k=>ra σ H _ ρ μ _ s m h λ d μ1 v H1 h1 k1 r1 m1=>k.nx ρ μ1 σ H1 h1 k1 (s.mono k1) m1⟩
theorem we0 (he:RE X e te):RS X (.Return (some e) pos) (ret3 te):=by
 obtain ⟨va,pa,ra⟩:=he;exact ⟨_,wf3 pa,λ σ H D ρ μ D3 s m h k=>ra σ H _ ρ μ _ s m h k.rt⟩
theorem uj0 {as bs:List Stmt} (hc:RT X c tA) (ha:RSs X as t3) (hb:RSs X bs u3):RS X (.If c as bs pos) (ifs3 tA t3 u3):=by
 obtain ⟨vc,pc,rc⟩:=hc;obtain ⟨va,pa,ra⟩:=ha;obtain ⟨vb,pb,rb⟩:=hb;refine ⟨_,uv3 pc pa pb,λ σ H D ρ μ D3 s m h k=>rc σ H _ ρ μ _ s m h λ c μ1 H1 h1 k1 m1=>?_⟩;cases c with
 | true=>exact ra σ H1 D ρ μ1 D3 (s.mono k1) m1 h1 (k.after k1)
 | false=>exact rb σ H1 D ρ μ1 D3 (s.mono k1) m1 h1 (k.after k1)
theorem xc0 {i:Nat} {x:Str} (hN:X.N.Nodup) (hi:X.N[i]?=some x:=by rfl) (hx:Loc X.env.scope x:=by first | exact Or.inl rfl | exact Or.inr rfl) (hf:X.fn x=true \/ X.env.scope.names.lookup x=some .local:=by first | exact .inl rfl | exact .inr rfl) :
    RG X (.Name x pos) (gn3 i):=⟨_,zs2 hN hi hx hf,λ v d σ H Q ρ μ Q3 s m r h k=>k _ _ _ _ h (Kp.refl H) (s.set i r) m⟩
theorem uv0:RGs X [] ua1:=⟨_,ys2,λ vs ds σ H Q ρ μ Q3 s m r h k=>by
 cases r with
 | nil=>exact ⟨rfl,k _ _ _ _ h (Kp.refl H) s m⟩
 | cons _ _=>exact False.elim h⟩
theorem wf0 {g:TG3} {gs:TGs3} (h1:RG X e g) (h2:RGs X es gs) (hs:(assignEach (e :: es) X.env).map (·.2)=assign e X.env :: (assignEach es X.env).map (·.2):=by rfl):RGs X (e :: es) (zf0 g gs):=by
 obtain ⟨va,pa,ra⟩:=h1;obtain ⟨vb,pb,rb⟩:=h2;refine ⟨_,yd2 pa pb hs,λ vs ds σ H Q ρ μ Q3 s m r h k=>?_⟩;cases r with
 | nil=>exact False.elim h
 | cons r1 r2=>exact ⟨_,_,rfl,ra _ _ σ H _ ρ μ _ s m r1 h λ ρ1 μ1 σ1 H1 h1 k1 s1 m1=>rb _ _ σ1 H1 Q ρ1 μ1 Q3 s1 m1 (r2.mono k1) h1 λ ρ' μ' σ' H' q e=>k ρ' μ' σ' H' q (k1.trans e)⟩
theorem yh1 {kk:Nat} {gs:TGs3} {n:Nat} (hc:X.calm=true) (h:RGs X es gs) (hn:(assignEach es X.env).length=n:=by rfl) (hst:(assignEach es X.env).findIdx? (·.1)=none:=by rfl):RG X (.Tuple es kk pos) (ya1 n gs):=by
 obtain ⟨va,pa,ra⟩:=h;refine ⟨_,yg3 hc pa hn hst,λ v d σ H Q ρ μ Q3 s m r h k=>?_⟩;cases r with
 | tup hq rs =>
  obtain ⟨hl,h⟩:=h;exact ⟨_,_,rfl,(SqT.of hq),by rw [<- rs.length]; exact hl,ra _ _ σ H Q ρ μ Q3 s m rs h k⟩
 | _=>exact False.elim h
theorem uc0 {i:Nat} {x:Str} {pos':Pos} (hN:X.N.Nodup) (he:RE X e te) (hi:X.N[i]?=some x:=by rfl) (hx:Loc X.env.scope x:=by first | exact Or.inl rfl | exact Or.inr rfl) (hs:swapsWith e (some (.Name x pos')) pos.line X.env=pure false:=by rfl)
    (hf:X.fn x=true \/ X.env.scope.names.lookup x=some .local:=by first | exact .inl rfl | exact .inr rfl):RS X (.Assign [.Name x pos'] e pos) (set3 i te):=by
 obtain ⟨va,pa,ra⟩:=he;exact ⟨_,xq1 hN hi hx pa hs hf,λ σ H D ρ μ D3 s m h k=>ra σ H _ ρ μ _ s m h λ d μ1 v H1 h1 k1 r1 m1=>k.nx _ _ _ _ h1 k1 ((s.mono k1).set i r1) m1⟩
theorem yp1 {tg:Expr} {g:TG3} (he:RE X e te) (hg:RG X tg g) (hs:swapsWithSole [tg] e pos.line X.env=pure false:=by rfl) (hw:swappedStores [tg] e X.env=pure none:=by rfl)
    (h1:(assignEach [tg] X.env).map (·.2)=[assign tg X.env]:=by rfl):RS X (.Assign [tg] e pos) (asg3 te g):=by
 obtain ⟨va,pa,ra⟩:=he;obtain ⟨vg,pg,rg⟩:=hg;exact ⟨_,uf3 pa pg hs hw h1,λ σ H D ρ μ D3 s m h k=>ra σ H _ ρ μ _ s m h λ d μ1 v H1 h1 k1 r1 m1=>rg v d σ H1 _ ρ μ1 _ (s.mono k1) m1 r1 h1 λ ρ' μ' σ' H' q e=>k.nx ρ' μ' σ' H' q (k1.trans e)⟩
theorem sk3 (n:Nat) (i:Int):L2.ixN n i=ixN n i:=rfl
theorem zp1 {o i:Expr} {to ti:TE3} (ho:RE X o to) (hi:RE X i ti)
    (ha:∀ v,assign (.Subscript o i pos) X.env v=(do
     let ov <- holding [v] (eval o X.env)
     let iv <- holding [v,ov] (eval i X.env)
     standAt pos
     holding [v,ov,iv] (setItem ov iv v)
     release [v,ov,iv] []):=by intro _; rfl):RG X (.Subscript o i pos) (sub3 to ti):=by
 obtain ⟨va,pa,ra⟩:=ho;obtain ⟨vb,pb,rb⟩:=hi;refine ⟨_,zg3 pa pb yn0 ha,λ v d σ H Q ρ μ Q3 s m r h k=>ra σ H _ ρ μ _ s m h λ o' μ1 ov H1 h1 k1 r1 m1=>rb σ H1 _ ρ μ1 _ (s.mono k1) m1 h1 λ i' μ2 iv H2 h2 k2 r2 m2=>?_⟩;cases r1 with
 | ref p =>
  cases r2 with
  | int kk =>
   dsimp only at h2;cases e:μ2 p with
   | none=>rw [e] at h2; exact h2.elim
   | some oo =>
    cases oo with
    | ins _ _=>rw [e] at h2; exact h2.elim
    | dcp _=>rw [e] at h2; exact h2.elim
    | dcl _=>rw [e] at h2; exact h2.elim
    | lst xs =>
     rw [e] at h2;dsimp only at h2;cases e2:ixN xs.length kk with
     | none=>rw [e2] at h2; exact h2.elim
     | some j =>
      rw [e2] at h2;obtain ⟨vs,hv,rv⟩:=m2 p xs e;have kk':=k1.trans k2;refine ⟨p,vs,kk,j,rfl,rfl,hv,by rw [<- rv.length]; exact e2,k _ _ _ _ h2 (kk'.trans (Kp.wr hv)) (s.mono (kk'.trans (Kp.wr hv))) (m2.wr hv (rv.set (r.mono kk') j))⟩
  | _=>exact False.elim h2
 | _=>cases r2 <;> exact False.elim h2
end
end Pv
namespace Pv
open PySem PySem.Spec PyProof.Rows L2
def ItOk (K:Fg) (J:It) (l:List D) (S:Mu->Prop) (H0:Hp):Prop:=∀ i H μ,Kp H0 H->RelM K μ H->S μ ->
 (∀ d,l[i]?=some d->J.go i H /\ ∀ x H2,J.yld i H x H2->Kp H H2 /\ RelM K μ H2 /\ RelD K H2 d x) /\ (l.length<=i->J.stop i H)
def RdI (K:Fg) (wi:TI) (ti:TI3):Prop:=∀ σ H R ρ μ R3,RSt K H ρ σ->RelM K μ H->ti ρ μ R3->(∀ l S μ' J H',R3 l S μ'->Kp H H'->RelM K μ' H'->ItOk K J l S H'->R J H')->wi σ H R
def RI (X:Cx) (tg iter:Expr) (ti:TI3):Prop:=∃ wi,PI X tg iter wi /\ RdI X.K wi ti
section
variable {X:Cx} {tg iter a b c e:Expr} {ta tb te:TE3} {pos:Pos}
def Its (z:Str):It:=⟨λ i _=>i < z.cps.size,λ i H x H'=>H'=H /\ ∃ c,z.cps[i]?=some c /\ x=.str ⟨#[c]⟩,λ i _=>z.cps.size<=i⟩
theorem sf1 {P:Program} {w:World} {K:Fg} {tg:Expr} (T:String) (x:Str) (t:Tok) (it:Addr)
    (hT:["enumerate", "zip", "dict_itemiterator", "dict_reverseitemiterator", "odict_iterator", "itertools.zip_longest", "itertools.pairwise"].contains T=false)
    (W:∀ A:Around,A.handled=none->Walks P w A it [it] [it] x.cps.size (SignAt x) (λ i h=>h.IsStrIter it T x t i))
    (sf:∀ (A:Around) (i:Nat) (s:Shared) (Q:[2]) (E:[2]),s.heap.IsStrIter it T x t i->Q (.ref it) s->wpAny (model P w) A (pyIter (.ref it)) Q E s) :
    Turn P w K tg (Its x) [it] it (λ i h=>h.IsStrIter it T x t i /\ i<=x.cps.size) where
 mem:=by simp
 obj:=λ i h st b hb=>by
  have e:b=it:=by simpa using hb
  subst e;obtain ⟨⟨o,e,c,d⟩,_⟩:=st;exact ⟨o,e,λ v z=>by rw [d] at z; cases z⟩
 keep:=λ i h h' st k=>by
  obtain ⟨⟨o,e,c,d⟩,l⟩:=st;exact ⟨⟨o,k it [24] o e,c,d⟩,l⟩
 item:=by
  intro X hP hw hK hc i pins s σ H E I hf st hg;subst hP hw hK;obtain ⟨f0,f1,f2,f3,f4,f5⟩:=hf it [24];refine (W X.A (I.ok.hd hc)).item i s _ E hg st.1 λ v h' tk hP hst' hk=>?_;obtain ⟨c,u,ec,rfl⟩:=hP;have I1:Inv X pins σ H [32]:=I.turned (t':=tk) (λ b o hb e=>hk b o (by simpa using hb) e) f0 f1 f3 f4 f5;obtain ⟨o,e,c1,d⟩:=id hst';exact ⟨_,rfl,yv1 (s:=[32]) e c1 d hT ⟨.str ⟨#[c]⟩,H,I1,⟨u,rfl⟩,⟨rfl,c,ec,rfl⟩,⟨hst',hg⟩,λ b hb=>(hf b hb).1⟩⟩
 done:=by
  intro X hP hw hK hc i pins s σ H E I hf st hg;subst hP hw hK;have hg':x.cps.size<=i:=hg;obtain ⟨f0,f1,f2,f3,f4,f5⟩:=hf it [24];have e1:i=x.cps.size:=Nat.le_antisymm st.2 hg';subst e1;exact (W X.A (I.ok.hd hc)).done s _ E st.1 λ h' tk hk=>⟨rfl,I.turned (t':=tk) (λ b o hb e=>hk b o (by simpa using hb) e) f0 f1 f3 f4 f5⟩
 self:=λ A i s Q E st h=>sf A i s Q E st.1 h
def iSeq (K:Fg) (tl:TE):TI:=λ σ H R=>tl σ H λ x H1=>(∃ z,x=.str z /\ R (Its z) H1) \/ ∃ a,x=.ref a /\ (((∃ xs,SqL K H1 a xs) /\ R (Itl K a) H1) \/ ((∃ xs,SqT K H1 a xs) /\ R (Itt K a) H1))
theorem xg3 {l:Expr} {tl:TE} (hl:PE X l tl):PI X tg l (iSeq X.K tl):=by
 intro pins s σ H R I h;refine thn (hl pins s σ H _ I h) λ v s1 ⟨x,H1,I1,r1,q1⟩=>?_
 have fp:∀ b ∈ [s1.heap.objs.size],FpOk X pins H1 b:=λ b hb=>by
  have e:b=s1.heap.objs.size:=by simpa using hb
  subst e;exact I1.fpOk [18] (I1.hok.fresh [18])
 rcases q1 with ⟨z,e,q⟩ | ⟨a,e,q⟩
 ·subst e;obtain ⟨t,rfl⟩:=r1;cases ha:z.cps.all (· < 128)
  ·refine wpAny_pyIter_wide ha ?_;exact ⟨s1.heap.objs.size,[s1.heap.objs.size],_,_,H1,rfl,I1.kept (t':=s1.toks) λ b o e=>Heap.get?_push_of_some _ e,sf1 "str_iterator" z t _ [20] (λ A hA=>Walks.strWide hA _ z t) (λ _ _ _ _ _ st h=>wpAny_pyIter_striter_wide st h),⟨⟨_,Heap.get?_push_size _ rfl,rfl,rfl⟩,Nat.zero_le _⟩,fp,q⟩
  ·refine wpAny_pyIter_ascii ha ?_;exact ⟨s1.heap.objs.size,[s1.heap.objs.size],_,_,H1,rfl,I1.kept (t':=s1.toks) λ b o e=>Heap.get?_push_of_some _ e,sf1 "str_ascii_iterator" z t _ [20] (λ A hA=>Walks.strAscii hA _ z t) (λ _ _ _ _ _ st h=>wpAny_pyIter_striter_ascii st h),⟨⟨_,Heap.get?_push_size _ rfl,rfl,rfl⟩,Nat.zero_le _⟩,fp,q⟩
 subst e;cases r1;rcases q with ⟨⟨xs,hq⟩,q⟩ | ⟨⟨xs,hq⟩,q⟩
 ·obtain ⟨its,rv,p,hz⟩:=I1.list hq;refine wpAny_pyIter_list p.isList ?_;exact ⟨s1.heap.objs.size,[s1.heap.objs.size],_,_,H1,rfl,I1.kept (t':=s1.toks) λ b o e=>Heap.get?_push_of_some _ e,vn1 a _,⟨_,Heap.get?_push_size _ rfl,rfl,rfl⟩,fp,q⟩
 ·obtain ⟨its,rv,p,hz⟩:=I1.tuple hq;refine wpAny_pyIter_tuple (show s1.heap.IsTuple a its.toArray from p) ?_;exact ⟨s1.heap.objs.size,[s1.heap.objs.size],_,_,H1,rfl,I1.kept (t':=s1.toks) λ b o e=>Heap.get?_push_of_some _ e,vk1 a _,⟨_,Heap.get?_push_size _ rfl,rfl,rfl⟩,fp,q⟩
theorem ue2 {K:Fg} {H0:Hp} {a:Addr} {l:List D} {vs:List V} (h:SqT K H0 a vs) (r:RelDs K H0 l vs):ItOk K (Itt K a) l (λ _=>True) H0:=λ i H μ k m _=>by
 refine ⟨λ d e=>?_,λ hl=>⟨vs,SqT.mono k h,by rw [<- r.length]; exact hl⟩⟩;obtain ⟨v,e1,r1⟩:=r.get e;refine ⟨⟨vs,v,SqT.mono k h,e1⟩,λ x H2 y=>?_⟩;obtain ⟨rfl,y⟩:=y;have e2:=y vs (SqT.mono k h);rw [e1] at e2; cases e2;exact ⟨Kp.refl _,m,r1.mono k⟩
theorem xf2 {K:Fg} {H0:Hp} {a:Addr} {l:List D} {vs:List V} (h:SqF K H0 a vs) (r:RelDs K H0 l vs):ItOk K (Itl K a) l (λ _=>True) H0:=λ i H μ k m _=>by
 refine ⟨λ d e=>?_,λ hl=>⟨vs,(SqF.mono k h).l,by rw [<- r.length]; exact hl⟩⟩;obtain ⟨v,e1,r1⟩:=r.get e;refine ⟨⟨vs,v,(SqF.mono k h).l,e1⟩,λ x H2 y=>?_⟩;obtain ⟨rfl,y⟩:=y;have e2:=y vs (SqF.mono k h).l;rw [e1] at e2; cases e2;exact ⟨Kp.refl _,m,r1.mono k⟩
theorem se2 {K:Fg} {H0:Hp} {a:Addr} {l:List D}:ItOk K (Itl K a) l (λ μ=>μ a=some (.lst l)) H0:=λ i H μ k m s=>by
 obtain ⟨vs,h,r⟩:=m a l s;refine ⟨λ d e=>?_,λ hl=>⟨vs,SqL.of h,by rw [<- r.length]; exact hl⟩⟩;obtain ⟨v,e1,r1⟩:=r.get e;refine ⟨⟨vs,v,SqL.of h,e1⟩,λ x H2 y=>?_⟩;obtain ⟨rfl,y⟩:=y;have e2:=y vs (SqL.of h);rw [e1] at e2; cases e2;exact ⟨Kp.refl _,m,r1⟩
theorem te2 {K:Fg} {H0:Hp} (z:Str):ItOk K (Its z) (z.cps.toList.map λ c=>D.str ⟨#[c]⟩) (λ _=>True) H0:=λ i H μ k m _=>by
 refine ⟨λ d e=>?_,λ hl=>by show z.cps.size<=i; simpa using hl⟩;rw [getElem?_map,getElem?_toList] at e;cases ec:z.cps[i]? with
 | none=>rw [ec] at e; cases e
 | some c =>
  rw [ec] at e;cases e;refine ⟨?_,λ x H2 y=>?_⟩
  ·show i < z.cps.size;rcases Nat.lt_or_ge i z.cps.size with h | h
   ·exact h
   ·rw [getElem?_eq_none h] at ec; cases ec
  ·obtain ⟨rfl,c',ec',rfl⟩:=y;rw [ec] at ec'; cases ec';exact ⟨Kp.refl _,m,.str _⟩
theorem se0 (ha:RE X a ta):RI X tg a (is3 ta):=by
 obtain ⟨va,pa,ra⟩:=ha;refine ⟨_,xg3 pa,λ σ H R ρ μ R3 s m h k=>ra σ H _ ρ μ _ s m h λ d μ1 v H1 h1 k1 r1 m1=>?_⟩;cases r1 with
 | str z=>exact .inl ⟨z,rfl,k _ _ _ _ _ h1 k1 m1 (te2 z)⟩
 | tup hq rs=>exact .inr ⟨_,rfl,.inr ⟨⟨_,(SqT.of hq)⟩,k _ _ _ _ _ h1 k1 m1 (ue2 (SqT.of hq) rs)⟩⟩
 | fls hq rs=>exact .inr ⟨_,rfl,.inl ⟨⟨_,hq.l⟩,k _ _ _ _ _ h1 k1 m1 (xf2 hq rs)⟩⟩
 | ref p =>
  dsimp only at h1;cases e:μ1 p with
  | none=>rw [e] at h1; exact h1.elim
  | some oo =>
   cases oo with
   | ins _ _=>rw [e] at h1; exact h1.elim
   | dcp _=>rw [e] at h1; exact h1.elim
   | dcl _=>rw [e] at h1; exact h1.elim
   | lst xs =>
    rw [e] at h1;obtain ⟨vs,hv,rv⟩:=m1 p xs e;exact .inr ⟨_,rfl,.inl ⟨⟨_,SqL.of hv⟩,k _ _ _ _ _ h1 k1 m1 se2⟩⟩
 | _=>exact False.elim h1
theorem yc2 (lo:Int) (n i:Nat):(rngD lo n)[i]?=if i < n then some (.int (lo + i)) else none:=by
 unfold rngD;rw [getElem?_map];by_cases h:i < n
 ·rw [List.getElem?_range h,if_pos h]; rfl
 ·rw [List.getElem?_eq_none (by simpa using h),if_neg h]; rfl
theorem xc2 (lo:Int) (n:Nat):(rngD lo n).length=n:=by simp [rngD]
theorem vi1 {K:Fg} {H0:Hp} (lo:Int) (n:Nat):ItOk K (Itr lo n) (rngD lo n) (λ _=>True) H0:=λ i H μ k m _=>by
 refine ⟨λ d e=>?_,λ hl=>by rw [xc2] at hl; exact hl⟩;rw [yc2] at e;split at e
 ·next h =>
  cases e;refine ⟨h,λ x H2 y=>?_⟩;obtain ⟨rfl,rfl⟩:=y;exact ⟨Kp.refl _,m,.int _⟩
 ·cases e
theorem yy0 {p:Pos} (hm:X.mg "range" = none) (ha:RE X a ta) (hg:Gl X "range" := by rfl) (hs:starEach [a] X.env=[(false,eval a X.env)]:=by rfl):RI X tg (.Call (.Name "range" p) [a] [] pos) (ir3 (za0 ta nil3)):=by
 obtain ⟨va,pa,ra⟩:=xa0 ha ta0 hs;refine ⟨_,tq1 hg hm pa hs,λ σ H R ρ μ R3 s m h k=>ra σ H _ ρ μ _ s m h λ ds μ1 vs H1 h1 k1 r1 m1=>?_⟩;cases r1 with
 | nil=>exact False.elim h1
 | cons r1 r2 =>
  cases r2 with
  | cons _ _=>cases r1 <;> exact False.elim h1
  | nil =>
   cases r1 with
   | int j=>exact ⟨j,rfl,h1.1.1,h1.1.2,k _ _ _ _ _ h1.2 k1 m1 (vi1 _ _)⟩
   | _=>exact False.elim h1
theorem yp0 {p:Pos} (hm:X.mg "range" = none) (ha:RE X a ta) (hb:RE X b tb) (hg:Gl X "range" := by rfl) (hs:starEach [a,b] X.env=[(false,eval a X.env),(false,eval b X.env)]:=by rfl) (hs2:starEach [b] X.env=[(false,eval b X.env)]:=by rfl) :
    RI X tg (.Call (.Name "range" p) [a,b] [] pos) (ir23 (za0 ta (za0 tb nil3))):=by
 obtain ⟨va,pa,ra⟩:=xa0 ha (xa0 hb ta0 hs2) (by rw [hs,hs2]);refine ⟨_,uq1 hg hm pa hs hs2,λ σ H R ρ μ R3 s m h k=>ra σ H _ ρ μ _ s m h λ ds μ1 vs H1 h1 k1 r1 m1=>?_⟩;split at h1
 ·next i j =>
  cases r1 with
  | cons r1 r2 =>
   cases r2 with
   | cons r2 r3 =>
    cases r3;cases r1;cases r2;exact ⟨i,j,rfl,h1.1,k _ _ _ _ _ h1.2 k1 m1 (vi1 _ _)⟩
 ·exact h1.elim
theorem zg0 {body:List Stmt} {ti:TI3} {g:TG3} {tb:TS3} (hp:PassesOwn [8] X.A X.env X.xe) (hc:X.calm=true) (hi:RI X tg iter ti) (hg:RG X tg g) (hb:RSs X body tb)
    (hs:∀ x,foldedSetIterable iter X.env x=pure x:=by intro _; rfl):RS X (.For tg iter body [] pos) (for3 ti g tb):=by
 obtain ⟨wi,pi,ri⟩:=hi;obtain ⟨vg,pg,rg⟩:=hg;obtain ⟨vb,pb,rb⟩:=hb;refine ⟨_,vf3 hp hc pi pg pb hs,λ σ H D ρ μ D3 s m h k=>ri σ H _ ρ μ _ s m h λ l S μ1 J H1 h1 k1 m1 ok=>?_⟩;refine ⟨λ i n σ2 H2=>n=l.length - i /\ i<=l.length /\ ∃ ρ2 μ2,RSt X.K H2 ρ2 σ2 /\ RelM X.K μ2 H2 /\ Kp H1 H2 /\ se1 S g tb D3 (l.drop i) ρ2 μ2,⟨l.length,rfl,Nat.zero_le _,ρ,μ1,s.mono k1,m1,Kp.refl _,h1⟩,?_⟩;rintro i n σ2 H2 ⟨rfl,hi,ρ2,μ2,s2,m2,k2,h2⟩;by_cases hlt:i < l.length
 ·rw [List.drop_eq_getElem_cons hlt] at h2;obtain ⟨hS,N,hN,h2⟩:=h2;obtain ⟨ok1,_⟩:=ok i H2 μ2 k2 m2 hS;obtain ⟨go,yl⟩:=ok1 l[i] (getElem?_eq_getElem hlt);refine .inr ⟨go,λ σ3 H3=>∃ ρ3 μ3,N ρ3 μ3 /\ RSt X.K H3 ρ3 σ3 /\ RelM X.K μ3 H3 /\ Kp H1 H3,λ σ3 H3 ⟨ρ3,μ3,hn,s3,m3,k3⟩=>⟨l.length - (i + 1),by omega,rfl,hlt,ρ3,μ3,s3,m3,k3,hN _ _ hn⟩,λ x H3 y=>?_⟩;obtain ⟨k3,m3,r3⟩:=yl x H3 y;refine rg x l[i] σ2 H3 _ ρ2 μ2 _ (s2.mono k3) m3 r3 h2 λ ρ4 μ4 σ4 H4 h4 k4 s4 m4=>?_;have k14:Kp H1 H4:=k2.trans (k3.trans k4)
  exact rb σ4 H4 _ ρ4 μ4 _ s4 m4 h4 ⟨λ ρ5 μ5 σ5 H5 h5 k5 s5 m5=>⟨ρ5,μ5,h5,s5,m5,k14.trans k5⟩,λ ρ5 μ5 σ5 H5 h5 k5 s5 m5=>k.nx _ _ _ _ h5 (k1.trans (k14.trans k5)) s5 m5,
   λ ρ5 μ5 σ5 H5 h5 k5 s5 m5=>⟨ρ5,μ5,h5,s5,m5,k14.trans k5⟩,λ d μ5 v H5 h5 k5 r5 m5=>k.rt _ _ _ _ h5 (k1.trans (k14.trans k5)) r5 m5⟩
 ·have e:i=l.length:=by omega
  subst e;rw [List.drop_length] at h2;obtain ⟨hS,h2⟩:=h2;exact .inl ⟨(ok _ H2 μ2 k2 m2 hS).2 [18],k.nx _ _ _ _ h2 (k1.trans k2) s2 m2⟩
theorem ub2 {body:List Stmt} {tc:TT3} {tb:TS3} (hp:PassesOwn [8] X.A X.env X.xe) (hc:RT X c tc) (hb:RSs X body tb):RS X (.While c body [] pos) (th2 tc tb):=by
 obtain ⟨vc,pc,rc⟩:=hc;obtain ⟨vb,pb,rb⟩:=hb;refine ⟨_,tc2 hp pc pb,λ σ H D ρ μ D3 s m h k=>?_⟩;obtain ⟨W,⟨n0,w0⟩,turn⟩:=h;refine ⟨λ n σ2 H2=>∃ ρ2 μ2,W n ρ2 μ2 /\ RSt X.K H2 ρ2 σ2 /\ RelM X.K μ2 H2 /\ Kp H H2,⟨n0,ρ,μ,w0,s,m,Kp.refl _⟩,?_⟩;rintro n σ2 H2 ⟨ρ2,μ2,w2,s2,m2,k2⟩;refine rc σ2 H2 _ ρ2 μ2 _ s2 m2 (turn n ρ2 μ2 w2) λ b μ3 H3 h3 k3 m3=>?_;cases b with
 | true =>
  obtain ⟨N,hN,h3⟩:=h3;have k23:=k2.trans k3;refine ⟨λ σ4 H4=>∃ ρ4 μ4,N ρ4 μ4 /\ RSt X.K H4 ρ4 σ4 /\ RelM X.K μ4 H4 /\ Kp H H4,λ σ4 H4 ⟨ρ4,μ4,hn,s4,m4,k4⟩=>?_,?_⟩
  ·obtain ⟨n',hl,w4⟩:=hN _ _ hn;exact ⟨n',hl,ρ4,μ4,w4,s4,m4,k4⟩
  ·exact rb σ2 H3 _ ρ2 μ3 _ (s2.mono k3) m3 h3 ⟨λ ρ5 μ5 σ5 H5 h5 k5 s5 m5=>⟨ρ5,μ5,h5,s5,m5,k23.trans k5⟩,λ ρ5 μ5 σ5 H5 h5 k5 s5 m5=>k.nx _ _ _ _ h5 (k23.trans k5) s5 m5,
     λ ρ5 μ5 σ5 H5 h5 k5 s5 m5=>⟨ρ5,μ5,h5,s5,m5,k23.trans k5⟩,λ d μ5 v H5 h5 k5 r5 m5=>k.rt _ _ _ _ h5 (k23.trans k5) r5 m5⟩
 | false=>exact k.nx _ _ _ _ h3 (k2.trans k3) (s2.mono k3) m3
def lift (K:Fg) (sp:Sp3):Sp:=λ vs H Q _=>∃ ds μ Q3,RelDs K H ds vs /\ RelM K μ H /\ sp ds μ Q3 /\ Ks K H Q3 Q
def Cal (P:Program) (w:World) (K:Fg) (mg:Str->Option Value) (base:Heap) (k:Nat) (x:Str) (ps:List Str) (sp:Sp3):Prop :=
 ∃ f fd,FnOk P w K mg base CX0 k f fd ps (lift K sp) /\ mg x=some (.ref f) /\ keepIn K (.ref f)=true /\ Binds K fd ps []
theorem Cal.mono {P:Program} {w:World} {K:Fg} {mg:Str->Option Value} {base:Heap} {j k:Nat} {x:Str} {ps:List Str} {sp:Sp3} (c:Cal P w K mg base j x ps sp) (h:j<=k):Cal P w K mg base k x ps sp:=by
 obtain ⟨f,fd,F,r⟩:=c;exact ⟨f,fd,F.mono h,r⟩
variable {es:List Expr} {t:TA3} {x:Str} {p:Pos}
theorem sc0 {k:Nat} {ps:List Str} {sp:Sp3} (c:Cal X.prog X.w X.K X.mg X.base k x ps sp) (hr:Room k X.A) (ha:RA X (e :: es) t) (hg:Gl X x:=by rfl) (hdb:(x == ("__debug__" : Str))=false:=by decide)
    (he:starEach (e :: es) X.env=[30] :: starEach es X.env:=by rfl) (hpl:(backTo pos (starEach es X.env)).any (·.1)=false:=by rfl):RE X (.Call (.Name x p) (e :: es) [] pos) (vc0 sp t):=by
 obtain ⟨f,fd,F,hm,hk,hb⟩:=c;obtain ⟨va,pa,ra⟩:=ha;refine ⟨_,ss2 F hr hg hm hk hb .nil zw3 pa hdb he hpl,λ σ H Q ρ μ Q3 s m h k=>ra σ H _ ρ μ _ s m h λ ds μ1 vs H1 h1 k1 r1 m1=>?_⟩;rw [append_nil];exact ⟨ds,μ1,Q3,r1,m1,h1,k.after k1⟩
theorem wd0 {r:C3} {id:String} (hc:RC X (.builtin id) r) (hm:X.mg x=none) (hv:bootBuiltins x=some (.builtin id)) (ha:RA X (e :: es) t) (hg:Gl X x:=by rfl) (hn:x ≠ "__name__" := by decide) (hdb:(x == ("__debug__" : Str))=false:=by decide)
    (he:starEach (e :: es) X.env=[30] :: starEach es X.env:=by rfl) (hpl:(backTo pos (starEach es X.env)).any (·.1)=false:=by rfl):RE X (.Call (.Name x p) (e :: es) [] pos) (vc0 r t):=by
 obtain ⟨r',pc,rc⟩:=hc;obtain ⟨va,pa,ra⟩:=ha;exact ⟨_,vd2 pc hg hm hv pa hn hdb he hpl,λ σ H Q ρ μ Q3 s m h k=>ra σ H _ ρ μ _ s m h λ ds μ1 vs H1 h1 k1 r1 m1=>rc ds vs H1 Q μ1 Q3 m1 r1 h1 (k.after k1)⟩
theorem wp0 {r:C3} {T:String} (hc:RC X (.type T) r) (hm:X.mg x=none) (hv:bootBuiltins x=some (.type T)) (ha:RA X (e :: es) t) (hg:Gl X x:=by rfl) (hn:x ≠ "__name__" := by decide) (hdb:(x == ("__debug__" : Str))=false:=by decide)
    (he:starEach (e :: es) X.env=[30] :: starEach es X.env:=by rfl) (hpl:(backTo pos (starEach es X.env)).any (·.1)=false:=by rfl):RE X (.Call (.Name x p) (e :: es) [] pos) (vc0 r t):=by
 obtain ⟨r',pc,rc⟩:=hc;obtain ⟨va,pa,ra⟩:=ha;exact ⟨_,yr1 pc hg hm hv pa hn hdb he hpl,λ σ H Q ρ μ Q3 s m h k=>ra σ H _ ρ μ _ s m h λ ds μ1 vs H1 h1 k1 r1 m1=>rc ds vs H1 Q μ1 Q3 m1 r1 h1 (k.after k1)⟩
theorem vd0 {r3:R3} (hx:RX X r3) (ha:RE X a ta) (hb:RE X b tb) (hs:sz1 b:=by intro _ _; rfl):RE X (.Subscript a b pos) (o3 r3 ta tb):=by
 obtain ⟨r,po,ro⟩:=hx;obtain ⟨va,pa,ra⟩:=ha;obtain ⟨vb,pb,rb⟩:=hb;exact ⟨_,sv3 po pa pb hs,ra.op rb ro⟩
end
section
variable {P:Program} {w:World} {K:Fg} {mg:Str->Option Value} {base:Heap}
theorem xw1 {x:Str} {st:Stmt} {f:Addr} {fd:FuncData} {N ps:List Str} {k:Nat} {sp:Sp3} {t:TS3} (F:Fun K x x st f fd) (S:FnScope N ps (sa0 st))
    (len:∀ ds μ Q,sp ds μ Q->ds.length=ps.length)
    (body:∀ (cdv:Value) (A:Around) (outer:List Env) (s:Shared) (H:Hp) (E:XK),Room k (A.deeper (envOfC x (sa0 st) s.heap.objs.size f cdv))->RSs (cxOf CX0 P w K mg base N x (sa0 st) f cdv A outer s H E).nox (wc0 st) t)
    (rd:∀ ds μ Q,sp ds μ Q->t { nx:=λ _ μ'=>Q .non μ',rt:=Q } (ye0 N ds) μ):FnOk P w K mg base CX0 (k + 1) f fd ps (lift K sp):=by
 refine F.ok S (λ vs H Q E h=>?_) (λ cdv A outer s H vs Q E hr h=>?_)
 ·obtain ⟨ds,μ,Q3,r,m,q,ks⟩:=h;rw [<- r.length]; exact len _ _ _ q
 ·obtain ⟨ds,μ,Q3,r,m,q,ks⟩:=h;obtain ⟨tv,p,rt⟩:=body cdv A outer s H E hr;exact ⟨tv,p,rt _ H _ _ μ _ (RSt.start N r) m (rd ds μ Q3 q) ⟨λ ρ μ' σ H' h' k' s' m'=>ks _ _ _ _ h' k' .non m',λ ρ μ' σ H' h'=>False.elim h',λ ρ μ' σ H' h'=>False.elim h',ks⟩⟩
theorem ug0 {x:Str} {st:Stmt} {f:Addr} {fd:FuncData} {N ps:List Str} {k:Nat} {sp:Sp3} {t:TS3} (F:Fun K x x st f fd) (hm:mg x=some (.ref f)) (hb:Binds K fd ps []) (S:FnScope N ps (sa0 st))
    (len:∀ ds μ Q,sp ds μ Q->ds.length=ps.length)
    (body:∀ (cdv:Value) (A:Around) (outer:List Env) (s:Shared) (H:Hp) (E:XK),Room k (A.deeper (envOfC x (sa0 st) s.heap.objs.size f cdv))->RSs (cxOf CX0 P w K mg base N x (sa0 st) f cdv A outer s H E).nox (wc0 st) t)
    (rd:∀ ds μ Q,sp ds μ Q->t { nx:=λ _ μ'=>Q .non μ',rt:=Q } (ye0 N ds) μ):Cal P w K mg base (k + 1) x ps sp :=
 ⟨f,fd,xw1 F S len body rd,hm,F.kp,hb⟩
end
section
variable {X:Cx}
theorem RdO.i0 {K:Fg} {g3:Int->Int->D} {g:Int->Int->V} (hg:∀ i j H,RelD K H (g3 i j) (g i j)):RdO K (rI0 g) (yu1 g3):=λ x y v u H Q μ Q3 m rx ry h k=>by
 cases rx with
 | int i =>
  cases ry with
  | int j=>exact ⟨i,j,rfl,rfl,k _ _ _ _ h (Kp.refl _) (hg i j H) m⟩
  | _=>exact False.elim h
 | _=>cases ry <;> exact False.elim h
theorem RdO.i2 {K:Fg} {C:Int->Int->Prop} {g3:Int->Int->D} {g:Int->Int->V} (hg:∀ i j H,RelD K H (g3 i j) (g i j)):RdO K (rI C g) (int2 C g3):=λ x y v u H Q μ Q3 m rx ry h k=>by
 cases rx with
 | int i =>
  cases ry with
  | int j=>exact ⟨i,j,rfl,rfl,h.1,k _ _ _ _ h.2 (Kp.refl _) (hg i j H) m⟩
  | _=>exact False.elim h
 | _=>cases ry <;> exact False.elim h
theorem ui0:RO X (binaryOp .Sub) subR:=⟨_,vh3,RdO.i0 λ _ _ _=>.int _⟩
theorem zd1:RO X (binaryOp .Mod) modR:=⟨_,xi3,RdO.i2 λ _ _ _=>.int _⟩
theorem ze3:RO X (binaryOp .Pow) powR:=⟨_,th3,RdO.i2 λ _ _ _=>.int _⟩
theorem log2_lt {n k:Nat} (hk:0 < k) (h:n < 2 ^ k):n.log2 < k:=by
 rcases Nat.eq_zero_or_pos n with h0 | hp
 ·rw [h0]; simpa using hk
 ·exact (Nat.log2_lt (Nat.ne_of_gt hp)).mpr h
theorem ud2:OpR X (binaryOp .FloorDiv) (rI (λ _ j=>0 < j /\ j < 2 ^ 120) λ i j=>.int (i / j)):=opI λ i j _ _ _ _ _ hc q=>by
 have h1:(0:Int) < j:=hc.1;have h2:j < 2 ^ 120:=hc.2;refine floordiv_int [1] (by rw [Int.fdiv_eq_ediv_of_nonneg i [1]]; exact q) (.inl (PyProof.noPylong_of_log2 ?_));have h3:j.natAbs < 2 ^ 120:=by omega
 exact Nat.lt_trans (log2_lt [20] h3) [20]
theorem sp1:RO X (binaryOp .FloorDiv) ww1:=⟨_,ud2,RdO.i2 λ _ _ _=>.int _⟩
theorem CMul.mulok {i j:Int} (h:CMul i j):IntMulOk i j:=by
 rcases h with h | ⟨h1,h2⟩
 ·exact L2.CMul.ok h
 ·unfold IntMulOk;intro e;rw [Bool.and_eq_true] at e;have e2:=e.2;unfold Builtin.Int.intTooBig at e2
  have hb:∀ x:Int,x.natAbs < Big->Builtin.Int.intBits x<=1000:=λ x hx=>by
   unfold Builtin.Int.intBits;split
   ·exact Nat.zero_le _
   ·exact log2_lt [20] hx
  have b1:=hb i h1;have b2:=hb j h2;have e3:=of_decide_eq_true e2;have e4:(2000:Nat) < bitsLine:=by decide
  omega
theorem op_mulB:OpR X (binaryOp .Mult) (rI CMul λ i j=>.int (i * j)):=opI λ _ _ _ _ _ _ _ hc q=>mul_int q hc.mulok
theorem q_lt:RO X (compareOp .Lt) ltR:=⟨_,ww3,RdO.i0 λ _ _ _=>.bl _⟩
theorem q_gt:RO X (compareOp .Gt) gtR:=⟨_,vw3,RdO.i0 λ _ _ _=>.bl _⟩
theorem q_ge:RO X (compareOp .GtE) geR:=⟨_,op_ge,RdO.i0 λ _ _ _=>.bl _⟩
def su3 (K:Fg):R2:=λ x y H Q=>∃ a b xs ys,x=.ref a /\ y=.ref b /\ SqT K H a xs /\ SqT K H b ys /\ xs.length + ys.length<=sizeLine ∧
 (xs=[]->Q (.ref b) H) /\ (ys=[]->Q (.ref a) H) /\ (∀ p,H p=none->Q (.ref p) (upd H p (.tup (xs ++ ys))))
theorem wt2:OpR X (binaryOp .Add) (su3 X.K):=by
 intro pins s σ H x y v u Q I rx ry h;obtain ⟨a,b,xs,ys,rfl,rfl,ha,hb,hz,q1,q2,q3⟩:=h;by_cases hx:xs=[]
 ·cases rx;cases ry;obtain ⟨its,r,ht,_⟩:=I.tuple ha;obtain ⟨its2,r2,ht2,_⟩:=I.tuple hb;have hi:its=[]:=by subst hx; cases r; rfl
  obtain ⟨⟨cls,dd,data,sl⟩,ho,hc,n,hd⟩:=id ht;obtain ⟨⟨cls2,dd2,data2,sl2⟩,ho2,hc2,n2,hd2⟩:=id ht2;simp only at hc hd hc2 hd2;subst hc hd hc2 hd2
  exact concat_meets ⟨_,ho,rfl⟩ ⟨_,ho2,rfl⟩ noFill_tuple_add seq_tuple_add slot_tuple_add entry_tuple_add (args_tuple_add_2 _ _)
   (tuple_addW0 a b its.toArray its2.toArray n n2 dd dd2 sl sl2 (by simp [hi])) ⟨ho,ho2,⟨.ref b,H,I,rfl,q1 hx⟩⟩
 ·exact zt2 pins s σ H _ _ v u Q I rx ry ⟨a,b,xs,ys,rfl,rfl,ha,hb,hx,hz,q2,λ _=>q3⟩
theorem td0:RO X (binaryOp .Add) addR:=by
 refine ⟨_,(op_add.or ym1).or (op_cat.or wt2),λ x y v u H Q μ Q3 m rx ry h k=>?_⟩;cases rx with
 | int i =>
  cases ry with
  | int j=>exact .inl (.inl ⟨i,j,rfl,rfl,k _ _ _ _ h (Kp.refl _) (.int _) m⟩)
  | _=>exact False.elim h
 | str i =>
  cases ry with
  | str j=>exact .inl (.inr ⟨i,j,rfl,rfl,h.1,k _ _ _ _ h.2 (Kp.refl _) (.str _) m⟩)
  | _=>exact False.elim h
 | ref p =>
  cases ry with
  | ref q =>
   dsimp only [addR] at h;cases e:μ p with
   | none=>rw [e] at h; exact h.elim
   | some oo =>
    cases oo with
    | ins _ _=>rw [e] at h; exact h.elim
    | dcp _=>rw [e] at h; exact h.elim
    | dcl _=>rw [e] at h; exact h.elim
    | lst xs =>
     cases e2:μ q with
     | none=>rw [e,e2] at h; exact h.elim
     | some o2 =>
      cases o2 with
      | ins _ _=>rw [e,e2] at h; exact h.elim
      | dcp _=>rw [e,e2] at h; exact h.elim
      | dcl _=>rw [e,e2] at h; exact h.elim
      | lst ys =>
       rw [e,e2] at h;obtain ⟨vs,hv,rv⟩:=m p xs e;obtain ⟨us,hu,ru⟩:=m q ys e2;refine .inr (.inl ⟨p,q,vs,us,rfl,rfl,hv,hu,by rw [<- rv.length,<- ru.length]; exact h.1,λ t ht=>?_⟩);exact k _ _ _ _ (h.2 t (m.free ht)) (Kp.new ht) (.ref t) (m.newL ht (rv.append ru))
  | _=>exact False.elim h
 | tup hq rs =>
  cases ry with
  | tup hq2 rs2 =>
   rename_i a l vs b l2 us;refine .inr (.inr ⟨a,b,vs,us,rfl,rfl,(SqT.of hq),(SqT.of hq2),by rw [<- rs.length,<- rs2.length]; exact h.1,λ e=>?_,λ e=>?_,λ t ht=>?_⟩)
   ·subst e; cases rs;exact k _ _ _ _ h.2 (Kp.refl _) (.tup hq2 rs2) m
   ·subst e; cases rs2;have h2:=h.2;rw [append_nil] at h2;exact k _ _ _ _ h2 (Kp.refl _) (.tup hq rs) m
   ·exact k _ _ _ _ h.2 (Kp.new ht) (.tup ve0 ((rs.append rs2).mono (Kp.new ht))) (m.newT ht)
  | _=>exact False.elim h
 | _=>cases ry <;> exact False.elim h
theorem RelDs.atI {K:Fg} {H:Hp} {l:List D} {vs:List V} {i:Int} {d:D} (r:RelDs K H l vs) (e:Pv.atI l i=some d):∃ v,L2.atI vs i=some v /\ RelD K H d v:=by
 unfold Pv.atI at e;unfold L2.atI;rw [sk3,<- r.length];cases q:ixN l.length i with
 | none=>rw [q] at e; cases e
 | some j =>
  rw [q] at e;exact r.get e
theorem q_ix:RX X ixR:=by
 refine ⟨_,ix_list.or uk3,λ x y v u H Q μ Q3 m rx ry h k=>?_⟩;cases ry with
 | int i =>
  cases rx with
  | tup hq rs =>
   rename_i a l vs;dsimp only [ixR] at h;cases e:Pv.atI l i with
   | none=>rw [e] at h; exact h.elim
   | some d =>
    rw [e] at h;obtain ⟨w,e1,r1⟩:=rs.atI e;exact .inr ⟨a,vs,i,w,rfl,rfl,(SqT.of hq),e1,k _ _ _ _ h (Kp.refl _) r1 m⟩
  | ktp hq rs =>
   rename_i a l vs;dsimp only [ixR] at h;cases e:Pv.atI l i with
   | none=>rw [e] at h; exact h.elim
   | some d =>
    rw [e] at h;obtain ⟨w,e1,r1⟩:=rs.atI e;exact .inr ⟨a,vs,i,w,rfl,rfl,hq,e1,k _ _ _ _ h (Kp.refl _) r1 m⟩
  | fls hq rs =>
   rename_i a l vs;dsimp only [ixR] at h;cases e:Pv.atI l i with
   | none=>rw [e] at h; exact h.elim
   | some d =>
    rw [e] at h;obtain ⟨w,e1,r1⟩:=rs.atI e;exact .inl ⟨a,vs,i,w,rfl,rfl,hq.l,e1,k _ _ _ _ h (Kp.refl _) r1 m⟩
  | ref p =>
   dsimp only [ixR] at h;cases e0:μ p with
   | none=>rw [e0] at h; exact h.elim
   | some oo =>
    cases oo with
    | ins _ _=>rw [e0] at h; exact h.elim
    | dcp _=>rw [e0] at h; exact h.elim
    | dcl _=>rw [e0] at h; exact h.elim
    | lst l =>
     rw [e0] at h;dsimp only at h;obtain ⟨vs,hv,rs⟩:=m p l e0;cases e:Pv.atI l i with
     | none=>rw [e] at h; exact h.elim
     | some d =>
      rw [e] at h;obtain ⟨w,e1,r1⟩:=rs.atI e;exact .inl ⟨p,vs,i,w,rfl,rfl,SqL.of hv,e1,k _ _ _ _ h (Kp.refl _) r1 m⟩
  | _=>exact False.elim h
 | _=>cases rx <;> exact False.elim h
theorem yv0 {K:Fg} {H:Hp}:∀ {l:List D} {vs:List V} {zs:List Str},RelDs K H l vs->strs? l=some zs->vs=zs.map V.str
 | _,_,zs,.nil,e=>by simp [strs?] at e; subst e; rfl
 | _,_,zs,.cons h r,e=>by
  cases h with
  | str x =>
   simp only [strs?] at e;split at e
   ·next ys e1 =>
    simp only [Option.some.injEq] at e;subst e;rw [yv0 r e1]; rfl
   ·cases e
  | _=>simp [strs?] at e
theorem yj1 (z:Str) (zs:List Str):inV (.str z) (zs.map V.str)=zs.contains z:=by
 unfold inV;rw [List.any_map]
 induction zs with
 | nil=>rfl
 | cons y r ih =>
  rw [any_cons,ih,List.contains_cons];congr 1;show (y == z)=(z == y);rw [Bool.eq_iff_iff,beq_iff_eq,beq_iff_eq];exact eq_comm
theorem sa1 (zs:List Str):(zs.map V.str).all tw0=true:=by
 rw [List.all_map,List.all_eq_true]; intro _ _; rfl
theorem vy0:RC X (.builtin "len") lenR:=by
 refine ⟨_,call_len_seq.or ub1,λ xs vs H Q μ Q3 m r h k=>?_⟩;cases r with
 | nil=>exact False.elim h
 | cons r1 r2 =>
  cases r2 with
  | cons _ _=>cases r1 <;> exact False.elim h
  | nil =>
   cases r1 with
   | tup hq rs =>
    rename_i a l vs;refine .inl ⟨a,vs,rfl,.inr (SqT.of hq),?_⟩;rw [<- rs.length];exact k _ _ _ _ h (Kp.refl _) (.int _) m
   | fls hq rs =>
    rename_i a l vs;refine .inl ⟨a,vs,rfl,.inl hq.l,?_⟩;rw [<- rs.length];exact k _ _ _ _ h (Kp.refl _) (.int _) m
   | str z=>exact .inr ⟨z,rfl,h.1,k _ _ _ _ h.2 (Kp.refl _) (.int _) m⟩
   | ref p =>
    dsimp only [lenR] at h;cases e:μ p with
    | none=>rw [e] at h; exact h.elim
    | some oo =>
     cases oo with
     | ins _ _=>rw [e] at h; exact h.elim
     | dcp _=>rw [e] at h; exact h.elim
     | dcl _=>rw [e] at h; exact h.elim
     | lst l =>
      rw [e] at h;obtain ⟨vs,hv,rs⟩:=m p l e;refine .inl ⟨p,vs,rfl,.inl (SqL.of hv),?_⟩;rw [<- rs.length];exact k _ _ _ _ h (Kp.refl _) (.int _) m
   | _=>exact False.elim h
theorem zq2:RC X (.type "tuple") tupR:=by
 refine ⟨_,zx0,λ xs vs H Q μ Q3 m r h k=>?_⟩;cases r with
 | nil=>exact False.elim h
 | cons r1 r2 =>
  cases r2 with
  | cons _ _=>cases r1 <;> exact False.elim h
  | nil =>
   cases r1 with
   | tup hq rs=>exact ⟨_,_,rfl,.inr ⟨(SqT.of hq),k _ _ _ _ h (Kp.refl _) (.tup hq rs) m⟩⟩
   | ref p =>
    dsimp only [tupR] at h;cases e:μ p with
    | none=>rw [e] at h; exact h.elim
    | some oo =>
     cases oo with
     | ins _ _=>rw [e] at h; exact h.elim
     | dcp _=>rw [e] at h; exact h.elim
     | dcl _=>rw [e] at h; exact h.elim
     | lst l =>
      rw [e] at h;obtain ⟨vs,hv,rs⟩:=m p l e;exact ⟨p,vs,rfl,.inl ⟨SqL.of hv,λ t ht=>k _ _ _ _ h (Kp.new ht) (.tup ve0 (rs.mono (Kp.new ht))) (m.newT ht)⟩⟩
   | _=>exact False.elim h
theorem zw0 {K:Fg} {H:Hp}:∀ {l:List D} {vs:List V} {zs:List Int},RelDs K H l vs->ints? l=some zs->vs=zs.map V.int
 | _,_,zs,.nil,e=>by simp [ints?] at e; subst e; rfl
 | _,_,zs,.cons h r,e=>by
  cases h with
  | int x =>
   simp only [ints?] at e;split at e
   ·next ys e1 =>
    simp only [Option.some.injEq] at e;subst e;rw [zw0 r e1]; rfl
   ·cases e
  | _=>simp [ints?] at e
end
section
variable {X:Cx} {pins:[6]} {σ:L2.St} {H:Hp} {s:Shared}
mutual
theorem sf0 (I:[5]):∀ {d:D} {v:V} {p:PyData} {u:Value},RelD X.K H d v->dat d=some p->RelV v u->∃ as,Reads s.heap u p as
 | _,_,p,u,.non,e,r=>by simp only [dat,Option.some.injEq] at e; subst e; cases r; exact ⟨_,Reads.none⟩
 | _,_,p,u,.bl b,e,r=>by simp only [dat,Option.some.injEq] at e; subst e; cases r; exact ⟨_,Reads.bool b⟩
 | _,_,p,u,.int i,e,r=>by simp only [dat,Option.some.injEq] at e; subst e; obtain ⟨t,rfl⟩:=r; exact ⟨_,Reads.int i t⟩
 | _,_,p,u,.str x,e,r=>by
  simp only [dat] at e;split at e
  ·simp only [Option.some.injEq] at e; subst e; obtain ⟨t,rfl⟩:=r; exact ⟨_,Reads.str x t⟩
  ·cases e
 | _,_,p,u,.ref a,e,r=>by simp [dat] at e
 | _,_,p,u,.ty n,e,r=>by simp [dat] at e
 | _,_,p,u,.fls _ _,e,r=>by simp [dat] at e
 | _,_,p,u,.exc _ _ _,e,r=>by simp [dat] at e
 | _,_,p,u,.tup hq rs,e,r=>by
  simp only [dat] at e;split at e
  ·next ps e1 =>
   simp only [Option.some.injEq] at e; subst e;cases r;obtain ⟨its,rv,⟨o,ho,hc,n,hd⟩,hz⟩:=I.tuple (SqT.of hq);obtain ⟨as,q⟩:=wh0 I rs e1 rv;exact ⟨_,Reads.tuple ho hc hd (by simpa using q)⟩
  ·cases e
 | _,_,p,u,.ktp hq rs,e,r=>by
  simp only [dat] at e;split at e
  ·next ps e1 =>
   simp only [Option.some.injEq] at e; subst e;cases r;obtain ⟨its,rv,⟨o,ho,hc,n,hd⟩,hz⟩:=I.tuple hq;obtain ⟨as,q⟩:=wh0 I rs e1 rv;exact ⟨_,Reads.tuple ho hc hd (by simpa using q)⟩
  ·cases e
theorem wh0 (I:[5]):∀ {l:List D} {vs:List V} {ps:List PyData} {us:[23]},RelDs X.K H l vs->dats l=some ps->Vals vs us->∃ as,ReadsAll s.heap us ps as
 | _,_,ps,us,.nil,e,r=>by simp only [dats,Option.some.injEq] at e; subst e; cases r; exact ⟨_,ReadsAll.nil⟩
 | _,_,ps,us,.cons h rs,e,r=>by
  simp only [dats] at e;split at e
  ·next p e1 =>
   split at e
   ·next qs e2 =>
    simp only [Option.some.injEq] at e; subst e;cases r with
    | cons r1 r2 =>
     obtain ⟨as,q1⟩:=sf0 I h e1 r1;obtain ⟨bs,q2⟩:=wh0 I rs e2 r2;exact ⟨_,ReadsAll.cons q1 q2⟩
   ·cases e
  ·cases e
end
theorem yh0 (I:[5]) {μ:Mu} (m:RelM X.K μ H) {d:D} {v:V} {p:PyData} {u:Value} (h:RelD X.K H d v) (e:datM μ d=some p) (r:RelV v u):∃ as,Reads s.heap u p as:=by
 cases h with
 | ref a =>
  simp only [datM] at e;split at e
  ·next l e0 =>
   split at e
   ·next ps e1 =>
    simp only [Option.some.injEq] at e; subst e;cases r;obtain ⟨vs,hv,rs⟩:=m a l e0;obtain ⟨its,rv,pl,hz⟩:=I.list (SqL.of hv);obtain ⟨o,ho,hc,n,hd⟩:=pl.isList;obtain ⟨as,q⟩:=wh0 I rs e1 rv;exact ⟨_,Reads.list ho hc hd (by simpa using q)⟩
   ·cases e
  ·cases e
 | non=>exact sf0 I .non e r
 | bl b=>exact sf0 I (.bl b) e r
 | int i=>exact sf0 I (.int i) e r
 | str x=>exact sf0 I (.str x) e r
 | ty n=>exact sf0 I (.ty n) e r
 | tup hq rs=>exact sf0 I (.tup hq rs) e r
 | ktp hq rs=>exact sf0 I (.ktp hq rs) e r
 | fls hq rs=>exact sf0 I (.fls hq rs) e r
 | exc a1 a2 a3=>simp [datM,dat] at e
mutual
theorem sd0:∀ (d:D) (p:PyData),dat d=some p->p.canLay0=true
 | .non,p,e=>by simp only [dat,Option.some.injEq] at e; subst e; rfl
 | .bl b,p,e=>by simp only [dat,Option.some.injEq] at e; subst e; rfl
 | .int b,p,e=>by simp only [dat,Option.some.injEq] at e; subst e; rfl
 | .str x,p,e=>by
  simp only [dat] at e;split at e
  ·next h=>simp only [Option.some.injEq] at e; subst e; exact h
  ·cases e
 | .tup l,p,e=>by
  simp only [dat] at e;split at e
  ·next ps e1=>simp only [Option.some.injEq] at e; subst e; simp only [PyData.canLay0]; exact sh0 l ps e1
  ·cases e
 | .ktp l,p,e=>by
  simp only [dat] at e;split at e
  ·next ps e1=>simp only [Option.some.injEq] at e; subst e; simp only [PyData.canLay0]; exact sh0 l ps e1
  ·cases e
 | .fls _,p,e=>by simp [dat] at e
 | .ref _,p,e=>by simp [dat] at e
 | .ty _,p,e=>by simp [dat] at e
theorem sh0:∀ (l:List D) (ps:List PyData),dats l=some ps->PyData.canLayAll0 ps=true
 | [],ps,e=>by simp only [dats,Option.some.injEq] at e; subst e; rfl
 | d :: r,ps,e=>by
  simp only [dats] at e;split at e
  ·next p e1 =>
   split at e
   ·next qs e2 =>
    simp only [Option.some.injEq] at e; subst e;simp only [PyData.canLayAll0,Bool.and_eq_true];exact ⟨sd0 d p e1,sh0 r qs e2⟩
   ·cases e
  ·cases e
end
theorem vf1 {μ:Mu} {d:D} {p:PyData} (e:datM μ d=some p):p.canLay0=true:=by
 cases d with
 | ref a =>
  simp only [datM] at e;split at e
  ·next l e0 =>
   split at e
   ·next ps e1=>simp only [Option.some.injEq] at e; subst e; simp only [PyData.canLay0]; exact sh0 l ps e1
   ·cases e
  ·cases e
 | non=>exact sd0 _ p e
 | bl b=>exact sd0 _ p e
 | int i=>exact sd0 _ p e
 | str x=>exact sd0 _ p e
 | ty n=>exact sd0 _ p e
 | tup l=>exact sd0 _ p e
 | ktp l=>exact sd0 _ p e
 | fls l=>exact sd0 _ p e
 | exc c=>simp [datM,dat] at e
theorem ze0 {μ:Mu} {d:D} {p:PyData} (e:datM μ d=some p) (h:p.depth<=64):PySem.SeqAt.shaped p=true:=by
 unfold PySem.SeqAt.shaped;rw [vf1 e,decide_eq_true h]; rfl
def rEqD (K:Fg) (neg:Bool):R2:=λ x y H Q=>∃ d e μ p q,RelM K μ H /\ RelD K H d x /\ RelD K H e y /\ datM μ d=some p /\ datM μ e=some q /\ p.depth<=64 /\ q.depth<=64 /\ Q (.bl (if neg then !PyData.eqv p q else PyData.eqv p q)) H
theorem wi3 (hu:X.A.units + 64 < cLine):OpR X (compareOp .Eq) (rEqD X.K false):=by
 intro pins s σ H x y v u Q I rx ry h;obtain ⟨d,e,μ,p,q,m,rd,re,e1,e2,h1,h2,k⟩:=h;obtain ⟨as,q1⟩:=yh0 I m rd e1 rx;obtain ⟨bs,q2⟩:=yh0 I m re e2 ry;exact eq_dataH q1 q2 (ze0 e1 h1) (ze0 e2 h2) hu ⟨.bl _,H,I,rfl,k⟩
theorem sh3 (hu:X.A.units + 64 < cLine):OpR X (compareOp .NotEq) (rEqD X.K true):=by
 intro pins s σ H x y v u Q I rx ry h;obtain ⟨d,e,μ,p,q,m,rd,re,e1,e2,h1,h2,k⟩:=h;obtain ⟨as,q1⟩:=yh0 I m rd e1 rx;obtain ⟨bs,q2⟩:=yh0 I m re e2 ry;exact ne_dataH q1 q2 (ze0 e1 h1) (ze0 e2 h2) hu ⟨.bl _,H,I,rfl,k⟩
theorem xm3 {K:Fg} {H:Hp} {x y:D} {v u:V} {c:Bool} (rx:RelD K H x v) (ry:RelD K H y u) (e:eqS x y=some c):scal v u=true /\ decide (v=u)=c:=by
 unfold eqS at e;split at e <;> first | (cases e; done) | (cases rx; cases ry; cases e; exact ⟨rfl,rfl⟩) | (cases rx; cases ry; cases e; refine ⟨rfl,?_⟩; simp)
theorem hu64 {A:Around} {k:Nat} (hr:Room k A):A.units + 64 < cLine:=by have:=hr.un; omega
def rInD (K:Fg) (neg:Bool):R2:=λ x y H Q=>∃ d e μ p xs,∃ b:Bool,RelM K μ H /\ RelD K H d x /\ RelD K H e y /\ datM μ d=some p /\ datM μ e=some (if b then .list xs else .tuple xs) /\ p.depth<=64 /\ (if b then PyData.list xs else PyData.tuple xs).depth<=64 ∧
 Q (.bl (if neg then !(xs.any λ e=>PyData.eqv e p) else xs.any λ e=>PyData.eqv e p)) H
theorem wr1 (hu:X.A.units + 65 < cLine):OpR X (compareOp .NotIn) (rInD X.K true):=by
 intro pins s σ H x y v u Q I rx ry h;obtain ⟨d,e,μ,p,xs,b,m,rd,re,e1,e2,h1,h2,k⟩:=h;obtain ⟨as,q1⟩:=yh0 I m rd e1 rx;obtain ⟨bs,q2⟩:=yh0 I m re e2 ry;cases b
 ·exact PySem.SeqAt.notIn_tuple_reads q2 q1 (PySem.SeqAt.canLay_of_shaped (ze0 e2 h2)) (PySem.SeqAt.canLay_of_shaped (ze0 e1 h1)) (room_in_shaped (ze0 e1 h1) hu) ⟨.bl _,H,I,rfl,k⟩
 ·exact PySem.SeqAt.notIn_list_reads q2 q1 (PySem.SeqAt.canLay_of_shaped (ze0 e2 h2)) (PySem.SeqAt.canLay_of_shaped (ze0 e1 h1)) (room_in_shaped (ze0 e1 h1) hu) ⟨.bl _,H,I,rfl,k⟩
theorem hu65 {A:Around} {k:Nat} (hr:Room k A):A.units + 65 < cLine:=by have:=hr.un; omega
theorem xv2 {K:Fg} {neg:Bool} {x y:D} {v u:V} {H:Hp} {Q:VK} {μ:Mu} {Q3:VK3} (m:RelM K μ H) (rx:RelD K H x v) (ry:RelD K H y u) (h:inD neg x y μ Q3) (k:Ks K H Q3 Q):rInD K neg v u H Q:=by
 unfold inD at h;split at h
 ·next d xs e1 e2=>exact ⟨x,y,μ,d,xs,true,m,rx,ry,e1,e2,h.1.1,h.1.2,k _ _ _ _ h.2 (Kp.refl _) (.bl _) m⟩
 ·next d xs e1 e2=>exact ⟨x,y,μ,d,xs,false,m,rx,ry,e1,e2,h.1.1,h.1.2,k _ _ _ _ h.2 (Kp.refl _) (.bl _) m⟩
 ·exact h.elim
theorem RdO.inn {K:Fg} {neg:Bool}:RdO K (λ x y H Q=>(rIn K neg x y H Q \/ ∃ i j,x=.str i /\ y=.str j /\ Q (.bl (if neg then !(!(Builtin.Str.occurrences j i 0 j.length 1).isEmpty) else !(Builtin.Str.occurrences j i 0 j.length 1).isEmpty)) H) \/ rInD K neg x y H Q) (inR neg):=λ x y v u H Q μ Q3 m rx ry h k=>by
 unfold inR at h;split at h
 ·next z l =>
  cases e:strs? l with
  | none=>rw [e] at h; exact .inr (xv2 m rx ry h k)
  | some zs =>
   rw [e] at h;cases rx;cases ry with
   | tup hq rs =>
    rename_i a vs;have ev:=yv0 rs e;refine .inl <| .inl ⟨a,vs,rfl,.inr (SqT.of hq),rfl,by rw [ev]; exact sa1 zs,?_⟩;rw [ev,yj1];exact k _ _ _ _ h (Kp.refl _) (.bl _) m
 ·next z l =>
  cases e:strs? l with
  | none=>rw [e] at h; exact .inr (xv2 m rx ry h k)
  | some zs =>
   rw [e] at h;cases rx;cases ry with
   | ktp hq rs =>
    rename_i a vs;have ev:=yv0 rs e;refine .inl <| .inl ⟨a,vs,rfl,.inr hq,rfl,by rw [ev]; exact sa1 zs,?_⟩;rw [ev,yj1];exact k _ _ _ _ h (Kp.refl _) (.bl _) m
 ·next z y =>
  cases rx;cases ry;exact .inl <| .inr ⟨z,y,rfl,rfl,k _ _ _ _ h (Kp.refl _) (.bl _) m⟩
 ·exact .inr (xv2 m rx ry h k)
theorem yd1 (hu:X.A.units + 65 < cLine):RO X (compareOp .NotIn) (inR true):=⟨_,(op_notIn_seq.or ty0).or (wr1 hu),RdO.inn⟩
theorem q_eq (hu:X.A.units + 64 < cLine):RO X (compareOp .Eq) eqR:=by
 refine ⟨_,op_eq.or (wi3 hu),λ x y v u H Q μ Q3 m rx ry h k=>?_⟩;unfold eqR at h;cases e:eqS x y with
 | some c =>
  rw [e] at h;obtain ⟨h1,h2⟩:=xm3 rx ry e;refine .inl ⟨h1,?_⟩;rw [h2];exact k _ _ _ _ h (Kp.refl _) (.bl _) m
 | none =>
  rw [e] at h;dsimp only at h;cases e1:datM μ x with
  | none=>rw [e1] at h; exact h.elim
  | some p =>
   cases e2:datM μ y with
   | none=>rw [e1,e2] at h; exact h.elim
   | some q =>
    rw [e1,e2] at h;exact .inr ⟨x,y,μ,p,q,m,rx,ry,e1,e2,h.1.1,h.1.2,k _ _ _ _ h.2 (Kp.refl _) (.bl _) m⟩
theorem q_ne (hu:X.A.units + 64 < cLine):RO X (compareOp .NotEq) neR:=by
 refine ⟨_,op_ne.or (sh3 hu),λ x y v u H Q μ Q3 m rx ry h k=>?_⟩;unfold neR at h;cases e:eqS x y with
 | some c =>
  rw [e] at h;obtain ⟨h1,h2⟩:=xm3 rx ry e;refine .inl ⟨h1,?_⟩;rw [h2];exact k _ _ _ _ h (Kp.refl _) (.bl _) m
 | none =>
  rw [e] at h;dsimp only at h;cases e1:datM μ x with
  | none=>rw [e1] at h; exact h.elim
  | some p =>
   cases e2:datM μ y with
   | none=>rw [e1,e2] at h; exact h.elim
   | some q =>
    rw [e1,e2] at h;exact .inr ⟨x,y,μ,p,q,m,rx,ry,e1,e2,h.1.1,h.1.2,k _ _ _ _ h.2 (Kp.refl _) (.bl _) m⟩
variable {o e:Expr} {es:List Expr} {to:TE3} {t:TA3} {apos cpos:Pos}
theorem zd3 {name:Str} {id:String} {r:V->List V->Hp->VK->Prop} {r3:D->List D->Mu->VK3->Prop} (slot:Slot "list" name id) (hty:typeOf (.builtin id)=pure (.type "method_descriptor")) (hm:MtR X id r)
    (hrd:∀ p xs v vs H Q μ Q3,RelM X.K μ H->RelD X.K H (.ref p) v->RelDs X.K H xs vs->r3 (.ref p) xs μ Q3->Ks X.K H Q3 Q->r v vs H Q) (ho:RE X o to) (ha:RA X (e :: es) t)
    (hbase:attributeBase o name X.env (eval o X.env)=eval o X.env)
    (hfew:((backTo cpos (starEach (e :: es) X.env)).all (λ x=>!x.1) && (backToKw cpos (keywordEach [] X.env)).all (λ x=>x.1.isSome)
     && decide [17])=true)
    (hline:(apos.endLine == cpos.line)=true) (hs:starEach (e :: es) X.env=[30] :: starEach es X.env) (hplain:(backTo cpos (starEach es X.env)).any (·.1)=false) :
    RE X (.Call (.Attribute o name apos) (e :: es) [] cpos) (mt3 r3 to t):=by
 obtain ⟨va,pa,ra⟩:=ho;obtain ⟨vb,pb,rb⟩:=ha;refine ⟨_,xt2 PySem.F.plainAttrs_list slot hty hm pa pb hbase hfew hline hs hplain,λ σ H Q ρ μ Q3 s m h k=>ra σ H _ ρ μ _ s m h λ d μ1 v H1 h1 k1 r1 m1=>?_⟩;cases r1 with
 | ref p =>
  dsimp only at h1;cases e0:μ1 p with
  | none=>rw [e0] at h1; exact h1.elim
  | some oo =>
   cases oo with
   | ins _ _=>rw [e0] at h1; exact h1.elim
   | dcp _=>rw [e0] at h1; exact h1.elim
   | dcl _=>rw [e0] at h1; exact h1.elim
   | lst l =>
    rw [e0] at h1;obtain ⟨vs,hv,rs⟩:=m1 p l e0;refine ⟨.inl ⟨rfl,vs,SqL.of hv⟩,rb σ H1 _ ρ μ1 _ (s.mono k1) m1 h1 λ xs μ2 ys H2 h2 k2 r2 m2=>?_⟩;exact hrd p xs _ ys H2 Q μ2 Q3 m2 (.ref p) r2 h2 (k.after (k1.trans k2))
 | _=>exact False.elim h1
theorem vp0 (ho:RE X o to) (ha:RA X (e :: es) t) (hbase:attributeBase o "append" X.env (eval o X.env)=eval o X.env:=by rfl)
    (hfew:((backTo cpos (starEach (e :: es) X.env)).all (λ x=>!x.1) && (backToKw cpos (keywordEach [] X.env)).all (λ x=>x.1.isSome)
     && decide [17])=true:=by rfl)
    (hline:(apos.endLine == cpos.line)=true:=by rfl) (hs:starEach (e :: es) X.env=[30] :: starEach es X.env:=by rfl) (hplain:(backTo cpos (starEach es X.env)).any (·.1)=false:=by rfl) :
    RE X (.Call (.Attribute o "append" apos) (e :: es) [] cpos) (mt3 appR to t):=by
 refine zd3 PySem.F.slot_list_append PySem.F.type_list_append tp0 (λ p xs v vs H Q μ Q3 m rp rx h k=>?_) ho ha hbase hfew hline hs hplain;cases rp;cases rx with
 | nil=>exact False.elim h
 | cons r1 r2 =>
  cases r2 with
  | cons _ _=>exact False.elim h
  | nil =>
   dsimp only [appR] at h;cases e0:μ p with
   | none=>rw [e0] at h; exact h.elim
   | some oo =>
    cases oo with
    | ins _ _=>rw [e0] at h; exact h.elim
    | dcp _=>rw [e0] at h; exact h.elim
    | dcl _=>rw [e0] at h; exact h.elim
    | lst l =>
     rw [e0] at h;obtain ⟨vs,hv,rs⟩:=m p l e0;exact ⟨p,vs,_,rfl,rfl,hv,by rw [<- rs.length]; exact h.1,k _ _ _ _ h.2 (Kp.wr hv) .non (m.wr hv (rs.append (.cons r1 .nil)))⟩
theorem zy0 (ho:RE X o to) (ha:RA X (e :: es) t) (hbase:attributeBase o "extend" X.env (eval o X.env)=eval o X.env:=by rfl)
    (hfew:((backTo cpos (starEach (e :: es) X.env)).all (λ x=>!x.1) && (backToKw cpos (keywordEach [] X.env)).all (λ x=>x.1.isSome)
     && decide [17])=true:=by rfl)
    (hline:(apos.endLine == cpos.line)=true:=by rfl) (hs:starEach (e :: es) X.env=[30] :: starEach es X.env:=by rfl) (hplain:(backTo cpos (starEach es X.env)).any (·.1)=false:=by rfl) :
    RE X (.Call (.Attribute o "extend" apos) (e :: es) [] cpos) (mt3 extR to t):=by
 refine zd3 PySem.F.slot_list_extend PySem.F.type_list_extend sr1 (λ p xs v vs H Q μ Q3 m rp rx h k=>?_) ho ha hbase hfew hline hs hplain;cases rp;cases rx with
 | nil=>exact False.elim h
 | cons r1 r2 =>
  cases r2 with
  | cons _ _=>cases r1 <;> exact False.elim h
  | nil =>
   cases r1 with
   | ref q =>
    dsimp only [extR] at h;cases e0:μ p with
    | none=>rw [e0] at h; exact h.elim
    | some oo =>
     cases oo with
     | ins _ _=>rw [e0] at h; exact h.elim
     | dcp _=>rw [e0] at h; exact h.elim
     | dcl _=>rw [e0] at h; exact h.elim
     | lst l =>
      cases e2:μ q with
      | none=>rw [e0,e2] at h; exact h.elim
      | some o2 =>
       cases o2 with
       | ins _ _=>rw [e0,e2] at h; exact h.elim
       | dcp _=>rw [e0,e2] at h; exact h.elim
       | dcl _=>rw [e0,e2] at h; exact h.elim
       | lst l2 =>
        rw [e0,e2] at h;obtain ⟨vs,hv,rs⟩:=m p l e0;obtain ⟨us,hu,ru⟩:=m q l2 e2;exact ⟨p,q,vs,us,rfl,rfl,hv,hu,by rw [<- rs.length,<- ru.length]; exact h.1,k _ _ _ _ h.2 (Kp.wr hv) .non (m.wr hv (rs.append ru))⟩
   | _=>exact False.elim h
end
abbrev zd0 (X:Cx) (NN:List Str) (scope:Scope) (cl:List (Str × Addr)) (C:Addr) (fp:List Addr) (s₀:Shared) (H₀:Hp) (pn:[6]):Cx :=
 { X with N:=NN,s₀:=s₀,H₀:=H₀,env:=compEnvC scope cl C X.env,outer:=X.stack,ex:=fp,fn:=λ _=>false,pn:=pn,xe:=λ _ _=>False }
structure CompSc (X:Cx) (NN:List Str) (scope:Scope) (cl:List (Str × Addr)) (js:List (Option Nat)):Prop where
 clos:closureFor scope X.env=pure cl
 cell:∀ y ∈ scope.names,y.2 ≠ .cell
 kind:scope.kind=.function
 names:∀ y ∈ scope.names,y.2=.local->scope.names.lookup y.1=some .local
 sub:∀ x c,cl.lookup x=some c->X.env.cells.lookup x=some c
 has:∀ x,((relabel scope X.env).names.lookup x=some .cell \/ (relabel scope X.env).names.lookup x=some .free)->∃ c,cl.lookup x=some c
 len:js.length=NN.length
 out:∀ (i j:Nat),js[i]?=some (some j)->∃ x,NN[i]?=some x /\ X.N[j]?=some x /\ Vis X.env.scope x /\ X.env.scope.names.lookup x ≠ some .local /\ ((relabel scope X.env).names.lookup x=some .cell \/ (relabel scope X.env).names.lookup x=some .free)
theorem zh0 {α:Type} {x:Str} {k:α}:∀ {l:List (Str × α)},l.lookup x=some k->(x,k) ∈ l
 | [],h=>by simp at h
 | (n,k') :: r,h=>by
  rw [lookup_cons] at h;split at h
  ·next e=>simp only [Option.some.injEq] at h; subst h; rw [eq_of_beq e]; exact mem_cons_self
  ·exact mem_cons_of_mem _ (zh0 h)
theorem CompSc.closed {X:Cx} {NN:List Str} {scope:Scope} (hf:∀ y ∈ scope.names,y.2 ≠ .free) (hc:∀ y ∈ scope.names,y.2 ≠ .cell) (hk:scope.kind=.function) (hn:∀ y ∈ scope.names,y.2=.local->scope.names.lookup y.1=some .local) :
    CompSc X NN scope [] (NN.map λ _=>none) where
 clos:=closureFor_none hf
 cell:=hc
 kind:=hk
 names:=hn
 sub:=λ x c h=>by simp at h
 has:=λ x h=>by
  exfalso
  have e:(relabel scope X.env).names=scope.names:=map_eq_self (l:=scope.names) (λ y hy=>by
   obtain ⟨n,k⟩:=y;have:(k == NameKind.free)=false:=by simpa using hf _ hy
   simp [this])
  rw [e] at h;rcases h with h | h
  ·exact hc _ (zh0 h) rfl
  ·exact hf _ (zh0 h) rfl
 len:=by simp
 out:=λ i j h=>by
  rw [getElem?_map] at h;cases q:NN[i]? with
  | none=>rw [q] at h; cases h
  | some y=>rw [q] at h; simp at h
def xm0 (js:List [34]) (σ:L2.St):L2.St:=js.map λ j=>j.bind λ j=>(σ[j]?).bind id
def PTs (X:Cx) (ifs:List Expr) (t:TT):Prop:=∀ (pins:[6]) (s:Shared) (σ:L2.St) (H:Hp) (Q:Bool->Hp->Prop),Inv X pins σ H s->t σ H Q ->
 wpAny [8] X.A (forIn ifs true λ c r=>if r=true then do let ok <- isTrue c X.env (eval c X.env); pure (ForInStep.yield ok) else pure (ForInStep.yield r)) (TP X pins σ Q) X.xe s
theorem xr2 {X:Cx}:PTs X [] (λ _ H Q=>Q true H):=λ _ _ _ H _ I h=>wpAny_tests_nil ⟨H,I,h⟩
theorem sq2 {X:Cx} {c:Expr} {t:TT} (h:PT X c t):PTs X [c] t:=λ pins s σ H Q I q=>wpAny_tests_one (h pins s σ H Q I q)
def sn1 (js:List [34]) (wi:TI) (g:TG) (tc:TT) (te:TE):TE:=λ σ H Q=>wi σ H λ J H1=>∀ p,H1 p=none ->
 ∃ W:Nat->Nat->L2.St->Hp->Prop,(∃ m,W 0 m (xm0 js σ) (upd H1 p (.lst []))) /\ ∀ i m σ' H',W i m σ' H' ->
  ((J.stop i H' /\ Q (.ref p) H') \/ (J.go i H' /\ ∀ x H2,J.yld i H' x H2->g x σ' H2 λ σ3 H3=>tc σ3 H3 λ b H4 =>
   if b=true then te σ3 H4 λ y H5=>∃ ys,H5 p=some (.lst ys) /\ ys.length < sizeLine /\ ∃ m',m' < m /\ W (i + 1) m' σ3 (upd H5 p (.lst (ys ++ [y]))) else ∃ m',m' < m /\ W (i + 1) m' σ3 H4))
section
variable {X:Cx} {NN:List Str} {scope:Scope} {cl:List (Str × Addr)} {js:List [34]}
theorem uw2 {pins:[6]} {σ:L2.St} {H:Hp} {s:Shared} {fp:List Addr} {pn:[6]} (hc:X.calm=true) (S:CompSc X NN scope cl js) (I:[5]) (f:∀ b ∈ fp,FpOk X pins H b /\ b < s.heap.objs.size) :
    (zd0 X NN scope cl s.heap.objs.size fp s H pn).Ok where
 mod:=I.ok.mod
 kind:=S.kind
 glob:=I.ok.glob
 blt:=I.ok.blt
 above:=Nat.le_refl _
 inj:=λ x y c h1 h2=>I.ok.inj x y c (S.sub x c h1) (S.sub y c h2)
 has:=λ x h=>S.has x h
 cab:=λ x c h=>by cases h
 hd:=λ _=>I.ok.hd hc
 frames:=I.ok.frames
 stk:=.inl rfl
 exf:=λ b hb=>⟨Nat.ne_of_lt (f b hb).2,λ x c e=>(f b hb).1.2.2.2.2.1 x c (S.sub x c e)⟩
 bs:=I.bs
 bsz:=Nat.le_trans I.ok.bsz I.sz
 noex:=λ b o e hb=>by
  rcases (f b hb).1.2.2.2.1 with z | z
  ·exact I.ok.noex b o e z
  ·exact absurd (Nat.lt_of_lt_of_le (Heap.lt_size e) (Nat.le_trans I.ok.bsz z)) (Nat.lt_irrefl _)
 exfs:=λ b hb hfs=>by
  rcases List.mem_cons.mp (I.stkSub b hfs) with z | z
  ·exact (f b hb).1.2.1 z
  ·exact (f b hb).1.2.2.1 z
 funs:=I.stack
 frf:=I.stkFree
theorem wu1 {js:List [34]} {σ:L2.St} {i:Nat} {v:V} (h:(xm0 js σ)[i]?=some (some v)):∃ j,js[i]?=some (some j) /\ σ[j]?=some (some v):=by
 unfold xm0 at h;rw [getElem?_map] at h;cases q:js[i]? with
 | none=>rw [q] at h; cases h
 | some o =>
  rw [q] at h;cases o with
  | none=>simp at h
  | some j =>
   refine ⟨j,rfl,?_⟩;simp only [Option.map_some,Option.bind_some,Option.some.injEq] at h;cases e:σ[j]? with
   | none=>rw [e] at h; simp at h
   | some w=>rw [e] at h; simp only [Option.bind_some,id] at h; rw [h]
theorem vb1 {pins:[6]} {σ:L2.St} {H:Hp} {s:Shared} {fp:List Addr} {h₁:Heap} {m:Str->Option Value} {tk:Nat} (hc:X.calm=true) (S:CompSc X NN scope cl js) (I:[5]) (f:∀ b ∈ fp,FpOk X pins H b /\ b < s.heap.objs.size)
    (hn:h₁.Ns s.heap.objs.size m) (k:∀ b u,s.heap.get? b=some u->h₁.get? b=some u):Inv (zd0 X NN scope cl s.heap.objs.size fp s H (X.pn ++ pins)) [] (xm0 js σ) H { s with heap:=h₁,toks:=tk } where
 ok:=uw2 hc S I f
 os:=rfl
 bare:=I.bare
 base:=Un.kept k
 loc:=by
  refine ⟨m,hn,λ i x v h1 h2 h3=>?_⟩;obtain ⟨j,e1,e2⟩:=wu1 h2;obtain ⟨y,q1,q2,q3,q4,q5⟩:=S.out i j e1;have q1':NN[i]?=some x:=h1;rw [q1] at q1'; cases q1';obtain ⟨mX,_,hl⟩:=I.loc;obtain ⟨u,r,l⟩:=hl j x v q2 e2 q3;refine ⟨u,r,.inr ⟨q5,?_⟩⟩;rcases l with ⟨z,_⟩ | ⟨_,c,hc',hcell⟩
  ·exact absurd z q4
  ·obtain ⟨c',hc2⟩:=S.has x q5;have e:=S.sub x c' hc2;rw [hc'] at e; cases e;obtain ⟨o,ho,hd⟩:=hcell;exact ⟨c,hc2,o,k _ _ ho,hd⟩
 cell:=λ x c e=>by
  obtain ⟨v,o,ho,hd⟩:=I.cell x c (S.sub x c e);exact ⟨v,o,k _ _ ho,hd⟩
 free:=I.hok.fresh [18]
 freeC:=λ x c e=>I.freeC x c (S.sub x c e)
 pin:=λ p hp=>by
  have hp':p ∈ X.pn ++ pins:=by simpa using hp
  obtain ⟨h1,h2,h3,h4,h5⟩:=I.pin p hp';refine ⟨k _ _ h1,h2,Nat.ne_of_lt (Heap.lt_size h1),λ z=>?_,h5⟩;rcases List.mem_cons.mp (I.stkSub _ z) with z | z
  ·exact h3 z
  ·exact h4 z
 hok:=I.hok.kept k
 len:=by show (xm0 js σ).length=NN.length; unfold xm0; rw [length_map]; exact S.len
theorem ts2 {elt target iter:Expr} {ifs:List Expr} {pos:Pos} {wi:TI} {g:TG} {tc:TT} {te:TE} (hc:X.calm=true) (S:CompSc X NN scope cl js) (hi:PI X target iter wi)
    (hg:∀ C fp s₀ H₀ pn,PG [9] target g) (ht:∀ C fp s₀ H₀ pn,PTs [9] ifs tc) (he:∀ C fp s₀ H₀ pn,PE [9] elt te)
    (hs:∀ x,foldedSetIterable iter X.env x=pure x):PE X [10] (sn1 js wi g tc te):=by
 intro pins s σ H Q I h;rw [eval_ListComp];refine wpAny_comprehension_free (use:=none) rfl hs S.clos S.kind S.names (thn (hi pins s σ H _ I h) λ xv s1 h1=>thn h1 λ itv s2 h2=>?_);obtain ⟨it,fp,tn,J,H2,rfl,I2,T,st2,f2,hW⟩:=h2;refine wpAny_newObj_type (wpAny_newFunctionEnv S.cell (by intro y hy; simp at hy) (λ h₁ hns₁ hsb₁=>?_) S.kind);dsimp only at hns₁ hsb₁ ⊢;have hD:H2 s2.heap.objs.size=none:=I2.hok.fresh [18]
 have I3:Inv X pins σ (upd H2 s2.heap.objs.size (.lst [])) { s2 with heap:=s2.heap.push [36] } :=
  I2.lnew (t':=s2.toks) (its:=[]) .nil (by rw [sizeLine_eq]; decide)
 generalize hsD:({ s2 with heap:=s2.heap.push [36] }:Shared)=sD at I3;have eh:sD.heap=s2.heap.push [36]:=by rw [<- hsD]
 have es:∀ (h:Heap) (tk:Nat),({ s2 with heap:=h,toks:=tk }:Shared)={ sD with heap:=h,toks:=tk }:=λ h tk=>by rw [<- hsD]
 have hsz:s2.heap.objs.size < sD.heap.objs.size:=by rw [eh,Heap.size_push]; exact Nat.lt_succ_self _
 rw [<- eh] at hns₁ hsb₁ ⊢;generalize hp0:s2.heap.objs.size=p0 at *;have up:∀ b u,s2.heap.get? b=some u->sD.heap.get? b=some u:=λ b u e=>by rw [eh]; exact Heap.get?_push_of_some _ e
 have k:∀ b u,sD.heap.get? b=some u->h₁.get? b=some u:=λ b u e=>hsb₁.extBut b u (Nat.ne_of_lt (Heap.lt_size e)) (Heap.get?_push_of_some _ e)
 have f3:∀ b ∈ fp,FpOk X pins (upd H2 p0 (.lst [])) b /\ b < sD.heap.objs.size:=λ b hb=>by
  obtain ⟨o,ho,_⟩:=T.obj 0 _ st2 b hb;have hlt:b < p0:=by rw [<- hp0]; exact Heap.lt_size ho
  refine ⟨⟨?_,(f2 b hb).2⟩,Nat.lt_trans hlt hsz⟩;rw [vb0 (Nat.ne_of_lt hlt)]; exact (f2 b hb).1
 obtain ⟨W,⟨m0,w0⟩,turn⟩:=hW p0 hD;have I4:=vb1 (tk:=s2.toks + ([]:List (Str × Value)).length) hc S I3 f3 hns₁ k;have st4:tn 0 h₁:=T.keep 0 _ _ st2 λ b _ o e=>k b o (up b o e);rw [es];generalize hX':zd0 X NN scope cl sD.heap.objs.size fp sD (upd H2 p0 (.lst [])) (X.pn ++ pins)=X' at I4;have a1:X'.env=compEnvC scope cl sD.heap.objs.size X.env:=by rw [<- hX']
 have a2:X'.prog=X.prog:=by rw [<- hX']
 have a3:X'.w=X.w:=by rw [<- hX']
 have a4:X'.A=X.A:=by rw [<- hX']
 have a5:X'.K=X.K:=by rw [<- hX']
 have a6:X'.calm=true:=by rw [<- hX']; exact hc
 have a7:X'.xe=λ _ _=>False:=by rw [<- hX']
 have a8:X'.ex=fp:=by rw [<- hX']
 have T':Turn X'.prog X'.w X'.K target J fp it tn:=by rw [a2,a3,a5]; exact T
 have hg':PG X' target g:=by rw [<- hX']; exact hg _ _ _ _ _
 have ht':PTs X' ifs tc:=by rw [<- hX']; exact ht _ _ _ _ _
 have he':PE X' elt te:=by rw [<- hX']; exact he _ _ _ _ _
 have fin:∀ {σ':L2.St} {H':Hp} {s':Shared},Inv X' [] σ' H' s'->Q (.ref p0) H'->compPost [8] X.A X.xe none (EP X pins σ Q) (.ref p0) sD.heap.objs.size (.ok .next) s':=λ {σ' H' s'} I' q=>by
  obtain ⟨m',hn',_⟩:=I'.loc;rw [a1] at hn';refine ⟨m',hn',λ h' sb=>?_⟩
  have u:Un (frs X.stack) fp (upd H2 p0 (.lst [])) H' sD.heap s'.heap:=by
   have:=I'.base;rw [<- hX'] at this;exact this
  have hch:∀ b ∈ fp,(b ∈ X.ex \/ X.s₀.heap.objs.size<=b) /\ b ≠ X.env.locals /\ (∀ x c,X.env.cells.lookup x=some c->c ≠ b) /\ ∀ p ∈ X.pn ++ pins,p.1 ≠ b:=λ b hb=>by
   obtain ⟨_,z1,_,z3,z4,z5⟩:=(f3 b hb).1;exact ⟨z3,z1,z4,z5⟩
  have os':s'.os=sD.os:=by
   have:=I'.os;rw [<- hX'] at this;exact this
  have hok':HOk X.prog X.w H' s'.heap:=by
   have:=I'.hok;rw [<- hX'] at this;exact this
  have I5:Inv X pins σ H' s':=I3.call' os' u hok' I'.bare hch
  have hC:H' sD.heap.objs.size=none:=by
   have:=I'.free;rw [a1] at this;exact this
  refine ⟨.ref p0,H',I5.turned (t':=s'.toks) (it:=sD.heap.objs.size) (λ b o hb e=>sb.extBut b o hb e) hC (Nat.ne_of_gt I3.lt) (.inr I3.sz) (λ x c e=>?_) (λ p hp=>?_),rfl,q⟩
  ·obtain ⟨v,o,ho,_⟩:=I3.cell x c e;exact Nat.ne_of_lt (Heap.lt_size ho)
  ·exact Nat.ne_of_lt (Heap.lt_size (I3.pin p hp).1)
 have fp4:∀ {H':Hp},(∀ b ∈ fp,H' b=none)->∀ b ∈ fp,FpOk X' [] H' b:=λ hn b hb=>by
  obtain ⟨_,z1,z2,z3,z4,z5⟩:=(f3 b hb).1;rw [<- hX'];refine ⟨hn b hb,Nat.ne_of_lt (f3 b hb).2,λ z=>?_,.inl hb,λ x c e=>z4 x c (S.sub x c e),λ p hp=>z5 p (by simpa using hp)⟩;rcases List.mem_cons.mp (I3.stkSub _ z) with z | z
  ·exact z1 z
  ·exact z2 z
 have loop:∀ s₃:Shared,Inv X' [] (xm0 js σ) (upd H2 p0 (.lst [])) s₃->tn 0 s₃.heap ->
     codeAny [8] X.A (.compLoop [10] 0 (.ref it) (.ref p0) (compEnvC scope cl sD.heap.objs.size X.env)) (compPost [8] X.A X.xe none (EP X pins σ Q) (.ref p0) sD.heap.objs.size) s₃:=by
  intro s₃ I₃ st₃;refine codeAny_loop rfl (λ n s'=>∃ i σ' H',Inv X' [] σ' H' s' /\ tn i s'.heap /\ (∀ b ∈ fp,H' b=none) /\ W i n σ' H') (λ n s' hI=>?_) m0 ⟨0,xm0 js σ,_,I₃,st₃,λ b hb=>(f3 b hb).1.1,w0⟩;obtain ⟨i,σ3,H3,J3,st3,fr3,w3⟩:=hI;have tr:=turn i n σ3 H3 w3;show wpAny _ X.A ((compTurn [10] 0 (.ref it) (.ref p0) (compEnvC scope cl sD.heap.objs.size X.env)).onRaise (λ x=>do noteFrame x (compEnvC scope cl sD.heap.objs.size X.env); theTreesLotGoes x)) _ _ s';refine wpAny_noted ?_;rw [compTurn_list,<- a1,<- a2,<- a3,<- a4];have nof:∀ {α:Type} {t:Sem α} {Q':α->Shared->Prop} {s'':Shared} {E:[2]},wpAny (model X'.prog X'.w) X'.A t Q' X'.xe s''->wpAny (model X'.prog X'.w) X'.A t Q' E s'':=λ h=>wpAny_mono h (λ _ _ q=>q) λ _ _ z=>by rw [a7] at z; exact z.elim
  rcases tr with ⟨stop,qn⟩ | ⟨go,step⟩
  ·refine wpAny_bind (wpAny_standAt (wpAny_bind (nof (thn (T'.done X' rfl rfl rfl a6 i [] s' σ3 H3 X'.xe J3 (fp4 fr3) st3 stop) λ r s4 ⟨hr,J4⟩=>?_))));subst hr;exact wpAny_pure (fin J4 qn)
  ·refine wpAny_bind (wpAny_standAt (wpAny_bind (nof (thn (T'.item X' rfl rfl rfl a6 i [] s' σ3 H3 X'.xe J3 (fp4 fr3) st3 go) λ r s4 ⟨u,hr,h4⟩=>?_))));subst hr;refine wpAny_bind (nof (thn h4 λ _ s5 ⟨x,H5,I5,r5,y5,st5,fr5⟩=>?_));have I5':=I5.pinned (fp4 fr5) (T.obj _ _ st5);refine wpAny_bind (nof (thn (hg' _ s5 σ3 H5 x u _ I5' r5 (step x H5 y5)) λ _ s6 ⟨σ6,H6,I6,q6⟩=>?_));refine wpAny_bind (nof (thn (ht' _ s6 σ6 H6 _ I6 q6) λ ok s7 ⟨H7,I7,q7⟩=>?_))
   have again:∀ {s8:Shared} {σ8:L2.St} {H8:Hp},Inv X' ([] ++ ys0 fp s5.heap) σ8 H8 s8->(∃ m',m' < n /\ W (i + 1) m' σ8 H8)->∃ m,m < n /\ ∃ i σ' H',Inv X' [] σ' H' s8 /\ tn i s8.heap /\ (∀ b ∈ fp,H' b=none) /\ W i m σ' H':=λ {s8 σ8 H8} I8 ⟨m',hm,w8⟩=>by
    refine ⟨m',hm,i + 1,σ8,H8,I8.unpinned,T.keep _ _ _ st5 λ b hb o e=>(I8.pin (b,o) (mem_append_right _ (mem_append_right _ (xg0 hb e)))).1,λ b hb=>?_,w8⟩;obtain ⟨o,e,d⟩:=T.obj _ _ st5 b hb;exact (I8.pin (b,o) (mem_append_right _ (mem_append_right _ (xg0 hb e)))).2.1
   cases ok with
   | false=>exact wpAny_pure ⟨rfl,again I7 q7⟩
   | true =>
    refine wpAny_bind (wpAny_bind (nof (thn (he' _ s7 σ6 H7 _ I7 q7) λ xv s8 ⟨y,H8,I8,r8,ys,q8,hlen,q9⟩=>wpAny_bind (nof ?_))));refine thn (tp0 (X:=X') _ s8 σ6 H8 (.ref p0) [y] (.ref p0) [xv] (λ v H9=>v=.non /\ H9=upd H8 p0 (.lst (ys ++ [y]))) I8 rfl (.cons r8 .nil) ⟨p0,ys,y,rfl,rfl,q8,hlen,rfl,rfl⟩) λ rv s9 ⟨v9,H9,I9,_,_,e9⟩=>?_;subst e9;exact wpAny_pure (wpAny_pure ⟨rfl,again I9 q9⟩)
 exact codeAny_compStart_list (loop _ I4 st4) (T.self X.A 0 _ _ _ st4 (loop _ I4 st4))
end
theorem wi0:bootBuiltins "len" = some (.builtin "len"):=by decide +kernel
theorem yh2:bootBuiltins "tuple" = some (.type "tuple"):=by decide +kernel
theorem zz1:bootBuiltins "dict" = some (.type "dict"):=by decide +kernel
theorem xn2:bootBuiltins "set" = some (.type "set"):=by decide +kernel
theorem yz1:bootBuiltins "min" = some (.builtin "min"):=by decide +kernel
theorem yn2:bootBuiltins "max" = some (.builtin "max"):=by decide +kernel
theorem sq0:bootBuiltins "sorted" = some (.builtin "sorted"):=by decide +kernel
def RTs (X:Cx) (ifs:List Expr) (t:TT3):Prop:=∃ tv,PTs X ifs tv /\ RdT X.K tv t
theorem sg0 {X:Cx}:RTs X [] tt3:=⟨_,xr2,λ σ H Q ρ μ Q3 s m h k=>k _ _ _ h (Kp.refl _) m⟩
theorem wp2 {X:Cx} {c:Expr} {t:TT3} (h:RT X c t):RTs X [c] t:=let ⟨tv,p,r⟩:=h; ⟨tv,sq2 p,r⟩
theorem zf2 {K:Fg} {H:Hp} {ρ:St3} {σ:L2.St} (s:RSt K H ρ σ) (js:List [34]):RSt K H (js.map λ j=>j.bind (getI ρ)) (xm0 js σ):=by
 refine ⟨by simp [xm0],λ i d e=>?_⟩;rw [te1,getElem?_map] at e;unfold xm0;rw [getElem?_map];cases q:js[i]? with
 | none=>rw [q] at e; cases e
 | some o =>
  rw [q] at e;cases o with
  | none=>simp at e
  | some j =>
   have e':getI ρ j=some d:=by simpa using e
   obtain ⟨v,h1,h2⟩:=s.at' j d e';exact ⟨v,by simp [h1],h2⟩
theorem RdE.comp {K:Fg} {js:List [34]} {wi:TI} {g:TG} {tc:TT} {te:TE} {ti:TI3} {g3:TG3} {tc3:TT3} {te3:TE3} (ri:RdI K wi ti) (rg:RdG K g g3) (rt:RdT K tc tc3) (re:RdE K te te3):RdE K (sn1 js wi g tc te) (th0 js ti g3 tc3 te3):=by
 intro σ H Q ρ μ Q3 s m h k;refine ri σ H _ ρ μ _ s m h λ l S μ1 J H1 h1 k1 m1 ok p hp=>?_;obtain ⟨W,w0,hS,hn,hs⟩:=h1 p (m1.free hp);have kn:Kp H1 (upd H1 p (.lst [])):=Kp.new hp;refine ⟨λ i n σ2 H2=>n=l.length - i /\ i<=l.length /\ ∃ ρ2 μ2 ys,RSt K H2 ρ2 σ2 /\ RelM K μ2 H2 /\ Kp H1 H2 /\ W (l.drop i) ys ρ2 μ2,⟨l.length,rfl,Nat.zero_le _,_,_,[],(zf2 (s.mono k1) js).mono kn,m1.newL hp .nil,kn,w0⟩,?_⟩;rintro i n σ2 H2 ⟨rfl,hi,ρ2,μ2,ys,s2,m2,k2,w2⟩;obtain ⟨hS2,hp2⟩:=hS _ _ _ _ w2;by_cases hlt:i < l.length
 ·rw [List.drop_eq_getElem_cons hlt] at w2;obtain ⟨hz,h2⟩:=hs _ _ _ _ _ w2;obtain ⟨ok1,_⟩:=ok i H2 μ2 k2 m2 hS2;obtain ⟨go,yl⟩:=ok1 l[i] (getElem?_eq_getElem hlt);refine .inr ⟨go,λ x H3 y=>?_⟩;obtain ⟨k3,m3,r3⟩:=yl x H3 y;refine rg x l[i] σ2 H3 _ ρ2 μ2 _ (s2.mono k3) m3 r3 h2 λ ρ4 μ4 σ4 H4 h4 k4 s4 m4=>?_;refine rt σ4 H4 _ ρ4 μ4 _ s4 m4 h4 λ b μ5 H5 h5 k5 m5=>?_;have k15:Kp H1 H5:=k2.trans (k3.trans (k4.trans k5));cases b with
  | false=>exact ⟨l.length - (i + 1),by omega,rfl,hlt,ρ4,μ5,ys,s4.mono k5,m5,k15,h5⟩
  | true =>
   refine re σ4 H5 _ ρ4 μ5 _ (s4.mono k5) m5 h5 λ d μ6 v H6 h6 k6 r6 m6=>?_;obtain ⟨vs,hv,rv⟩:=m6 p ys h6.1;refine ⟨vs,hv,by rw [<- rv.length]; exact hz,l.length - (i + 1),by omega,rfl,hlt,ρ4,_,_,((s4.mono k5).mono k6).mono (Kp.wr hv),m6.wr hv (rv.append (.cons r6 .nil)),(k15.trans k6).trans (Kp.wr hv),h6.2⟩
 ·have e:i=l.length:=by omega
  subst e;rw [List.drop_length] at w2;exact .inl ⟨(ok _ H2 μ2 k2 m2 hS2).2 [18],k _ _ _ _ (hn _ _ _ w2) (k1.trans k2) (.ref p) m2⟩
section
variable {X:Cx} {elt target iter:Expr} {ifs:List Expr} {pos:Pos} {ti:TI3} {g:TG3} {tc:TT3} {te:TE3} {NN:List Str} {scope:Scope} {cl:List (Str × Addr)} {js:List [34]}
theorem un0 (hc:X.calm=true) (S:CompSc X NN scope cl js) (hi:RI X target iter ti) (hg:∀ C fp s₀ H₀ pn,RG [9] target g)
    (ht:∀ C fp s₀ H₀ pn,RTs [9] ifs tc) (he:∀ C fp s₀ H₀ pn,RE [9] elt te)
    (hs:∀ x,foldedSetIterable iter X.env x=pure x):RE X [10] (th0 js ti g tc te):=by
 obtain ⟨wi,pi,ri⟩:=hi
 let gU:TG:=λ v σ H Q=>∀ (r:TG3),r=g->∃ d ρ μ Q3,RSt X.K H ρ σ /\ RelM X.K μ H /\ RelD X.K H d v /\ g d ρ μ Q3 /\ (∀ ρ' μ' σ' H',Q3 ρ' μ'->Kp H H'->RSt X.K H' ρ' σ'->RelM X.K μ' H'->Q σ' H')
 let tU:TT:=λ σ H Q=>∃ ρ μ Q3,RSt X.K H ρ σ /\ RelM X.K μ H /\ tc ρ μ Q3 /\ (∀ b μ' H',Q3 b μ'->Kp H H'->RelM X.K μ' H'->Q b H')
 let eU:TE:=λ σ H Q=>∃ ρ μ Q3,RSt X.K H ρ σ /\ RelM X.K μ H /\ te ρ μ Q3 /\ Ks X.K H Q3 Q
 have hg':∀ C fp s₀ H₀ pn,PG [9] target gU:=λ C fp s₀ H₀ pn=>by
  obtain ⟨tv,p,r⟩:=hg C fp s₀ H₀ pn;intro pins s σ H v u Q I rv h;obtain ⟨d,ρ,μ,Q3,a1,a2,a3,a4,a5⟩:=h g rfl;exact p pins s σ H v u Q I rv (r v d σ H Q ρ μ Q3 a1 a2 a3 a4 a5)
 have ht':∀ C fp s₀ H₀ pn,PTs [9] ifs tU:=λ C fp s₀ H₀ pn=>by
  obtain ⟨tv,p,r⟩:=ht C fp s₀ H₀ pn;intro pins s σ H Q I h;obtain ⟨ρ,μ,Q3,a1,a2,a3,a4⟩:=h;exact p pins s σ H Q I (r σ H Q ρ μ Q3 a1 a2 a3 a4)
 have he':∀ C fp s₀ H₀ pn,PE [9] elt eU:=λ C fp s₀ H₀ pn=>by
  obtain ⟨tv,p,r⟩:=he C fp s₀ H₀ pn;intro pins s σ H Q I h;obtain ⟨ρ,μ,Q3,a1,a2,a3,a4⟩:=h;exact p pins s σ H Q I (r σ H Q ρ μ Q3 a1 a2 a3 a4)
 exact ⟨_,ts2 hc S pi hg' ht' he' hs,RdE.comp ri (λ v d σ H Q ρ μ Q3 a1 a2 a3 a4 a5 _ _=>⟨d,ρ,μ,Q3,a1,a2,a3,a4,a5⟩) (λ σ H Q ρ μ Q3 a1 a2 a3 a4=>⟨ρ,μ,Q3,a1,a2,a3,a4⟩) (λ σ H Q ρ μ Q3 a1 a2 a3 a4=>⟨ρ,μ,Q3,a1,a2,a3,a4⟩)⟩
theorem ul0 (hf:∀ y ∈ scope.names,y.2 ≠ .free) (hcl:∀ y ∈ scope.names,y.2 ≠ .cell) (hn:∀ y ∈ scope.names,y.2=.local->scope.names.lookup y.1=some .local) (hi:RI X target iter ti) (hg:∀ C fp s₀ H₀ pn,RG (zd0 X NN scope [] C fp s₀ H₀ pn) target g)
    (ht:∀ C fp s₀ H₀ pn,RTs (zd0 X NN scope [] C fp s₀ H₀ pn) ifs tc) (he:∀ C fp s₀ H₀ pn,RE (zd0 X NN scope [] C fp s₀ H₀ pn) elt te) (hc:X.calm=true:=by rfl) (hk:scope.kind=.function:=by rfl)
    (hs:∀ x,foldedSetIterable iter X.env x=pure x:=by intro _; rfl):RE X [10] (th0 (NN.map λ _=>none) ti g tc te) :=
 un0 hc (CompSc.closed hf hcl hk hn) hi hg ht he hs
end
mutual
inductive TupK (K:Fg):List D->Addr->Prop where
 | mk {a:Addr} {l:List D} {its:Array Value} {n:Nat} {od:Option Addr} {sl:Array (Option Value)}:K.lookup a=some ⟨.type "tuple",od,.seq its n,sl⟩->its.size<=sizeLine->ItK K l its.toList->TupK K l a
inductive ItK (K:Fg):List D->List Value->Prop where
 | nil:ItK K [] []
 | int {i:Int} {t:Tok} {l:List D} {us:List Value}:ItK K l us->ItK K (.int i :: l) (.int i t :: us)
 | str {x:Str} {t:Tok} {l:List D} {us:List Value}:ItK K l us->ItK K (.str x :: l) (.str x t :: us)
 | bl {b:Bool} {l:List D} {us:List Value}:ItK K l us->ItK K (.bl b :: l) (.bool b :: us)
 | tup {a:Addr} {l' l:List D} {us:List Value}:TupK K l' a->ItK K l us->ItK K (.ktp l' :: l) (.ref a :: us)
end
mutual
theorem TupK.rel {K:Fg}:∀ {l:List D} {a:Addr},TupK K l a->∀ H,RelD K H (.ktp l) (.ref a)
 | _,_,.mk h1 h2 h3,H=>by
  obtain ⟨vs,r,rd⟩:=h3.rel;exact .ktp (.inr ⟨_,_,_,h1,rfl,rfl,h2,r⟩) (rd H)
theorem ItK.rel {K:Fg}:∀ {l:List D} {us:[23]},ItK K l us->∃ vs,Vals vs us /\ ∀ H,RelDs K H l vs
 | _,_,.nil=>⟨[],.nil,λ _=>.nil⟩
 | _,_,.int h=>let ⟨vs,r,rd⟩:=h.rel; ⟨_,.cons (show RelV (.int _) _ from ⟨_,rfl⟩) r,λ H=>.cons (.int _) (rd H)⟩
 | _,_,.str h=>let ⟨vs,r,rd⟩:=h.rel; ⟨_,.cons (show RelV (.str _) _ from ⟨_,rfl⟩) r,λ H=>.cons (.str _) (rd H)⟩
 | _,_,.bl h=>let ⟨vs,r,rd⟩:=h.rel; ⟨_,.cons (show RelV (.bl _) _ from rfl) r,λ H=>.cons (.bl _) (rd H)⟩
 | _,_,.tup h0 h=>let ⟨vs,r,rd⟩:=h.rel; ⟨_,.cons (show RelV (.ref _) _ from rfl) r,λ H=>.cons (h0.rel H) (rd H)⟩
end
section
variable {K:Fg} {h:Heap} {mg:Str->Option Value} {x:Str}
theorem zl3 {i:Int} {t:Tok} (X:K.In h) (G:h.Ns mainGlobals mg) (e:nsIn K mainGlobals x=some (some (.int i t))):Gd K mg x (.int i):=⟨_,.int i,mg_of X G e,⟨_,rfl⟩,λ _=>.int i⟩
theorem yl3 {a:Addr} {l:List D} (X:K.In h) (G:h.Ns mainGlobals mg) (e:nsIn K mainGlobals x=some (some (.ref a))) (r:TupK K l a):Gd K mg x (.ktp l):=⟨_,.ref a,mg_of X G e,rfl,λ H=>r.rel H⟩
end
theorem xa1 {K:Fg} {H:Hp}:∀ ns:List Int,RelDs K H (ns.map D.int) (ns.map V.int)
 | []=>.nil
 | n :: r=>.cons (.int n) (xa1 r)
theorem we2 {K:Fg} {H:Hp} {a:Addr} {ns:List Int} {sp:Sp3} (hO:Only H) (hS:SqL K H a (ns.map V.int)) (h:sp [.fls (ns.map D.int)] (λ _=>none) (λ d _=>d=.bl true)) :
    lift K sp [.ref a] H (λ v _=>v=.bl true) λ _ _ _=>False:=by
 have hF:SqF K H a (ns.map V.int):=by
  rcases hS with (h1 | ⟨o,h1⟩) | h1
  ·rcases hO a with z | ⟨o,xs,z⟩
   ·rw [h1] at z; cases z
   ·rw [h1] at z; cases z
  ·exact .inl ⟨o,h1⟩
  ·exact .inr h1
 refine ⟨_,_,_,.cons (.fls hF (xa1 ns)) .nil,(⟨λ p xs e=>(by cases e),λ p c fs e=>(by cases e),λ p kvs e=>(by cases e),λ p kvs e=>(by cases e)⟩),h,λ d μ' v H' q _ r _=>?_⟩;subst q;cases r;rfl
open PySem.AutoSeq1 (wpAny_loadPart')
theorem tc1 (l:Addr) (items:Array Value) (n:Nat) (dd:Option Addr) (sl:Array (Option Value)) (x:Int) (u:Tok) (hc0:(decide (x < -(2 ^ 63)) || decide (x ≥ 2 ^ 63))=false) (hc1:(items.isEmpty || x == 1)=true) :
    Meets (Builtin.«tuple.__mul__» ⟨[.ref l,.int x u],[]⟩) (λ _ R s=>s.heap.get? l=some { cls:=.type "tuple",dict:=dd,data:=.seq items n,slots:=sl } /\ R (.ok (.ret (.ref l))) s) :=
 .of_wp λ prog w A R s h=>by
  obtain ⟨hp,g,d,tk,os⟩:=s; obtain ⟨hl,h⟩:=h;have f1:=AutoSeq1.idx_int;have f2:=AutoSeq1.sub_tuple_tuple
  wp_walk using wpAny_loadPart' hl
  refine wpAny_ite_false (decide_eq_false (by rw [hc0]; exact Bool.false_ne_true)) ?_
  wp_walk using wpAny_loadPart' hl
  exact ⟨_,rfl,h⟩
theorem uc1 (l:Addr) (items:Array Value) (n:Nat) (dd:Option Addr) (sl:Array (Option Value)) (x:Int) (u:Tok) (hc0:(decide (x < -(2 ^ 63)) || decide (x ≥ 2 ^ 63))=false) (hc1:(items.isEmpty || x == 1)=false) (hc2:(decide (x<=0) || items.isEmpty)=true) :
    Meets (Builtin.«tuple.__mul__» ⟨[.ref l,.int x u],[]⟩) (λ _ R s=>s.heap.get? l=some { cls:=.type "tuple",dict:=dd,data:=.seq items n,slots:=sl } /\ R (.ok (.ret (.ref s.heap.objs.size))) { s with heap:=s.heap.push { cls:=.type "tuple",data:=.seq #[] } }) :=
 .of_wp λ prog w A R s h=>by
  obtain ⟨hp,g,d,tk,os⟩:=s; obtain ⟨hl,h⟩:=h;have f1:=AutoSeq1.idx_int;have f2:=AutoSeq1.sub_tuple_tuple
  wp_walk using wpAny_loadPart' hl
  refine wpAny_ite_false (decide_eq_false (by rw [hc0]; exact Bool.false_ne_true)) ?_
  wp_walk using wpAny_loadPart' hl
  exact ⟨_,rfl,h⟩
theorem vc1 (l:Addr) (items:Array Value) (n:Nat) (dd:Option Addr) (sl:Array (Option Value)) (x:Int) (u:Tok) (hc0:(decide (x < -(2 ^ 63)) || decide (x ≥ 2 ^ 63))=false) (hc1:(items.isEmpty || x == 1)=false) (hc2:(decide (x<=0) || items.isEmpty)=false)
    (hc3:¬ ((items.size:Int) * x > (2 ^ 63 - 1) / 8)) (hc4:Builtin.Tuple.tupleTooMany ((items.size:Int) * x)=false) (hz:((List.replicate x.toNat items).foldl (· ++ ·) #[]).size<=sizeLine) :
    Meets (Builtin.«tuple.__mul__» ⟨[.ref l,.int x u],[]⟩) (λ _ R s=>s.heap.get? l=some { cls:=.type "tuple",dict:=dd,data:=.seq items n,slots:=sl } /\ R (.ok (.ret (.ref s.heap.objs.size))) { s with heap:=s.heap.push { cls:=.type "tuple",data:=.seq ((List.replicate x.toNat items).foldl (· ++ ·) #[]) } }) :=
 .of_wp λ prog w A R s h=>by
  obtain ⟨hp,g,d,tk,os⟩:=s; obtain ⟨hl,h⟩:=h;have f1:=AutoSeq1.idx_int;have f2:=AutoSeq1.sub_tuple_tuple
  wp_walk using wpAny_loadPart' hl
  refine wpAny_ite_false (decide_eq_false (by rw [hc0]; exact Bool.false_ne_true)) ?_
  wp_walk using wpAny_loadPart' hl
  refine wpAny_ite_false (decide_eq_false hc3) ?_
  wp_walk using wpAny_loadPart' hl
  all_goals try (refine wpAny_ite_false (decide_eq_false (by rw [hc4]; exact Bool.false_ne_true)) ?_)
  have hsz:((List.replicate x.toNat items).foldl (· ++ ·) #[]).size<=sizeLine:=hz
  wp_walk using wpAny_loadPart' hl
  exact ⟨_,rfl,h⟩
theorem up0:fillsNumberSlot (.type "tuple") "mul" = pure false :=
 PySem.fillsNumberSlot_seq (id := "tuple.__mul__") (r:=some (.builtin "tuple.__rmul__")) F.slot_tuple_mul.lookup [13] F.slot_tuple_rmul.lookup [13]
theorem zp0:seqRepeat? (.type "tuple")=pure (some (.builtin "tuple.__mul__")):=by
 unfold seqRepeat?;rw [PySem.seqSlot_of F.slot_tuple_mul.lookup (T := "tuple") (name := "__mul__") (id := "tuple.__mul__") [13],PySem.seqSlot_of F.slot_tuple_rmul.lookup (T := "tuple") (name := "__rmul__") (id := "tuple.__rmul__") [13]];rfl
theorem zr0 (a:Int) (t:Tok) (l:Addr) (its:Array Value) (n:Nat) (dd:Option Addr) (sl:Array (Option Value)) :
    Meets (Builtin.«int.__rmul__» ⟨[.int a t,.ref l],[]⟩) (λ _ R s=>s.heap.get? l=some ⟨.type "tuple",dd,.seq its n,sl⟩ /\ R (.ok (.ret .notImplemented)) s) :=
 .of_wp λ prog w A R s h=>by
  obtain ⟨hp,g,d,tk,os⟩:=s;obtain ⟨hl,h⟩:=h
  wp_walk using wpAny_loadPart' hl
  exact ⟨_,rfl,h⟩
section
variable {X:Cx}
def uu3 (K:Fg):R2:=λ x y H Q=>∃ a k xs,x=.ref a /\ y=.int k /\ SqT K H a xs /\ -(2 ^ 62)<=k /\ k < 2 ^ 62 /\ xs.length * k.toNat<=1000000 /\ (xs=[] \/ k=1->Q (.ref a) H) /\ ∀ p,H p=none->Q (.ref p) (upd H p (.tup (List.replicate k.toNat xs).flatten))
theorem op_repT:OpR X (binaryOp .Mult) (uu3 X.K):=by
 intro pins s σ H x y v u Q I rx ry h;obtain ⟨a,k,xs,rfl,rfl,hq,h1,h2,hz,q1,q2⟩:=h;cases rx;obtain ⟨t,rfl⟩:=ry;obtain ⟨its,r,⟨⟨cls,dd,data,sl⟩,ho,hc,n,hd⟩,hl⟩:=I.tuple hq;simp only at hc hd;subst hc hd;have hlen:its.length=xs.length:=r.length.symm
 have c0:(decide (k < -(2 ^ 63)) || decide (k ≥ 2 ^ 63))=false:=by
  rw [decide_eq_false [1],decide_eq_false [1]]; rfl
 refine wpAny_binaryOp_repeat_ref (T := "tuple") (U := "int") [20] ⟨_,ho,rfl⟩ (λ s'=>typeIs_int s' k t) up0 F.fills_int_mul F.slot_int_rmul zp0 F.slot_int_index.lookup
  (call_meets F.slot_int_rmul (typeIs_int s k t) F.entry_int_rmul (F.args_int_rmul_2 _ _) (zr0 k t a its.toArray n dd sl) ⟨ho,rfl,⟨_,ho,rfl⟩,?_⟩)
 by_cases e1:xs=[] \/ k=1
 ·refine call_meets F.slot_tuple_mul ⟨_,ho,rfl⟩ F.entry_tuple_mul (F.args_tuple_mul_2 _ _) (tc1 a its.toArray n dd sl k t c0 ?_) ⟨ho,⟨.ref a,H,I,rfl,q1 e1⟩⟩;rcases e1 with e1 | e1
  ·subst e1; cases r; rfl
  ·subst e1; simp
 ·have hne:its ≠ []:=λ z=>e1 (.inl (by subst z; cases r; rfl));have hk1:k ≠ 1:=λ z=>e1 (.inr z);have c1:(its.toArray.isEmpty || k == 1)=false:=by simp [hne,hk1]
  have hf:H s.heap.objs.size=none:=I.hok.fresh [18];by_cases e2:k<=0
  ·have hk0:k.toNat=0:=by omega
   refine call_meets F.slot_tuple_mul ⟨_,ho,rfl⟩ F.entry_tuple_mul (F.args_tuple_mul_2 _ _) (uc1 a its.toArray n dd sl k t c0 c1 (by simp [e2])) ⟨ho,?_⟩;refine ⟨.ref _,upd H s.heap.objs.size (.tup []),I.laid (t':=s.toks) (λ b ob q=>Heap.get?_push_of_some _ q) [18] ⟨by rw [sizeLine_eq]; decide,[],.nil,IsTup.new _ _⟩,rfl,?_⟩;have:=q2 _ hf;rw [hk0] at this;exact this
  ·have fr:List.foldl (· ++ ·) #[] (List.replicate k.toNat its.toArray)=(List.replicate k.toNat its).flatten.toArray:=by
     have:=wq0 its k.toNat [];rw [nil_append] at this;exact this
   have hb:(1000000:Nat)<=sizeLine:=by rw [sizeLine_eq]; decide
   have hm:(its.toArray.size:Int) * k<=1000000:=by
    rw [size_toArray,hlen];have:((xs.length * k.toNat:Nat):Int)<=1000000:=by omega
    rw [Int.natCast_mul,Int.toNat_of_nonneg [1]] at this;exact this
   have hsz:(List.replicate k.toNat its).flatten.length<=sizeLine:=by rw [ze1,Nat.mul_comm,hlen]; omega
   refine call_meets F.slot_tuple_mul ⟨_,ho,rfl⟩ F.entry_tuple_mul (F.args_tuple_mul_2 _ _) (vc1 a its.toArray n dd sl k t c0 c1 (by simp [hne]; omega) [1] ?_ (by rw [fr,size_toArray]; exact hsz)) ⟨ho,?_⟩
   ·unfold Builtin.Tuple.tupleTooMany;rw [decide_eq_false [1]]
   ·rw [fr];refine ⟨.ref _,upd H s.heap.objs.size (.tup (List.replicate k.toNat xs).flatten),I.laid (t':=s.toks) (λ b ob q=>Heap.get?_push_of_some _ q) [18] ⟨?_,_,r.rep k.toNat,IsTup.new _ _⟩,rfl,q2 _ hf⟩;rw [ze1,Nat.mul_comm]; omega
theorem wy0:RO X (binaryOp .Mult) mulR:=by
 refine ⟨_,op_mulB.or (op_repT.or uh3),λ x y v u H Q μ Q3 m rx ry h k=>?_⟩;cases ry with
 | int j =>
  cases rx with
  | int i=>exact .inl ⟨i,j,rfl,rfl,h.1,k _ _ _ _ h.2 (Kp.refl _) (.int _) m⟩
  | tup hq rs =>
   rename_i a l vs;refine .inr (.inl ⟨a,j,vs,rfl,rfl,(SqT.of hq),h.1.1.1,h.1.1.2,by rw [<- rs.length]; exact h.1.2,λ e=>?_,λ p hp=>?_⟩)
   ·rcases e with e | e
    ·subst e; cases rs;have h2:=h.2;have e:(List.replicate j.toNat ([]:List D)).flatten=[]:=by simp
     rw [e] at h2;exact k _ _ _ _ h2 (Kp.refl _) (.tup hq .nil) m
    ·subst e;have h2:=h.2;have e:(List.replicate (1:Int).toNat l).flatten=l:=by simp
     rw [e] at h2;exact k _ _ _ _ h2 (Kp.refl _) (.tup hq rs) m
   ·exact k _ _ _ _ h.2 (Kp.new hp) (.tup ve0 ((rs.rep _).mono (Kp.new hp))) (m.newT hp)
  | ref p =>
   dsimp only [mulR] at h;cases e:μ p with
   | none=>rw [e] at h; exact h.elim
   | some oo =>
    cases oo with
    | ins _ _=>rw [e] at h; exact h.elim
    | dcp _=>rw [e] at h; exact h.elim
    | dcl _=>rw [e] at h; exact h.elim
    | lst l =>
     rw [e] at h;obtain ⟨vs,hv,rv⟩:=m p l e;have hb:(1000000:Nat)<=sizeLine:=by rw [sizeLine_eq]; decide
     refine .inr (.inr ⟨p,j,vs,rfl,rfl,hv,by have:=h.1.1.1; omega,by have:=h.1.1.2; omega,by rw [<- rv.length]; exact Nat.le_trans h.1.2 hb,λ t ht=>?_⟩);exact k _ _ _ _ (h.2 t (m.free ht)) (Kp.new ht) (.ref t) (m.newL ht (rv.rep _))
  | _=>exact False.elim h
 | _=>cases rx <;> exact False.elim h
end
open PySem.AutoSeq1 (wpAny_loadPart')
end Pv
namespace Ms
open PySem.W PyProof.Rows
def run (lt:Nat->Nat->Bool) {α:Type}:KasT α->α
 | .ret a=>a
 | .ask i j k=>run lt (k (lt i j))
theorem sg1 (lt:Nat->Nat->Bool) {α β:Type} (f:α->KasT β):∀ t:KasT α,run lt (t.bind f)=run lt (f (run lt t))
 | .ret _=>rfl
 | .ask i j k=>sg1 lt f (k (lt i j))
structure Ord (lt:Nat->Nat->Bool):Prop where
 ir:∀ a,lt a a=false
 tr:∀ a b c,lt a b=true->lt b c=true->lt a c=true
 ng:∀ a b c,lt a c=true->lt a b=true \/ lt b c=true
section
variable {lt:Nat->Nat->Bool} (O:Ord lt)
abbrev at' (p:Array Nat) (i:Nat):Nat:=p.getD i 0
def le (lt:Nat->Nat->Bool) (a b:Nat):Prop:=lt b a=false
include O
theorem le_rf (a:Nat):le lt a a:=O.ir a
theorem le_tr {a b c:Nat} (h:le lt a b) (k:le lt b c):le lt a c:=by
 unfold le at *;cases e:lt c a with
 | false=>rfl
 | true =>
  rcases O.ng c b a e with h1 | h1
  ·rw [k] at h1; cases h1
  ·rw [h] at h1; cases h1
theorem yx3 {a b:Nat} (h:lt a b=true):le lt a b:=by
 unfold le;cases e:lt b a with
 | false=>rfl
 | true=>have:=O.tr a b a h e; rw [O.ir] at this; cases this
omit O
def Up (lt:Nat->Nat->Bool) (p:Array Nat) (n:Nat):Prop:=∀ a b,a<=b->b < n->le lt (at' p a) (at' p b)
theorem vx2 {p q:Array Nat} {i j:Nat} (h:p[i]?=q[j]?):at' p i=at' q j:=by
 show p.getD i 0=q.getD j 0;rw [Array.getD_eq_getD_getElem?,Array.getD_eq_getD_getElem?,h]
theorem zn2 {p:Array Nat} {k l:Nat} (hk:k < p.size) (hl:l<=k) (i:Nat):at' (bubble p k (k - l)) i=if i=l then at' p k else if l < i /\ i<=k then at' p (i - 1) else at' p i:=by
 have h:=getElem?_bubble (xs:=p) hk (k - l) [1] i;rw [show k - (k - l)=l by omega] at h;by_cases c:i=l
 ·rw [if_pos c] at h ⊢; exact vx2 h
 ·rw [if_neg c] at h ⊢;by_cases c2:l < i /\ i<=k
  ·rw [if_pos c2] at h ⊢; exact vx2 h
  ·rw [if_neg c2] at h ⊢; exact vx2 h
include O
theorem vn2 {p:Array Nat} {n:Nat} (h:Up lt p n) (h1:1<=n) (k:le lt (at' p (n - 1)) (at' p n)):Up lt p (n + 1):=λ a b hab hb=>by
 by_cases e:b=n
 ·subst e;by_cases e2:a=b
  ·subst e2; exact le_rf O _
  ·exact le_tr O (h a (b - 1) [1] [1]) k
 ·exact h a b hab [1]
theorem yk1 (p:Array Nat):∀ (f n:Nat),1<=n->Up lt p n->n<=run lt (kas_asc p f n) /\ run lt (kas_asc p f n)<=n + f /\ Up lt p (run lt (kas_asc p f n)) /\ (run lt (kas_asc p f n) < n + f->lt (at' p (run lt (kas_asc p f n))) (at' p (run lt (kas_asc p f n) - 1))=true)
 | 0,n,h1,h=>⟨Nat.le_refl _,Nat.le_refl _,h,λ z=>absurd z (Nat.lt_irrefl _)⟩
 | f + 1,n,h1,h=>by
  cases e:lt (at' p n) (at' p (n - 1)) with
  | true =>
   have r:run lt (kas_asc p (f + 1) n)=n:=by
    show run lt (if lt (at' p n) (at' p (n - 1))=true then .ret n else kas_asc p f (n + 1))=n;rw [e]; rfl
   rw [r];exact ⟨Nat.le_refl _,by omega,h,λ _=>e⟩
  | false =>
   have r:run lt (kas_asc p (f + 1) n)=run lt (kas_asc p f (n + 1)):=by
    show run lt (if lt (at' p n) (at' p (n - 1))=true then .ret n else kas_asc p f (n + 1))=_;rw [e]; rfl
   rw [r];obtain ⟨a1,a2,a3,a4⟩:=yk1 p f (n + 1) [1] (vn2 O h h1 e);exact ⟨by omega,by omega,a3,λ z=>a4 [1]⟩
omit O
include O
omit O
include O
omit O
include O
theorem sv0 {p:Array Nat} {k:Nat} (h:Up lt p k):∀ (f l r:Nat),l<=r->r<=k->r - l<=f->(∀ a,a < l->le lt (at' p a) (at' p k))->(∀ b,r<=b->b < k->lt (at' p k) (at' p b)=true) ->
    run lt (kas_place p k f l r)<=k /\ (∀ a,a < run lt (kas_place p k f l r)->le lt (at' p a) (at' p k)) /\ ∀ b,run lt (kas_place p k f l r)<=b->b < k->lt (at' p k) (at' p b)=true
 | 0,l,r,hlr,hrk,hf,h1,h2=>⟨by show l<=k; omega,h1,λ b hb1 hb2=>h2 b (by have:l<=b:=hb1; omega) hb2⟩
 | f + 1,l,r,hlr,hrk,hf,h1,h2=>by
  by_cases c:l ≥ r
  ·have e:run lt (kas_place p k (f + 1) l r)=l:=by
     show run lt (if l ≥ r then .ret l else _)=l;rw [if_pos c]; rfl
   rw [e];exact ⟨by omega,h1,λ b hb1 hb2=>h2 b [1] hb2⟩
  ·cases e:lt (at' p k) (at' p ((l + r) / 2)) with
   | true =>
    have e2:run lt (kas_place p k (f + 1) l r)=run lt (kas_place p k f l ((l + r) / 2)):=by
     show run lt (if l ≥ r then .ret l else .ask (at' p k) (at' p ((l + r) / 2)) λ c=>if c=true then kas_place p k f l ((l + r) / 2) else kas_place p k f ((l + r) / 2 + 1) r)=_;rw [if_neg c];show run lt (if lt (at' p k) (at' p ((l + r) / 2))=true then _ else _)=_;rw [e,if_pos rfl]
    rw [e2];refine sv0 h f l ((l + r) / 2) [1] [1] [1] h1 λ b hb1 hb2=>?_;have z:=h ((l + r) / 2) b hb1 hb2;rcases O.ng (at' p k) (at' p b) (at' p ((l + r) / 2)) e with y | y
    ·exact y
    ·unfold le at z; rw [z] at y; cases y
   | false =>
    have e2:run lt (kas_place p k (f + 1) l r)=run lt (kas_place p k f ((l + r) / 2 + 1) r):=by
     show run lt (if l ≥ r then .ret l else .ask (at' p k) (at' p ((l + r) / 2)) λ c=>if c=true then kas_place p k f l ((l + r) / 2) else kas_place p k f ((l + r) / 2 + 1) r)=_;rw [if_neg c];show run lt (if lt (at' p k) (at' p ((l + r) / 2))=true then _ else _)=_;rw [e,if_neg [20]]
    rw [e2];exact sv0 h f ((l + r) / 2 + 1) r [1] hrk [1] (λ a ha=>le_tr O (h a ((l + r) / 2) [1] [1]) e) h2
theorem vz1 {p0:Array Nat}:∀ (f:Nat) (p:Array Nat) (k:Nat),p.Perm p0->1<=k->k + f<=p0.size->Up lt p k->(run lt (kas_bin f p k)).Perm p0 /\ Up lt (run lt (kas_bin f p k)) (k + f)
 | 0,p,k,hp,h1,hs,h=>⟨hp,h⟩
 | f + 1,p,k,hp,h1,hs,h=>by
  have hsz:p.size=p0.size:=hp.size_eq
  have e:run lt (kas_bin (f + 1) p k)=run lt (kas_bin f (bubble p k (k - run lt (kas_place p k k 0 k))) (k + 1)):=by
   show run lt ((kas_place p k k 0 k).bind λ l=>kas_bin f (bubble p k (k - l)) (k + 1))=_;rw [sg1]
  rw [e];obtain ⟨b1,b2,b3⟩:=sv0 O h k 0 k [1] [18] [1] (λ a ha=>absurd ha (Nat.not_lt_zero _)) (λ b hb1 hb2=>by omega);generalize run lt (kas_place p k k 0 k)=l at b1 b2 b3
  have u:Up lt (bubble p k (k - l)) (k + 1):=λ a b hab hb=>by
   rw [zn2 [1] b1,zn2 [1] b1];by_cases ca:a=l
   ·rw [if_pos ca];by_cases cb:b=l
    ·rw [if_pos cb]; exact le_rf O _
    ·rw [if_neg cb,if_pos ⟨by omega,by omega⟩]; exact yx3 O (b3 _ [1] [1])
   ·rw [if_neg ca];by_cases cb:b=l
    ·rw [if_pos cb,if_neg [1]]; exact b2 _ [1]
    ·rw [if_neg cb];by_cases ca2:l < a /\ a<=k
     ·rw [if_pos ca2,if_pos ⟨by omega,by omega⟩]; exact h _ _ [1] [1]
     ·rw [if_neg ca2];by_cases cb2:l < b /\ b<=k
      ·rw [if_pos cb2]; exact h _ _ [1] [1]
      ·rw [if_neg cb2]; exact h _ _ [1] [1]
  have z:=vz1 f (bubble p k (k - l)) (k + 1) ((bubble_perm _ _ _).trans hp) [1] [1] u;rw [show k + 1 + f=k + (f + 1) by omega] at z;exact z
end
end Ms
namespace Ts
open PySem PyProof.Rows
section
variable {α:Type} {Md:Model} {A:Around} {E:[2]} {s:Shared} {C:Prop} [Decidable C] {t e:StateT SortSt Sem α} {Q:α->SortSt->Prop} {st:SortSt}
theorem wt0 (c:C) (h:wpS Md A E s t Q st):wpS Md A E s (if C then t else e) Q st:=by rw [if_pos c]; exact h
theorem vt0 (c:¬ C) (h:wpS Md A E s e Q st):wpS Md A E s (if C then t else e) Q st:=by rw [if_neg c]; exact h
theorem yc0 (h1:C->wpS Md A E s t Q st) (h2:¬ C->wpS Md A E s e Q st):wpS Md A E s (if C then t else e) Q st:=by
 by_cases c:C
 ·exact wt0 c (h1 c)
 ·exact vt0 c (h2 c)
end
section
variable {M:Model} {A:Around} {E:[2]} {s:Shared} {σ:Type}
theorem xh0 {α β:Type} {m:StateT σ Sem α} {k:α->StateT σ Sem β} {P:α->σ->Prop} {Q:β->σ->Prop} {st:σ} (h:wpS M A E s m P st) (g:∀ F,F=k->∀ a st,P a st->wpS M A E s (F a) Q st):wpS M A E s (m >>= k) Q st:=wpS_bind (wpS_mono h (g k rfl))
theorem yj0 {β:Type} {a b:Nat} {f:Nat->β->StateT σ Sem (ForInStep β)} (I:Nat->β->σ->Prop) {Q:β->σ->Prop} (h:∀ F,F=f->∀ (i:Nat) (c:β) (st:σ),a<=i->i < b->I i c st->wpS M A E s (F i c) (λ r st'=>match r with | .done c'=>Q c' st' | .yield c'=>I (i + 1) c' st') st) (l:∀ c st,I (max a b) c st->Q c st) {c:β} {st:σ} (i:I a c st):wpS M A E s (forIn [a:b] c f) Q st:=wpS_forRange I (h f rfl) l i
end
def gal:Bool->Keyed->Array Keyed->Nat->Nat->Nat->StateT SortSt Sem [34]:=sortPriv% PySem.Builtin.gallop
section
variable {prog:Program} {w:World} {A:Around} {E:[2]} {s:Shared} {κ:SortKind}
structure Cm (prog:Program) (w:World) (A:Around) (s:Shared) (κ:SortKind) (lt:Keyed->Keyed->Bool) (M:Keyed->Prop):Prop where
 ask:∀ x y,M x->M y->∀ C:Bool->Shared->Prop,C (lt x y) s->wpAny (model prog w) A (keyLt' κ x.1 y.1) C (λ _ _=>False) s
 ir:∀ x,lt x x=false
 tr:∀ x y z,lt x y=true->lt y z=true->lt x z=true
 ng:∀ x y z,lt x z=true->lt x y=true \/ lt y z=true
variable {lt:Keyed->Keyed->Bool} {M:Keyed->Prop}
def le (lt:Keyed->Keyed->Bool) (x y:Keyed):Prop:=lt y x=false
theorem Cm.rf (c:[26]) (x:Keyed):le lt x x:=c.ir x
theorem Cm.lt_le (c:[26]) {x y:Keyed} (h:lt x y=true):le lt x y:=by
 unfold le;cases e:lt y x with
 | false=>rfl
 | true=>have:=c.tr x y x h e; rw [c.ir] at this; cases this
theorem Cm.le_tr (c:[26]) {x y z:Keyed} (h:le lt x y) (k:le lt y z):le lt x z:=by
 unfold le at h k ⊢;cases e:lt z x with
 | false=>rfl
 | true =>
  rcases c.ng z y x e with q | q
  ·rw [k] at q; cases q
  ·rw [h] at q; cases q
structure Ok (κ:SortKind) (st:SortSt):Prop where
 kd:kindOf st=κ
 fl:failedOf st=none
theorem zs1 (c:[26]) {x y:Keyed} {st:SortSt} {Q:Option Bool->SortSt->Prop} (o:Ok κ st) (hx:M x) (hy:M y) (h:Q (some (lt x y)) st):wpS [4] A E s (lt' x y) Q st:=by
 rw [lt'_eq];refine wpS_bind (wpS_get ?_);rw [o.kd];refine wpS_bind (wpS_lift (wpAny_attempt (wpAny_mono (c.ask x y hx hy (λ b s'=>s'=s /\ b=lt x y) ⟨rfl,rfl⟩) (λ b s' hb=>?_) λ _ _ hF=>hF.elim)));obtain ⟨rfl,rfl⟩:=hb;exact ⟨rfl,wpS_pure h⟩
theorem yd0 {arr:Array Keyed} {i:Nat} {x:Keyed} {st:SortSt} {Q:Keyed->SortSt->Prop} (hi:arr[i]?=some x) (h:Q x st):wpS [4] A E s (elem' arr i) Q st:=by
 rw [elem'_eq,hi];exact wpS_pure h
structure By (lt:Keyed->Keyed->Bool) (M:Keyed->Prop) (l:Bool) (key:Keyed) (arr:Array Keyed) (base n:Nat) (B:Nat->Bool):Prop where
 ky:M key
 it:∀ i,i < n->∃ x,arr[base + i]?=some x /\ M x /\ B i=(if l=true then lt x key else !lt key x)
 mono:∀ i j,i<=j->j < n->B j=true->B i=true
theorem By.no {l:Bool} {key:Keyed} {arr:Array Keyed} {base n:Nat} {B:Nat->Bool} (b:By lt M l key arr base n B) {i j:Nat} (h:i<=j) (hj:j < n) (k:B i=false):B j=false:=by
 cases e:B j with
 | false=>rfl
 | true=>have:=b.mono i j h hj e; rw [k] at this; cases this
theorem xk1 (c:[26]) {l:Bool} {key:Keyed} {arr:Array Keyed} {base n:Nat} {B:Nat->Bool} (b:By lt M l key arr base n B) {i:Nat} (hi:i < n) {st:SortSt} {Q:Option Bool->SortSt->Prop} (o:Ok κ st) (h:Q (some (B i)) st) :
    wpS [4] A E s (elem' arr (base + i) >>= λ x=>if l=true then lt' x key else lt' key x >>= λ r=>pure (r.map λ y=>!y)) Q st:=by
 obtain ⟨x,ex,mx,e⟩:=b.it i hi;refine wpS_bind (yd0 ex ?_);cases l with
 | true =>
  refine wt0 rfl ?_;rw [if_pos rfl] at e;exact zs1 c o mx b.ky (e ▸ h)
 | false =>
  refine vt0 [24] ?_;rw [if_neg [24]] at e;exact wpS_bind (zs1 c o b.ky mx (wpS_pure (by rw [e] at h; exact h)))
theorem yt0 (c:[26]) {l:Bool} {key:Keyed} {arr:Array Keyed} {base n hint:Nat} {st:SortSt} {Q:Option Nat->SortSt->Prop} {B:Nat->Bool} (o:Ok κ st) (b:By lt M l key arr base n B) (hh:hint < n)
    (h:∀ k,k<=n->(∀ i,i < k->B i=true)->(∀ i,k<=i->i < n->B i=false)->Q (some k) st):wpS [4] A E s (gal l key arr base n hint) Q st:=by
 refine wpS_bind (xk1 c b hh o ?_)
 have tail:∀ lo hi:Nat,lo<=hi->hi<=n->(∀ i,i < lo->B i=true)->(∀ i,hi<=i->i < n->B i=false)->∀ (f:Nat->Option [34] × Nat × Nat->StateT SortSt Sem (ForInStep (Option [34] × Nat × Nat))),
     (∀ x lo hi,lo < hi->hi<=n->f x (none,lo,hi)=((elem' arr (base + (lo + (hi - lo) / 2)) >>= λ x=>if l=true then lt' x key else lt' key x >>= λ r=>pure (r.map λ y=>!y)) >>= λ r=>match r with
      | some true=>pure (.yield (none,lo + (hi - lo) / 2 + 1,hi))
      | some false=>pure (.yield (none,lo,lo + (hi - lo) / 2))
      | none=>pure (.done (some none,lo,hi))))->(∀ x lo hi,¬ lo < hi->f x (none,lo,hi)=pure (.done (none,lo,hi))) ->
     wpS [4] A E s (forIn [0:n] (none,lo,hi) f) (λ r st'=>st'=st /\ r.1=none /\ r.2.2<=n /\ (∀ i,i < r.2.2->B i=true) /\ ∀ i,r.2.2<=i->i < n->B i=false) st:=by
  intro lo hi h1 h2 h3 h4 f f1 f2;refine wpS_forRange (λ x r st'=>st'=st /\ r.1=none /\ r.2.1<=r.2.2 /\ r.2.2<=n /\ r.2.2 - r.2.1<=n - x /\ (∀ i,i < r.2.1->B i=true) /\ ∀ i,r.2.2<=i->i < n->B i=false) ?_ ?_ ⟨rfl,rfl,h1,h2,by show hi - lo<=n - 0; omega,h3,h4⟩
  ·rintro x ⟨r,lo,hi⟩ st' _ hx ⟨rfl,rfl,a1,a2,a3,a4,a5⟩;dsimp only at a1 a2 a3 a4 a5;by_cases z:lo < hi
   ·rw [f1 x lo hi z a2];have hm:lo + (hi - lo) / 2 < n:=by omega
    refine wpS_bind (xk1 c b hm o ?_);cases e:B (lo + (hi - lo) / 2) with
    | true=>exact wpS_pure ⟨rfl,rfl,by show _ + 1<=hi; omega,a2,by show hi - (_ + 1)<=_; omega,λ i hi'=>b.mono i _ (by show i<=_; have:i < _ + 1:=hi'; omega) hm e,a5⟩
    | false=>exact wpS_pure ⟨rfl,rfl,by show lo<=lo + (hi - lo) / 2; omega,by show lo + (hi - lo) / 2<=n; omega,by show lo + (hi - lo) / 2 - lo<=_; omega,a4,λ i h5 h6=>b.no h5 h6 e⟩
   ·rw [f2 x lo hi z];have:lo=hi:=by have:lo<=hi:=a1; omega
    subst this;exact wpS_pure ⟨rfl,rfl,a2,a4,a5⟩
  ·rintro ⟨r,lo,hi⟩ st' ⟨rfl,rfl,a1,a2,a3,a4,a5⟩;have a1':lo<=hi:=a1;have a3':hi - lo<=n - max 0 n:=a3;have:lo=hi:=by omega
   subst this;exact ⟨rfl,rfl,a2,a4,a5⟩
 have fin:∀ lo hi:Nat,lo<=hi->hi<=n->(∀ i,i < lo->B i=true)->(∀ i,hi<=i->i < n->B i=false)->∀ (f:Nat->Option [34] × Nat × Nat->StateT SortSt Sem (ForInStep (Option [34] × Nat × Nat))) (g:Option [34] × Nat × Nat->StateT SortSt Sem [34]),
     (∀ x lo hi,lo < hi->hi<=n->f x (none,lo,hi)=((elem' arr (base + (lo + (hi - lo) / 2)) >>= λ x=>if l=true then lt' x key else lt' key x >>= λ r=>pure (r.map λ y=>!y)) >>= λ r=>match r with
      | some true=>pure (.yield (none,lo + (hi - lo) / 2 + 1,hi))
      | some false=>pure (.yield (none,lo,lo + (hi - lo) / 2))
      | none=>pure (.done (some none,lo,hi))))->(∀ x lo hi,¬ lo < hi->f x (none,lo,hi)=pure (.done (none,lo,hi))) ->
     (∀ lo hi,g (none,lo,hi)=pure (some hi))->wpS [4] A E s (forIn [0:n] (none,lo,hi) f >>= g) Q st:=by
  intro lo hi h1 h2 h3 h4 f g f1 f2 g1;refine wpS_bind (wpS_mono (tail lo hi h1 h2 h3 h4 f f1 f2) ?_);rintro ⟨r,lo,hi⟩ st' ⟨rfl,rfl,a2,a4,a5⟩;rw [g1];exact wpS_pure (h hi a2 a4 a5)
 cases e:B hint with
 | true =>
  refine wpS_bind (wpS_mono (wpS_forRange (λ x (r:Option [34] × Nat × Nat) st'=>st'=st /\ r.1=none /\ r.2.1 < r.2.2 /\ x + 1<=r.2.2 /\ hint + r.2.1 < n /\ B (hint + r.2.1)=true) (Q:=λ (r:Option [34] × Nat × Nat) st'=>st'=st /\ r.1=none /\ r.2.1 < r.2.2 /\ hint + r.2.1 < n /\ B (hint + r.2.1)=true /\ (n - hint<=r.2.2 \/ (hint + r.2.2 < n /\ B (hint + r.2.2)=false))) ?_ ?_ ⟨rfl,rfl,by decide,by decide,hh,e⟩) ?_)
  ·rintro x ⟨r,la,of⟩ st' _ hx ⟨rfl,rfl,a1,a2,a3,a4⟩;dsimp only at a1 a2 a3 a4 ⊢;refine yc0 (λ z=>?_) λ z=>?_
   ·exact wpS_pure ⟨rfl,rfl,a1,a3,a4,.inl z⟩
   ·have hm:hint + of < n:=by omega
    refine wpS_bind (xk1 c b hm o ?_);cases e2:B (hint + of) with
    | true=>exact wpS_pure ⟨rfl,rfl,by show of < 2 * of + 1; omega,by show _<=2 * of + 1; omega,hm,e2⟩
    | false=>exact wpS_pure ⟨rfl,rfl,a1,a3,a4,.inr ⟨hm,e2⟩⟩
  ·rintro ⟨r,la,of⟩ st' ⟨rfl,rfl,a1,a2,a3,a4⟩;exact ⟨rfl,rfl,a1,a3,a4,.inl (by have:max 0 n + 1<=of:=a2; show n - hint<=of; omega)⟩
  ·rintro ⟨r,la,of⟩ st' ⟨rfl,rfl,a1,a3,a4,a5⟩;dsimp only at a1 a3 a4 a5 ⊢;refine fin (hint + la + 1) (hint + min of (n - hint)) [1] [1] (λ i hi=>b.mono i _ [1] a3 a4) (λ i h5 h6=>?_) _ _ ?_ ?_ ?_
   ·rcases a5 with z | ⟨z1,z2⟩
    ·omega
    ·exact b.no [1] h6 z2
   ·intro x lo hi z _;dsimp only;rw [if_neg [1]];refine congrArg _ (funext λ r=>?_);rcases r with _ | _ | _ <;> rfl
   ·intro x lo hi z;dsimp only;rw [if_pos [1]]
   ·intro lo hi; rfl
 | false =>
  refine wpS_bind (wpS_mono (wpS_forRange (λ x (r:Option [34] × Nat × Nat) st'=>st'=st /\ r.1=none /\ r.2.1 < r.2.2 /\ x + 1<=r.2.2 /\ r.2.1<=hint /\ B (hint - r.2.1)=false) (Q:=λ (r:Option [34] × Nat × Nat) st'=>st'=st /\ r.1=none /\ r.2.1 < r.2.2 /\ r.2.1<=hint /\ B (hint - r.2.1)=false /\ (hint + 1<=r.2.2 \/ (r.2.2<=hint /\ B (hint - r.2.2)=true))) ?_ ?_ ⟨rfl,rfl,by decide,by decide,Nat.zero_le _,e⟩) ?_)
  ·rintro x ⟨r,la,of⟩ st' _ hx ⟨rfl,rfl,a1,a2,a3,a4⟩;dsimp only at a1 a2 a3 a4 ⊢;refine yc0 (λ z=>?_) λ z=>?_
   ·exact wpS_pure ⟨rfl,rfl,a1,a3,a4,.inl z⟩
   ·have hm:hint - of < n:=by omega
    refine wpS_bind (xk1 c b hm o ?_);cases e2:B (hint - of) with
    | false=>exact wpS_pure ⟨rfl,rfl,by show of < 2 * of + 1; omega,by show _<=2 * of + 1; omega,by show of<=hint; omega,e2⟩
    | true=>exact wpS_pure ⟨rfl,rfl,a1,a3,a4,.inr ⟨by show of<=hint; omega,e2⟩⟩
  ·rintro ⟨r,la,of⟩ st' ⟨rfl,rfl,a1,a2,a3,a4⟩;exact ⟨rfl,rfl,a1,a3,a4,.inl (by have:max 0 n + 1<=of:=a2; show hint + 1<=of; omega)⟩
  ·rintro ⟨r,la,of⟩ st' ⟨rfl,rfl,a1,a3,a4,a5⟩;dsimp only at a1 a3 a4 a5 ⊢;refine fin (hint + 1 - min of (hint + 1)) (hint - la) [1] [1] (λ i hi=>?_) (λ i h5 h6=>b.no h5 h6 a4) _ _ ?_ ?_ ?_
   ·rcases a5 with z | ⟨z1,z2⟩
    ·omega
    ·exact b.mono i _ [1] [1] z2
   ·intro x lo hi z _;dsimp only;rw [if_neg [1]];refine congrArg _ (funext λ r=>?_);rcases r with _ | _ | _ <;> rfl
   ·intro x lo hi z;dsimp only;rw [if_pos [1]]
   ·intro lo hi; rfl
end
def mlo:Array Keyed->Array Keyed->StateT SortSt Sem (Array Keyed):=sortPriv% PySem.Builtin.mergeLo
abbrev GR:=Option (Array Keyed) × Array Keyed × Nat × Nat × Nat × Nat × Nat
def galC (a b:Array Keyed) (k1 k:Nat) (u:Array Keyed) (i j g:Nat):StateT SortSt Sem (ForInStep GR) :=
 let nx:Array Keyed->Nat->StateT SortSt Sem (ForInStep GR):=λ u j=>elem' a i >>= λ v =>
  if (i + 1 + 1 == a.size)=true then pure (.done (some (u.push v ++ b.extract j b.size ++ a.extract (i + 1) a.size),u.push v,i + 1,j,g,k1,k))
  else if (decide (k1 < 7) && decide (k < 7))=true then pure (.done (none,u.push v,i + 1,j,g,k1,k)) else pure (.yield (none,u.push v,i + 1,j,g,k1,k))
 if k > 0 then (if (j + k == b.size)=true then pure (.done (some (u ++ b.extract j (j + k) ++ a.extract i a.size ++ b.extract (j + k) b.size),u ++ b.extract j (j + k),i,j + k,g,k1,k)) else nx (u ++ b.extract j (j + k)) (j + k)) else nx u j
theorem vg0 {α:Type} {l:List α} {i:Nat} {x:α} (h:l[i]?=some x):l.drop i=x :: l.drop (i + 1):=by
 obtain ⟨h1,h2⟩:=List.getElem?_eq_some_iff.mp h;rw [List.drop_eq_getElem_cons h1,h2]
section
variable {lt:Keyed->Keyed->Bool}
structure MI (lt:Keyed->Keyed->Bool) (la lb out:List Keyed) (ia ib:Nat):Prop where
 so:out.Pairwise (le lt)
 xa:∀ x ∈ out,∀ y ∈ la.drop ia,le lt x y
 xb:∀ x ∈ out,∀ y ∈ lb.drop ib,le lt x y
 pm:(out ++ (la.drop ia ++ lb.drop ib)).Perm (la ++ lb)
def Fin (lt:Keyed->Keyed->Bool) (la lb r:[33]):Prop:=r.Perm (la ++ lb) /\ r.Pairwise (le lt)
theorem wd1 {l:[33]} (h:l.Pairwise (le lt)) {i:Nat} {x:Keyed} (e:l[i]?=some x):∀ y ∈ l.drop (i + 1),le lt x y:=by
 have h2:(l.drop i).Pairwise (le lt):=h.sublist (drop_sublist i l);rw [vg0 e] at h2;exact (List.pairwise_cons.mp h2).1
theorem MI.a {la lb out:[33]} {ia ib:Nat} {x:Keyed} (m:MI lt la lb out ia ib) (sa:la.Pairwise (le lt)) (e:la[ia]?=some x) (k:∀ y ∈ lb.drop ib,le lt x y):MI lt la lb (out ++ [x]) (ia + 1) ib:=by
 have d:=vg0 e;refine ⟨List.pairwise_append.mpr ⟨m.so,pairwise_singleton _ _,λ z hz y hy=>?_⟩,λ z hz y hy=>?_,λ z hz y hy=>?_,?_⟩
 ·rw [mem_singleton] at hy; subst hy;exact m.xa z hz y (by rw [d]; exact .head _)
 ·rcases List.mem_append.mp hz with hz | hz
  ·exact m.xa z hz y (by rw [d]; exact .tail _ hy)
  ·rw [mem_singleton] at hz; subst hz;exact wd1 sa e y hy
 ·rcases List.mem_append.mp hz with hz | hz
  ·exact m.xb z hz y hy
  ·rw [mem_singleton] at hz; subst hz;exact k y hy
 ·have p:=m.pm;rw [d] at p;rw [append_assoc];exact p
theorem MI.b {la lb out:[33]} {ia ib:Nat} {x:Keyed} (m:MI lt la lb out ia ib) (sb:lb.Pairwise (le lt)) (e:lb[ib]?=some x) (k:∀ y ∈ la.drop ia,le lt x y):MI lt la lb (out ++ [x]) ia (ib + 1):=by
 have d:=vg0 e;refine ⟨List.pairwise_append.mpr ⟨m.so,pairwise_singleton _ _,λ z hz y hy=>?_⟩,λ z hz y hy=>?_,λ z hz y hy=>?_,?_⟩
 ·rw [mem_singleton] at hy; subst hy;exact m.xb z hz y (by rw [d]; exact .head _)
 ·rcases List.mem_append.mp hz with hz | hz
  ·exact m.xa z hz y hy
  ·rw [mem_singleton] at hz; subst hz;exact k y hy
 ·rcases List.mem_append.mp hz with hz | hz
  ·exact m.xb z hz y (by rw [d]; exact .tail _ hy)
  ·rw [mem_singleton] at hz; subst hz;exact wd1 sb e y hy
 ·have p:=m.pm;rw [d] at p;rw [append_assoc];refine .trans (List.Perm.append_left _ ?_) p;show (x :: (la.drop ia ++ lb.drop (ib + 1))).Perm _;exact List.perm_middle.symm
theorem vx0 {α:Type} {l:List α} {i k:Nat} {x:α} (e:l[i + k]?=some x):(l.drop i).take (k + 1)=(l.drop i).take k ++ [x]:=by
 rw [List.take_succ,getElem?_drop,e]; rfl
theorem MI.as {la lb out:[33]} {ia ib:Nat} (m:MI lt la lb out ia ib) (sa:la.Pairwise (le lt)):∀ k,ia + k<=la.length->(∀ i x,i < k->la[ia + i]?=some x->∀ y ∈ lb.drop ib,le lt x y)->MI lt la lb (out ++ (la.drop ia).take k) (ia + k) ib
 | 0,_,_=>by rw [take_zero,append_nil]; exact m
 | k + 1,h,q=>by
  have e:la[ia + k]?=some la[ia + k]:=getElem?_eq_getElem [1];rw [vx0 e,<- append_assoc];exact (m.as sa k [1] λ i x hi=>q i x [1]).a sa e (q k _ [1] e)
theorem MI.bs {la lb out:[33]} {ia ib:Nat} (m:MI lt la lb out ia ib) (sb:lb.Pairwise (le lt)):∀ k,ib + k<=lb.length->(∀ i x,i < k->lb[ib + i]?=some x->∀ y ∈ la.drop ia,le lt x y)->MI lt la lb (out ++ (lb.drop ib).take k) ia (ib + k)
 | 0,_,_=>by rw [take_zero,append_nil]; exact m
 | k + 1,h,q=>by
  have e:lb[ib + k]?=some lb[ib + k]:=getElem?_eq_getElem [1];rw [vx0 e,<- append_assoc];exact (m.bs sb k [1] λ i x hi=>q i x [1]).b sb e (q k _ [1] e)
theorem MI.endB {la lb out:[33]} {ia ib:Nat} (m:MI lt la lb out ia ib) (sa:la.Pairwise (le lt)) (h:lb.length<=ib):Fin lt la lb (out ++ la.drop ia ++ lb.drop ib):=by
 have e:lb.drop ib=[]:=drop_eq_nil_of_le h;have p:=m.pm;rw [e] at p ⊢;rw [append_nil] at p ⊢;exact ⟨p,List.pairwise_append.mpr ⟨m.so,sa.sublist (drop_sublist _ _),m.xa⟩⟩
theorem MI.endA {la lb out:[33]} {ia ib:Nat} (m:MI lt la lb out ia ib) (sb:lb.Pairwise (le lt)) (h:la.length<=ia):Fin lt la lb (out ++ la.drop ia ++ lb.drop ib):=by
 have e:la.drop ia=[]:=drop_eq_nil_of_le h;have p:=m.pm;rw [e] at p ⊢;rw [append_nil];exact ⟨p,List.pairwise_append.mpr ⟨m.so,sb.sublist (drop_sublist _ _),m.xb⟩⟩
theorem MI.last {la lb out:[33]} {ia ib:Nat} (m:MI lt la lb out ia ib) (sb:lb.Pairwise (le lt)) (h:ia + 1=la.length) (k:∀ x,la[la.length - 1]?=some x->∀ y ∈ lb,le lt y x):Fin lt la lb (out ++ lb.drop ib ++ la.drop ia):=by
 have e:la[ia]?=some la[ia]:=getElem?_eq_getElem [1];have d:=vg0 e;have e2:la.drop (ia + 1)=[]:=drop_eq_nil_of_le [1];rw [e2] at d;refine ⟨?_,?_⟩
 ·refine .trans ?_ m.pm;rw [append_assoc];exact List.Perm.append_left _ List.perm_append_comm
 ·rw [append_assoc];refine List.pairwise_append.mpr ⟨m.so,List.pairwise_append.mpr ⟨sb.sublist (drop_sublist _ _),?_,λ x hx y hy=>?_⟩,λ x hx y hy=>?_⟩
  ·rw [d]; exact pairwise_singleton _ _
  ·rw [d,mem_singleton] at hy;subst hy;exact k _ (by rw [show la.length - 1=ia by omega]; exact e) x (mem_of_mem_drop hx)
  ·rcases List.mem_append.mp hy with hy | hy
   ·exact m.xb x hx y hy
   ·exact m.xa x hx y hy
def Mid (lt:Keyed->Keyed->Bool) (la lb:[33]) (n:Nat) (r:Option (Array Keyed)) (out:Array Keyed) (ia ib:Nat):Prop:=match r with
 | some z=>Fin lt la lb z.toList
 | none=>MI lt la lb out.toList ia ib /\ ia + 1 < la.length /\ ib < lb.length /\ n<=ia + ib
end
structure Same (κ:SortKind) (st0 st:SortSt):Prop where
 ok:Ok κ st
 ar:arrOf st=arrOf st0
 pe:pendingOf st=pendingOf st0
theorem yg0 (a:Array Keyed) (i:Nat):(a.extract i a.size).toList=a.toList.drop i:=by
 rw [toList_extract];simp only [List.extract];exact take_of_length_le (by rw [length_drop,length_toList]; omega)
theorem zw2 (a:Array Keyed) (i k:Nat):(a.extract i (i + k)).toList=(a.toList.drop i).take k:=by
 rw [toList_extract];simp [List.extract]
section
variable {prog:Program} {w:World} {A:Around} {E:[2]} {s:Shared} {κ:SortKind}
variable {lt:Keyed->Keyed->Bool} {M:Keyed->Prop}
theorem wx2 {a:Array Keyed} {i:Nat} (h:i < a.toList.length):∃ x,a[i]?=some x /\ a.toList[i]?=some x /\ x ∈ a.toList:=by
 refine ⟨a.toList[i],?_,getElem?_eq_getElem h,getElem_mem h⟩;rw [<- getElem?_toList,getElem?_eq_getElem h]
theorem tc0 {P:Prop} {a:Array Keyed} {i:Nat} (h:i < a.toList.length) (k:∀ x,a[i]?=some x->a.toList[i]?=some x->x ∈ a.toList->P):P :=
 (wx2 h).elim λ x h=>k x h.1 h.2.1 h.2.2
theorem getD_some {l:[33]} {i:Nat} {x d:Keyed} (h:l[i]?=some x):l.getD i d=x:=by rw [getD_eq_getElem?_getD,h]; rfl
theorem tl0 {l:[33]} (h:l.Pairwise (le lt)) {i j:Nat} {x y:Keyed} (hij:i < j) (ex:l[i]?=some x) (ey:l[j]?=some y):le lt x y:=by
 obtain ⟨h1,rfl⟩:=List.getElem?_eq_some_iff.mp ex;obtain ⟨h2,rfl⟩:=List.getElem?_eq_some_iff.mp ey;exact List.pairwise_iff_getElem.mp h i j h1 h2 hij
theorem byF (c:[26]) {a:Array Keyed} (ma:∀ x ∈ a.toList,M x) {key:Keyed} {ia n:Nat} (hn:ia + n<=a.size) (mk:M key) (sa:a.toList.Pairwise (le lt)):By lt M false key a ia n (λ i=>!lt key (a.toList.getD (ia + i) key)) where
 ky:=mk
 it:=λ i hi=>by
  refine tc0 (a:=a) (i:=ia + i) (by rw [length_toList]; omega) λ x e1 e2 e3=>?_;exact ⟨x,e1,ma x e3,by rw [getD_some e2,if_neg [24]]⟩
 mono:=λ i j hij hj h=>by
  by_cases z:i=j
  ·subst z; exact h
  refine tc0 (a:=a) (i:=ia + i) (by rw [length_toList]; omega) λ x _ e2 _=>?_;refine tc0 (a:=a) (i:=ia + j) (by rw [length_toList]; omega) λ y _ e5 _=>?_;have l:=tl0 sa (show ia + i < ia + j by omega) e2 e5;rw [getD_some e5] at h;rw [getD_some e2];have h':le lt y key:=(by simpa using h:lt key y=false);have q:lt key x=false:=c.le_tr l h';simpa using q
theorem byT (c:[26]) {a:Array Keyed} (ma:∀ x ∈ a.toList,M x) {key:Keyed} {ia n:Nat} (hn:ia + n<=a.size) (mk:M key) (sa:a.toList.Pairwise (le lt)):By lt M true key a ia n (λ i=>lt (a.toList.getD (ia + i) key) key) where
 ky:=mk
 it:=λ i hi=>by
  refine tc0 (a:=a) (i:=ia + i) (by rw [length_toList]; omega) λ x e1 e2 e3=>?_;exact ⟨x,e1,ma x e3,by rw [getD_some e2,if_pos rfl]⟩
 mono:=λ i j hij hj h=>by
  by_cases z:i=j
  ·subst z; exact h
  refine tc0 (a:=a) (i:=ia + i) (by rw [length_toList]; omega) λ x _ e2 _=>?_;refine tc0 (a:=a) (i:=ia + j) (by rw [length_toList]; omega) λ y _ e5 _=>?_;have l:=tl0 sa (show ia + i < ia + j by omega) e2 e5;rw [getD_some e5] at h;rw [getD_some e2];rcases c.ng y x key h with q | q
  ·rw [show lt y x=false from l] at q; cases q
  ·exact q
def Pst (κ:SortKind) (lt:Keyed->Keyed->Bool) (a b:Array Keyed) (st:SortSt) (x:Nat):ForInStep GR->SortSt->Prop:=λ r st'=>match r with
 | .done c'=>Same κ st st' /\ Mid lt a.toList b.toList (x + 2) c'.1 c'.2.1 c'.2.2.1 c'.2.2.2.1
 | .yield c'=>Same κ st st' /\ c'.1=none /\ Mid lt a.toList b.toList (x + 2) none c'.2.1 c'.2.2.1 c'.2.2.2.1
theorem uh2 {α:Type} {Md:Model} {A:Around} {E:[2]} {s:Shared} {C:Nat->Prop} [I:∀ g,Decidable (C g)] {t e:Nat->StateT SortSt Sem α} {Q:α->SortSt->Prop} {st:SortSt} (ht:∀ g,t g=e (g - 1)) (h:∀ g,wpS Md A E s (e g) Q st) (g:Nat):wpS Md A E s (@ite _ (C g) (I g) (t g) (e g)) Q st:=by
 by_cases q:C g
 ·rw [if_pos q,ht]; exact h _
 ·rw [if_neg q]; exact h _
theorem yj3 (c:[26]) {a b:Array Keyed} {st:SortSt} {Q:Array Keyed->SortSt->Prop} (o:Ok κ st) (ma:∀ x ∈ a.toList,M x) (mb:∀ x ∈ b.toList,M x) (sa:a.toList.Pairwise (le lt)) (sb:b.toList.Pairwise (le lt))
    (na:0 < a.toList.length) (nb:0 < b.toList.length) (h0:∀ x y,b.toList[0]?=some x->a.toList[0]?=some y->le lt x y) (hl:∀ x,a.toList[a.toList.length - 1]?=some x->∀ y ∈ b.toList,le lt y x)
    (h:∀ r st',Same κ st st'->Fin lt a.toList b.toList r.toList->Q r st'):wpS [4] A E s (mlo a b) Q st:=by
 refine wpS_bind (wpS_lift (wpAny_rule ⟨rfl,?_⟩));refine tc0 (a:=b) nb λ b0 eb eb' hb0=>?_;refine wpS_bind (yd0 eb ?_);dsimp only;refine tc0 (a:=a) na λ a0 ea ea' ha0=>?_
 have dn:∀ {l:[33]} {x:Keyed} {i:Nat},l.Pairwise (le lt)->l[i]?=some x->∀ z,le lt z x->∀ y ∈ l.drop i,le lt z y:=by
  intro l x i sl e z hz y hy;rw [vg0 e] at hy;rcases List.mem_cons.mp hy with rfl | hy
  ·exact hz
  ·exact c.le_tr hz (wd1 sl e y hy)
 have m0:MI lt a.toList b.toList #[b0].toList 0 1:=by
  have m:MI lt a.toList b.toList [] 0 0:=⟨List.Pairwise.nil,λ _ h=>(nomatch h),λ _ h=>(nomatch h),.refl _⟩;exact m.b sb eb' (dn sa ea' b0 (h0 _ _ eb' ea'))
 have doneB:∀ {out:Array Keyed} {ia ib:Nat},MI lt a.toList b.toList out.toList ia ib->b.size<=ib->Fin lt a.toList b.toList (out ++ a.extract ia a.size ++ b.extract ib b.size).toList:=by
  intro out ia ib m hi;rw [toList_append,toList_append,yg0,yg0];exact m.endB sa hi
 have doneA:∀ {out:Array Keyed} {ia ib:Nat},MI lt a.toList b.toList out.toList ia ib->a.size<=ia->Fin lt a.toList b.toList (out ++ a.extract ia a.size ++ b.extract ib b.size).toList:=by
  intro out ia ib m hi;rw [toList_append,toList_append,yg0,yg0];exact m.endA sb hi
 have lastA:∀ {out:Array Keyed} {ia ib:Nat},MI lt a.toList b.toList out.toList ia ib->ia + 1=a.size->Fin lt a.toList b.toList (out ++ b.extract ib b.size ++ a.extract ia a.size).toList:=by
  intro out ia ib m hi;rw [toList_append,toList_append,yg0,yg0];exact m.last sb hi hl
 have sza:a.toList.length=a.size:=length_toList;have szb:b.toList.length=b.size:=length_toList
 have nxA:∀ (x k1 k2 g:Nat) (out:Array Keyed) (i j:Nat) (st3:SortSt),Same κ st st3->MI lt a.toList b.toList out.toList i j->i + 1 < a.size->j < b.size->x + 2<=i + j + 1->(∀ v,a.toList[i]?=some v->∀ y ∈ b.toList.drop j,le lt v y) ->
     wpS [4] A E s (elem' a i >>= λ v=>if (i + 1 + 1 == a.size)=true then pure (.done (some (out.push v ++ b.extract j b.size ++ a.extract (i + 1) a.size),out.push v,i + 1,j,g,k1,k2))
      else if (decide (k1 < 7) && decide (k2 < 7))=true then pure (.done (none,out.push v,i + 1,j,g,k1,k2)) else pure (.yield (none,out.push v,i + 1,j,g,k1,k2))) (Pst κ lt a b st x) st3:=by
  intro x k1 k2 g out i j st3 s3 m h1 h2 h3 hle;refine tc0 (a:=a) (i:=i) [1] λ va e4 e5 e6=>?_;refine wpS_bind (yd0 e4 ?_);have m':=m.a sa e5 (hle va e5);rw [<- toList_push] at m';refine yc0 (λ z=>?_) λ z=>?_
  ·exact wpS_pure ⟨s3,lastA m' (eq_of_beq z)⟩
  ·have z':i + 1 + 1 ≠ a.size:=λ e=>z (beq_iff_eq.mpr e);refine yc0 (λ y1=>?_) λ y1=>?_
   ·exact wpS_pure ⟨s3,m',by show i + 1 + 1 < _; omega,by show j < _; omega,by show _<=i + 1 + j; omega⟩
   ·exact wpS_pure ⟨s3,rfl,m',by show i + 1 + 1 < _; omega,by show j < _; omega,by show _<=i + 1 + j; omega⟩
 have nxB:∀ (x k bc g:Nat) (out:Array Keyed) {i j:Nat} {st3:SortSt} {vb:Keyed},Same κ st st3->MI lt a.toList b.toList out.toList i j->i + 1 < a.size->j < b.toList.length->x + 2<=i + j->b[j]?=some vb->b.toList[j]?=some vb->(∀ y ∈ a.toList.drop i,le lt vb y) ->
     ∀ (G:Keyed->Keyed->Option Nat->StateT SortSt Sem (ForInStep GR)),(∀ v y k2,G v y (some k2)=galC a b k k2 (out.push v) i (j + 1) g) ->
     wpS [4] A E s (elem' b j >>= λ v=>if (j + 1 == b.size)=true then pure (.done (some (out.push v ++ a.extract i a.size ++ b.extract (j + 1) b.size),out.push v,i,j + 1,g,k,bc))
      else elem' a i >>= λ y=>gal true y b (j + 1) (b.size - (j + 1)) 0 >>= G v y) (Pst κ lt a b st x) st3:=by
  intro x k bc g out i j st3 vb s3 m h1 h2 h3 e1 e2 lo G hG;refine wpS_bind (yd0 e1 ?_);have m':=m.b sb e2 lo;rw [<- toList_push] at m';refine yc0 (λ z=>?_) λ z=>?_
  ·exact wpS_pure ⟨s3,doneB m' (Nat.le_of_eq (eq_of_beq z).symm)⟩
  ·have z':j + 1 ≠ b.size:=λ e=>z (beq_iff_eq.mpr e);refine tc0 (a:=a) (i:=i) [1] λ va e4 e5 e6=>?_;refine wpS_bind (yd0 e4 ?_);refine wpS_bind (yt0 c s3.ok (byT c mb [1] (ma _ e6) sb) [1] λ k2 q1 q2 q3=>?_);rw [hG];unfold galC;dsimp only
   have mk:=m'.bs sb k2 [1] λ i y hi ey=>dn sa e5 y (by
    have q:=q2 i hi;rw [getD_some ey] at q;exact c.lt_le q)
   have lo2:∀ v,a.toList[i]?=some v->∀ y ∈ b.toList.drop (j + 1 + k2),le lt v y:=by
    intro v ev y hy;rw [e5] at ev;cases ev;obtain ⟨n,hn,ey⟩:=List.mem_drop_iff_getElem.mp hy;have q:=q3 (k2 + n) [1] [1];rw [getD_some (x:=y) (by rw [show j + 1 + (k2 + n)=j + 1 + k2 + n by omega,getElem?_eq_getElem [1]]; exact congrArg some ey)] at q;exact q
   refine yc0 (λ kp=>?_) λ kp=>?_
   ·rw [<- zw2,<- toList_append] at mk;refine yc0 (λ zz=>?_) λ zz=>?_
    ·exact wpS_pure ⟨s3,doneB mk (Nat.le_of_eq (eq_of_beq zz).symm)⟩
    ·have zz':j + 1 + k2 ≠ b.size:=λ e=>zz (beq_iff_eq.mpr e);exact nxA x _ _ _ _ _ _ _ s3 mk h1 [1] [1] lo2
   ·have k0:k2=0:=by omega
    subst k0;exact nxA x _ _ _ _ _ _ _ s3 m' h1 [1] [1] lo2
 refine yc0 (λ z1=>?_) λ z1=>?_
 ·exact wpS_pure (h _ _ ⟨o,rfl,rfl⟩ (doneB m0 (by have:=eq_of_beq z1; omega)))
 refine yc0 (λ z2=>?_) λ z2=>?_
 ·exact wpS_pure (h _ _ ⟨o,rfl,rfl⟩ (lastA m0 (eq_of_beq z2)))
 have n1:b.size ≠ 1:=λ e=>z1 (beq_iff_eq.mpr e.symm);have n2:a.size ≠ 1:=λ e=>z2 (beq_iff_eq.mpr e.symm);refine wpS_bind (wpS_get ?_)
 refine xh0 (yj0 (λ x (r:Option (Array Keyed) × Array Keyed × Nat × Nat × Nat) st'=>Same κ st st' /\ r.1=none /\ Mid lt a.toList b.toList (x + 1) none r.2.1 r.2.2.1 r.2.2.2.1)
  (Q:=λ (r:Option (Array Keyed) × Array Keyed × Nat × Nat × Nat) st'=>Same κ st st' /\ ∃ z,r.1=some z /\ Fin lt a.toList b.toList z.toList) ?_ ?_ ⟨⟨o,rfl,rfl⟩,rfl,m0,by show 0 + 1 < _; omega,by show 1 < _; omega,Nat.le_refl 1⟩) ?_
 ·rintro F hF x ⟨r,out,ia,ib,mg⟩ st1 _ hx ⟨s1,rfl,mi⟩;subst hF;dsimp only at mi ⊢
  refine xh0 (yj0 (λ y (r:Option (Array Keyed) × Array Keyed × Nat × Nat × Nat × Nat) st'=>Same κ st st' /\ r.1=none /\ Mid lt a.toList b.toList (x + 1 + y) none r.2.1 r.2.2.1 r.2.2.2.1)
   (Q:=λ (r:Option (Array Keyed) × Array Keyed × Nat × Nat × Nat × Nat) st'=>Same κ st st' /\ Mid lt a.toList b.toList (x + 2) r.1 r.2.1 r.2.2.1 r.2.2.2.1) ?_ ?_ ⟨s1,rfl,mi⟩) ?_
  ·rintro F hF y ⟨r,out,ia,ib,ac,bc⟩ st2 _ hy ⟨s2,rfl,m,i1,i2,i3⟩;subst hF;dsimp only at m i1 i2 i3 ⊢;refine tc0 (a:=b) i2 λ vb e1 e2 e3=>?_;refine tc0 (a:=a) (i:=ia) [1] λ va e4 e5 e6=>?_;refine wpS_bind (yd0 e1 (wpS_bind (yd0 e4 (wpS_bind (zs1 c s2.ok (mb _ e3) (ma _ e6) ?_)))));cases q:lt vb va with
   | true =>
    dsimp only;refine wt0 rfl ?_;refine wpS_bind (yd0 e1 ?_);have m':=m.b sb e2 (dn sa e5 vb (c.lt_le q));rw [<- toList_push] at m';refine yc0 (λ z=>?_) λ z=>?_
    ·exact wpS_pure ⟨s2,doneB m' (Nat.le_of_eq (eq_of_beq z).symm)⟩
    ·have z':ib + 1 ≠ b.size:=λ e=>z (beq_iff_eq.mpr e);refine yc0 (λ y1=>?_) λ y1=>?_
     ·exact wpS_pure ⟨s2,m',i1,by show ib + 1 < _; omega,by show _<=ia + (ib + 1); omega⟩
     ·exact wpS_pure ⟨s2,rfl,m',i1,by show ib + 1 < _; omega,by show _<=ia + (ib + 1); omega⟩
   | false =>
    dsimp only;refine vt0 [24] ?_;refine wpS_bind (yd0 e4 ?_);have m':=m.a sa e5 (dn sb e2 va q);rw [<- toList_push] at m';refine yc0 (λ z=>?_) λ z=>?_
    ·exact wpS_pure ⟨s2,lastA m' (eq_of_beq z)⟩
    ·have z':ia + 1 + 1 ≠ a.size:=λ e=>z (beq_iff_eq.mpr e);refine yc0 (λ y1=>?_) λ y1=>?_
     ·exact wpS_pure ⟨s2,m',by show ia + 1 + 1 < _; omega,i2,by show _<=ia + 1 + ib; omega⟩
     ·exact wpS_pure ⟨s2,rfl,m',by show ia + 1 + 1 < _; omega,i2,by show _<=ia + 1 + ib; omega⟩
  ·rintro ⟨r,out,ia,ib,ac,bc⟩ st2 ⟨s2,rfl,m,i1,i2,i3⟩;exact ⟨s2,m,i1,i2,by omega⟩
  ·rintro F hF ⟨r,out,ia,ib,ac,bc⟩ st2 ⟨s2,mm⟩;subst hF;dsimp only at mm ⊢;cases r with
   | some z=>exact wpS_pure ⟨s2,z,rfl,mm⟩
   | none =>
    dsimp only;refine wpS_bind (wpS_lift (wpAny_rule ⟨rfl,?_⟩))
    refine xh0 (yj0 (λ y (r:Option (Array Keyed) × Array Keyed × Nat × Nat × Nat × Nat × Nat) st'=>Same κ st st' /\ r.1=none /\ Mid lt a.toList b.toList (x + 2) none r.2.1 r.2.2.1 r.2.2.2.1)
     (Q:=λ (r:Option (Array Keyed) × Array Keyed × Nat × Nat × Nat × Nat × Nat) st'=>Same κ st st' /\ Mid lt a.toList b.toList (x + 2) r.1 r.2.1 r.2.2.1 r.2.2.2.1) ?_ ?_ ⟨s2,rfl,mm⟩) ?_
    ·rintro F hF y ⟨r,out,ia,ib,mg,ac,bc⟩ st3 _ hy ⟨s3,rfl,m,i1,i2,i3⟩;subst hF;dsimp only at m i1 i2 i3 ⊢;have s3':∀ g:Nat,Same κ st (SortSt.mk' (kindOf st3) (arrOf st3) (pendingOf st3) g (failedOf st3)):=λ g=>⟨⟨s3.ok.kd,s3.ok.fl⟩,s3.ar,s3.pe⟩;refine tc0 (a:=b) i2 λ vb e1 e2 e3=>?_;revert mg;refine uh2 (λ _=>rfl) λ mg=>?_;refine wpS_bind (wpS_modify ?_);refine wpS_bind (yd0 e1 ?_);refine wpS_bind (yt0 c (s3' _).ok (byF c ma [1] (mb _ e3) sa) [1] λ k k1 k2 k3=>?_);dsimp only
     have mk:=m.as sa k [1] λ i y hi ey=>dn sb e2 y (by
      have q:=k2 i hi;rw [getD_some ey] at q;exact (by simpa using q:lt vb y=false))
     have lo:∀ y ∈ a.toList.drop (ia + k),le lt vb y:=by
      intro y hy;obtain ⟨i,hi,ey⟩:=List.mem_drop_iff_getElem.mp hy;have q:=k3 (k + i) [1] [1];rw [getD_some (x:=y) (by rw [show ia + (k + i)=ia + k + i by omega,getElem?_eq_getElem [1]]; exact congrArg some ey)] at q;exact c.lt_le (by simpa using q)
     refine yc0 (λ kp=>?_) λ kp=>?_
     ·have mk':=mk;rw [<- zw2,<- toList_append] at mk';refine yc0 (λ z=>?_) λ z=>?_
      ·exact wpS_pure ⟨s3' _,lastA mk' (eq_of_beq z)⟩
      ·have z':ia + k + 1 ≠ a.size:=λ e=>z (beq_iff_eq.mpr e);refine yc0 (λ zz=>?_) λ zz=>?_
       ·exact wpS_pure ⟨s3' _,doneA mk' (Nat.le_of_eq (eq_of_beq zz).symm)⟩
       ·have zz':ia + k ≠ a.size:=λ e=>zz (beq_iff_eq.mpr e);refine wpS_mono (nxB x k bc _ _ (s3' _) mk' [1] i2 [1] e1 e2 lo _ ?_) ?_
        ·intro _ _ _; rfl
        ·intro r st' q; cases r <;> exact q
     ·have k0:k=0:=by omega
      subst k0;rw [take_zero,append_nil] at mk;refine wpS_mono (nxB x 0 bc _ _ (s3' _) m [1] i2 [1] e1 e2 lo _ ?_) ?_
      ·intro _ _ _; rfl
      ·intro r st' q; cases r <;> exact q
    ·rintro ⟨r,out,ia,ib,mg,ac,bc⟩ st3 ⟨s3,rfl,m,i1,i2,i3⟩;exact ⟨s3,m,i1,i2,i3⟩
    ·rintro F hF ⟨r,out,ia,ib,mg,ac,bc⟩ st3 ⟨s3,mm⟩;subst hF;dsimp only at mm ⊢;cases r with
     | some z=>exact wpS_pure ⟨s3,z,rfl,mm⟩
     | none =>
      dsimp only;exact wpS_bind (wpS_modify (wpS_pure ⟨⟨⟨s3.ok.kd,s3.ok.fl⟩,s3.ar,s3.pe⟩,rfl,mm⟩))
 ·rintro ⟨r,out,ia,ib,mg⟩ st1 ⟨s1,rfl,m,i1,i2,i3⟩;exfalso;dsimp only at i1 i2 i3;omega
 ·rintro F hF ⟨r,out,ia,ib,mg⟩ st1 ⟨s1,z,e,f⟩;subst hF;dsimp only at e ⊢;subst e;exact wpS_pure (h z st1 s1 f)
end
def mhi:Array Keyed->Array Keyed->StateT SortSt Sem (Array Keyed):=sortPriv% PySem.Builtin.mergeHi
section
variable {lt:Keyed->Keyed->Bool}
theorem xe0 {α:Type} {l:List α} {i:Nat} {x:α} (h:l[i]?=some x):l.take (i + 1)=l.take i ++ [x]:=by rw [List.take_succ,h]; rfl
theorem zi1 {α:Type} {l:List α} {i n:Nat} {x:α} (h:l[i]?=some x) (hi:i < n):x ∈ l.take n:=List.mem_iff_getElem?.mpr ⟨i,by rw [getElem?_take_of_lt hi]; exact h⟩
structure MH (lt:Keyed->Keyed->Bool) (la lb ro:List Keyed) (na nb:Nat):Prop where
 so:ro.Pairwise (le lt)
 xa:∀ x ∈ la.take na,∀ y ∈ ro,le lt x y
 xb:∀ x ∈ lb.take nb,∀ y ∈ ro,le lt x y
 pm:(la.take na ++ (lb.take nb ++ ro)).Perm (la ++ lb)
theorem tn2 {l:[33]} (h:l.Pairwise (le lt)) {n:Nat} {x:Keyed} (e:l[n]?=some x):∀ z ∈ l.take n,le lt z x:=by
 intro z hz;obtain ⟨i,hi,ez⟩:=List.mem_take_iff_getElem.mp hz;exact tl0 h [1] (List.getElem?_eq_some_iff.mpr ⟨by omega,ez⟩) e
theorem MH.a {la lb ro:[33]} {n nb:Nat} {x:Keyed} (m:MH lt la lb ro (n + 1) nb) (sa:la.Pairwise (le lt)) (e:la[n]?=some x) (k:∀ y ∈ lb.take nb,le lt y x):MH lt la lb (x :: ro) n nb:=by
 have d:=xe0 e;refine ⟨List.pairwise_cons.mpr ⟨λ y hy=>m.xa x (zi1 e [1]) y hy,m.so⟩,λ z hz y hy=>?_,λ z hz y hy=>?_,?_⟩
 ·rcases List.mem_cons.mp hy with rfl | hy
  ·exact tn2 sa e z hz
  ·exact m.xa z (by rw [d]; exact mem_append_left _ hz) y hy
 ·rcases List.mem_cons.mp hy with rfl | hy
  ·exact k z hz
  ·exact m.xb z hz y hy
 ·refine .trans ?_ m.pm;rw [d,append_assoc];refine List.Perm.append_left _ ?_;exact List.perm_middle
theorem MH.b {la lb ro:[33]} {na n:Nat} {x:Keyed} (m:MH lt la lb ro na (n + 1)) (sb:lb.Pairwise (le lt)) (e:lb[n]?=some x) (k:∀ y ∈ la.take na,le lt y x):MH lt la lb (x :: ro) na n:=by
 have d:=xe0 e;refine ⟨List.pairwise_cons.mpr ⟨λ y hy=>m.xb x (zi1 e [1]) y hy,m.so⟩,λ z hz y hy=>?_,λ z hz y hy=>?_,?_⟩
 ·rcases List.mem_cons.mp hy with rfl | hy
  ·exact k z hz
  ·exact m.xa z hz y hy
 ·rcases List.mem_cons.mp hy with rfl | hy
  ·exact tn2 sb e z hz
  ·exact m.xb z (by rw [d]; exact mem_append_left _ hz) y hy
 ·have p:=m.pm;rw [d,append_assoc] at p;exact p
theorem MH.as {la lb:[33]} {nb:Nat} (sa:la.Pairwise (le lt)) {at_:Nat}:∀ (k:Nat) {ro:[33]},MH lt la lb ro (at_ + k) nb->at_ + k<=la.length->(∀ i x,at_<=i->i < at_ + k->la[i]?=some x->∀ y ∈ lb.take nb,le lt y x)->MH lt la lb ((la.take (at_ + k)).drop at_ ++ ro) at_ nb
 | 0,ro,m,_,_=>by
  have e:(la.take (at_ + 0)).drop at_=[]:=drop_eq_nil_of_le (by rw [length_take]; omega);rw [e];exact m
 | k + 1,ro,m,h,q=>by
  have e:la[at_ + k]?=some la[at_ + k]:=getElem?_eq_getElem [1];have m2:=MH.a (n:=at_ + k) m sa e (q _ _ [1] [1] e);have r:=MH.as sa k m2 [1] λ i x h1 h2=>q i x h1 [1]
  have e2:(la.take (at_ + (k + 1))).drop at_=(la.take (at_ + k)).drop at_ ++ [la[at_ + k]]:=by
   rw [show at_ + (k + 1)=at_ + k + 1 from rfl,xe0 e,List.drop_append_of_le_length (by rw [length_take]; omega)]
  rw [e2,append_assoc];exact r
theorem MH.bs {la lb:[33]} {na:Nat} (sb:lb.Pairwise (le lt)) {at_:Nat}:∀ (k:Nat) {ro:[33]},MH lt la lb ro na (at_ + k)->at_ + k<=lb.length->(∀ i x,at_<=i->i < at_ + k->lb[i]?=some x->∀ y ∈ la.take na,le lt y x)->MH lt la lb ((lb.take (at_ + k)).drop at_ ++ ro) na at_
 | 0,ro,m,_,_=>by
  have e:(lb.take (at_ + 0)).drop at_=[]:=drop_eq_nil_of_le (by rw [length_take]; omega);rw [e];exact m
 | k + 1,ro,m,h,q=>by
  have e:lb[at_ + k]?=some lb[at_ + k]:=getElem?_eq_getElem [1];have m2:=MH.b (n:=at_ + k) m sb e (q _ _ [1] [1] e);have r:=MH.bs sb k m2 [1] λ i x h1 h2=>q i x h1 [1]
  have e2:(lb.take (at_ + (k + 1))).drop at_=(lb.take (at_ + k)).drop at_ ++ [lb[at_ + k]]:=by
   rw [show at_ + (k + 1)=at_ + k + 1 from rfl,xe0 e,List.drop_append_of_le_length (by rw [length_take]; omega)]
  rw [e2,append_assoc];exact r
theorem MH.endA {la lb ro:[33]} {nb:Nat} (m:MH lt la lb ro 0 nb) (sb:lb.Pairwise (le lt)):Fin lt la lb (la.take 0 ++ lb.take nb ++ ro):=by
 have p:=m.pm;rw [take_zero,nil_append] at p ⊢;exact ⟨p,List.pairwise_append.mpr ⟨sb.sublist (take_sublist _ _),m.so,m.xb⟩⟩
theorem MH.endB {la lb ro:[33]} {na:Nat} (m:MH lt la lb ro na 0) (sa:la.Pairwise (le lt)):Fin lt la lb (la.take na ++ lb.take 0 ++ ro):=by
 have p:=m.pm;rw [take_zero,nil_append] at p;rw [take_zero,append_nil];exact ⟨p,List.pairwise_append.mpr ⟨sa.sublist (take_sublist _ _),m.so,m.xa⟩⟩
theorem MH.first {la lb ro:[33]} {na:Nat} (m:MH lt la lb ro na 1) (sa:la.Pairwise (le lt)) (hb:0 < lb.length) (k:∀ x,lb[0]?=some x->∀ y ∈ la,le lt x y):Fin lt la lb (lb.take 1 ++ la.take na ++ ro):=by
 have e:lb[0]?=some lb[0]:=getElem?_eq_getElem hb;have d:=xe0 e;rw [take_zero,nil_append] at d;refine ⟨?_,?_⟩
 ·refine .trans ?_ m.pm;rw [<- append_assoc];exact List.Perm.append_right _ List.perm_append_comm
 ·refine List.pairwise_append.mpr ⟨List.pairwise_append.mpr ⟨?_,sa.sublist (take_sublist _ _),λ x hx y hy=>?_⟩,m.so,λ x hx y hy=>?_⟩
  ·rw [d]; exact pairwise_singleton _ _
  ·rw [d,mem_singleton] at hx;subst hx;exact k _ e y (mem_of_mem_take hy)
  ·rcases List.mem_append.mp hx with hx | hx
   ·exact m.xb x hx y hy
   ·exact m.xa x hx y hy
def MidH (lt:Keyed->Keyed->Bool) (la lb:[33]) (n:Nat) (r:Option (Array Keyed)) (na nb:Nat) (out:Array Keyed):Prop:=match r with
 | some z=>Fin lt la lb z.toList
 | none=>MH lt la lb out.toList.reverse na nb /\ 0 < na /\ na<=la.length /\ 1 < nb /\ nb<=lb.length /\ na + nb + n<=la.length + lb.length
end
theorem ext0 (a:Array Keyed) (n:Nat):(a.extract 0 n).toList=a.toList.take n:=by
 rw [toList_extract];simp [List.extract]
theorem yw2 (a:Array Keyed) (i n:Nat):(a.extract i n).toList=(a.toList.take n).drop i:=by
 rw [toList_extract,List.extract_eq_drop_take,List.drop_take]
theorem vn0 (u:Array Keyed) (v:Keyed):(u.push v).toList.reverse=v :: u.toList.reverse:=by simp
theorem wp1 (u t:Array Keyed):(u ++ t.reverse).toList.reverse=t.toList ++ u.toList.reverse:=by simp
abbrev GH:=Option (Array Keyed) × Nat × Nat × Array Keyed × Nat × Nat × Nat
def PstH (κ:SortKind) (lt:Keyed->Keyed->Bool) (a b:Array Keyed) (st:SortSt) (x:Nat):ForInStep GH->SortSt->Prop:=λ r st'=>match r with
 | .done c'=>Same κ st st' /\ MidH lt a.toList b.toList (x + 2) c'.1 c'.2.1 c'.2.2.1 c'.2.2.2.1
 | .yield c'=>Same κ st st' /\ c'.1=none /\ MidH lt a.toList b.toList (x + 2) none c'.2.1 c'.2.2.1 c'.2.2.2.1
def galH (a b:Array Keyed) (k1 t:Nat) (u:Array Keyed) (i j g:Nat):StateT SortSt Sem (ForInStep GH) :=
 let nx:Nat->Array Keyed->StateT SortSt Sem (ForInStep GH):=λ m u=>elem' a (i - 1) >>= λ v =>
  if (i - 1 == 0)=true then pure (.done (some (a.extract 0 (i - 1) ++ b.extract 0 m ++ (u.push v).reverse),i - 1,m,u.push v,g,k1,j - t))
  else if (decide (k1 < 7) && decide (j - t < 7))=true then pure (.done (none,i - 1,m,u.push v,g,k1,j - t)) else pure (.yield (none,i - 1,m,u.push v,g,k1,j - t))
 if j - t > 0 then (if (t == 1)=true then pure (.done (some (b.extract 0 t ++ a.extract 0 i ++ (u ++ (b.extract t j).reverse).reverse),i,t,u ++ (b.extract t j).reverse,g,k1,j - t))
  else if (t == 0)=true then pure (.done (some (a.extract 0 i ++ b.extract 0 t ++ (u ++ (b.extract t j).reverse).reverse),i,t,u ++ (b.extract t j).reverse,g,k1,j - t)) else nx t (u ++ (b.extract t j).reverse)) else nx j u
section
variable {prog:Program} {w:World} {A:Around} {E:[2]} {s:Shared} {κ:SortKind}
variable {lt:Keyed->Keyed->Bool} {M:Keyed->Prop}
theorem wj3 (c:[26]) {a b:Array Keyed} {st:SortSt} {Q:Array Keyed->SortSt->Prop} (o:Ok κ st) (ma:∀ x ∈ a.toList,M x) (mb:∀ x ∈ b.toList,M x) (sa:a.toList.Pairwise (le lt)) (sb:b.toList.Pairwise (le lt))
    (na:0 < a.toList.length) (nb:0 < b.toList.length) (h0:∀ x y,b.toList[0]?=some x->a.toList[0]?=some y->le lt x y) (hl:∀ x,a.toList[a.toList.length - 1]?=some x->∀ y ∈ b.toList,le lt y x)
    (h:∀ r st',Same κ st st'->Fin lt a.toList b.toList r.toList->Q r st'):wpS [4] A E s (mhi a b) Q st:=by
 refine wpS_bind (wpS_lift (wpAny_rule ⟨rfl,?_⟩));have sza:a.toList.length=a.size:=length_toList;have szb:b.toList.length=b.size:=length_toList;refine tc0 (a:=a) (i:=a.size - 1) [1] λ vl el el' hvl=>?_;refine wpS_bind (yd0 el ?_);dsimp only;refine tc0 (a:=a) na λ a0 ea ea' ha0=>?_
 have up:∀ {l:[33]} {x:Keyed} {n:Nat},l.Pairwise (le lt)->l[n]?=some x->∀ z,le lt x z->∀ y ∈ l.take (n + 1),le lt y z:=by
  intro l x n sl e z hz y hy;rw [xe0 e] at hy;rcases List.mem_append.mp hy with hy | hy
  ·exact c.le_tr (tn2 sl e y hy) hz
  ·rw [mem_singleton] at hy; subst hy; exact hz
 have fb:∀ x,b.toList[0]?=some x->∀ y ∈ a.toList,le lt x y:=by
  intro x ex y hy;obtain ⟨i,hi,rfl⟩:=List.mem_iff_getElem.mp hy;have e:=getElem?_eq_getElem hi;have q:=h0 x a0 ex ea';by_cases z:i=0
  ·subst z; rw [ea'] at e; cases e; exact q
  ·exact c.le_tr q (tl0 sa [1] ea' e)
 have m0:MH lt a.toList b.toList #[vl].toList.reverse (a.size - 1) b.size:=by
  have m:MH lt a.toList b.toList [] (a.size - 1 + 1) b.size:=⟨List.Pairwise.nil,λ _ _ _ h=>(nomatch h),λ _ _ _ h=>(nomatch h),by
   rw [take_of_length_le [1],take_of_length_le [1],append_nil]⟩
  exact m.a sa el' λ y hy=>hl vl (by rw [sza]; exact el') y (mem_of_mem_take hy)
 have doneA:∀ {out:Array Keyed} {j:Nat} {i:Nat},MH lt a.toList b.toList out.toList.reverse i j->i=0->Fin lt a.toList b.toList (a.extract 0 i ++ b.extract 0 j ++ out.reverse).toList:=by
  intro out j i m hi;subst hi;rw [toList_append,toList_append,ext0,ext0,Array.toList_reverse];exact m.endA sb
 have doneB:∀ {out:Array Keyed} {j:Nat} {i:Nat},MH lt a.toList b.toList out.toList.reverse i j->j=0->Fin lt a.toList b.toList (a.extract 0 i ++ b.extract 0 j ++ out.reverse).toList:=by
  intro out j i m hi;subst hi;rw [toList_append,toList_append,ext0,ext0,Array.toList_reverse];exact m.endB sa
 have firstB:∀ {out:Array Keyed} {j:Nat} {i:Nat},MH lt a.toList b.toList out.toList.reverse i j->j=1->Fin lt a.toList b.toList (b.extract 0 j ++ a.extract 0 i ++ out.reverse).toList:=by
  intro out j i m hi;subst hi;rw [toList_append,toList_append,ext0,ext0,Array.toList_reverse];exact m.first sa nb fb
 have nxA:∀ (x k1 k2 g:Nat) (out:Array Keyed) (i j:Nat) (st3:SortSt),Same κ st st3->MH lt a.toList b.toList out.toList.reverse i j->0 < i->i<=a.size->1 < j->j<=b.size->i + j + (x + 1)<=a.size + b.size->(∀ v,a.toList[i - 1]?=some v->∀ y ∈ b.toList.take j,le lt y v) ->
     wpS [4] A E s (elem' a (i - 1) >>= λ v=>if (i - 1 == 0)=true then pure (.done (some (a.extract 0 (i - 1) ++ b.extract 0 j ++ (out.push v).reverse),i - 1,j,out.push v,g,k1,k2))
      else if (decide (k1 < 7) && decide (k2 < 7))=true then pure (.done (none,i - 1,j,out.push v,g,k1,k2)) else pure (.yield (none,i - 1,j,out.push v,g,k1,k2))) (PstH κ lt a b st x) st3:=by
  intro x k1 k2 g out i j st3 s3 m p1 p2 p3 p4 p5 hle;obtain ⟨n,rfl⟩:∃ n,i=n + 1:=⟨i - 1,by omega⟩;rw [Nat.add_sub_cancel] at hle ⊢;refine tc0 (a:=a) (i:=n) [1] λ va e4 e5 e6=>?_;refine wpS_bind (yd0 e4 ?_);have m':=m.a sa e5 (hle va e5);rw [<- vn0] at m';refine yc0 (λ z=>?_) λ z=>?_
  ·exact wpS_pure ⟨s3,doneA m' (eq_of_beq z)⟩
  ·have z':n ≠ 0:=λ e=>z (beq_iff_eq.mpr e);refine yc0 (λ y1=>?_) λ y1=>?_
   ·exact wpS_pure ⟨s3,m',by show 0 < n; omega,by show n<=_; omega,p3,by show j<=_; omega,by show n + j + (x + 2)<=_; omega⟩
   ·exact wpS_pure ⟨s3,rfl,m',by show 0 < n; omega,by show n<=_; omega,p3,by show j<=_; omega,by show n + j + (x + 2)<=_; omega⟩
 have nxB:∀ (x k bc g:Nat) (out:Array Keyed) {i j:Nat} {st3:SortSt} {vb:Keyed},Same κ st st3->MH lt a.toList b.toList out.toList.reverse i j->0 < i->i<=a.size->1 < j->j<=b.size->i + j + (x + 2)<=a.size + b.size->b[j - 1]?=some vb->b.toList[j - 1]?=some vb->(∀ y ∈ a.toList.take i,le lt y vb) ->
     ∀ (G:Keyed->Keyed->Option Nat->StateT SortSt Sem (ForInStep GH)),(∀ v y t,G v y (some t)=galH a b k t (out.push v) i (j - 1) g) ->
     wpS [4] A E s (elem' b (j - 1) >>= λ v=>if (j - 1 == 1)=true then pure (.done (some (b.extract 0 (j - 1) ++ a.extract 0 i ++ (out.push v).reverse),i,j - 1,out.push v,g,k,bc))
      else elem' a (i - 1) >>= λ y=>gal true y b 0 (j - 1) (j - 1 - 1) >>= G v y) (PstH κ lt a b st x) st3:=by
  intro x k bc g out i j st3 vb s3 m p1 p2 p3 p4 p5 e1 e2 lo G hG;obtain ⟨n,rfl⟩:∃ n,j=n + 1:=⟨j - 1,by omega⟩;rw [Nat.add_sub_cancel] at e1 e2 ⊢;refine wpS_bind (yd0 e1 ?_);have m':=m.b sb e2 lo;rw [<- vn0] at m';refine yc0 (λ z=>?_) λ z=>?_
  ·exact wpS_pure ⟨s3,firstB m' (eq_of_beq z)⟩
  ·have z':n ≠ 1:=λ e=>z (beq_iff_eq.mpr e);refine tc0 (a:=a) (i:=i - 1) [1] λ va e4 e5 e6=>?_;refine wpS_bind (yd0 e4 ?_);refine wpS_bind (yt0 c s3.ok (byT c mb [1] (ma _ e6) sb) [1] λ t q1 q2 q3=>?_);rw [hG,Nat.add_sub_cancel];unfold galH;dsimp only;obtain ⟨k2,rfl⟩:∃ k2,n=t + k2:=⟨n - t,by omega⟩
   have mk:=MH.bs sb k2 m' [1] λ ii y h1 h2 ey=>by
    have q:=q3 ii h1 h2;rw [getD_some (x:=y) (by rw [Nat.zero_add]; exact ey)] at q;have u:=up sa e5 y q;rw [show i - 1 + 1=i by omega] at u;exact u
   have lo2:∀ v,a.toList[i - 1]?=some v->∀ y ∈ b.toList.take t,le lt y v:=by
    intro v ev y hy;rw [e5] at ev;cases ev;obtain ⟨ii,hi,ey⟩:=List.mem_take_iff_getElem.mp hy;have q:=q2 ii [1];rw [getD_some (x:=y) (by rw [Nat.zero_add]; exact List.getElem?_eq_some_iff.mpr ⟨by omega,ey⟩)] at q;exact c.lt_le q
   refine yc0 (λ kp=>?_) λ kp=>?_
   ·rw [<- yw2,<- wp1] at mk;refine yc0 (λ zz=>?_) λ zz=>?_
    ·exact wpS_pure ⟨s3,firstB mk (eq_of_beq zz)⟩
    ·have zz':t ≠ 1:=λ e=>zz (beq_iff_eq.mpr e);refine yc0 (λ zy=>?_) λ zy=>?_
     ·exact wpS_pure ⟨s3,doneB mk (eq_of_beq zy)⟩
     ·have zy':t ≠ 0:=λ e=>zy (beq_iff_eq.mpr e);exact nxA x _ _ _ _ _ _ _ s3 mk p1 p2 [1] [1] [1] lo2
   ·have k0:k2=0:=by omega
    subst k0;exact nxA x _ _ _ _ _ _ _ s3 m' p1 p2 [1] [1] [1] lo2
 refine yc0 (λ z1=>?_) λ z1=>?_
 ·exact wpS_pure (h _ _ ⟨o,rfl,rfl⟩ (doneA m0 (eq_of_beq z1)))
 refine yc0 (λ z2=>?_) λ z2=>?_
 ·exact wpS_pure (h _ _ ⟨o,rfl,rfl⟩ (firstB m0 (eq_of_beq z2)))
 have n1:b.size ≠ 1:=λ e=>z2 (beq_iff_eq.mpr e);have n2:a.size - 1 ≠ 0:=λ e=>z1 (beq_iff_eq.mpr e);refine wpS_bind (wpS_get ?_)
 refine xh0 (yj0 (λ x (r:Option (Array Keyed) × Nat × Nat × Array Keyed × Nat) st'=>Same κ st st' /\ r.1=none /\ MidH lt a.toList b.toList (x + 1) none r.2.1 r.2.2.1 r.2.2.2.1)
  (Q:=λ (r:Option (Array Keyed) × Nat × Nat × Array Keyed × Nat) st'=>Same κ st st' /\ ∃ z,r.1=some z /\ Fin lt a.toList b.toList z.toList) ?_ ?_ ⟨⟨o,rfl,rfl⟩,rfl,m0,by show 0 < a.size - 1; omega,by show a.size - 1<=_; omega,by show 1 < b.size; omega,by show b.size<=_; omega,by show a.size - 1 + b.size + (0 + 1)<=_; omega⟩) ?_
 ·rintro F hF x ⟨r,i,j,out,mg⟩ st1 _ hx ⟨s1,rfl,mi⟩;subst hF;dsimp only at mi ⊢
  refine xh0 (yj0 (λ y (r:Option (Array Keyed) × Nat × Nat × Array Keyed × Nat × Nat) st'=>Same κ st st' /\ r.1=none /\ MidH lt a.toList b.toList (x + 1 + y) none r.2.1 r.2.2.1 r.2.2.2.1)
   (Q:=λ (r:Option (Array Keyed) × Nat × Nat × Array Keyed × Nat × Nat) st'=>Same κ st st' /\ MidH lt a.toList b.toList (x + 2) r.1 r.2.1 r.2.2.1 r.2.2.2.1) ?_ ?_ ⟨s1,rfl,mi⟩) ?_
  ·rintro F hF y ⟨r,i,j,out,ac,bc⟩ st2 _ hy ⟨s2,rfl,m,p1,p2,p3,p4,p5⟩;subst hF;dsimp only at m p1 p2 p3 p4 p5 ⊢;obtain ⟨n,rfl⟩:∃ n,i=n + 1:=⟨i - 1,by omega⟩;obtain ⟨l,rfl⟩:∃ l,j=l + 1:=⟨j - 1,by omega⟩;simp only [Nat.add_sub_cancel];refine tc0 (a:=b) (i:=l) [1] λ vb e1 e2 e3=>?_;refine tc0 (a:=a) (i:=n) [1] λ va e4 e5 e6=>?_;refine wpS_bind (yd0 e1 (wpS_bind (yd0 e4 (wpS_bind (zs1 c s2.ok (mb _ e3) (ma _ e6) ?_)))));cases q:lt vb va with
   | true =>
    dsimp only;refine wt0 rfl ?_;refine wpS_bind (yd0 e4 ?_);have m':=m.a sa e5 (up sb e2 va (c.lt_le q));rw [<- vn0] at m';refine yc0 (λ z=>?_) λ z=>?_
    ·exact wpS_pure ⟨s2,doneA m' (eq_of_beq z)⟩
    ·have z':n ≠ 0:=λ e=>z (beq_iff_eq.mpr e);refine yc0 (λ y1=>?_) λ y1=>?_
     ·exact wpS_pure ⟨s2,m',by show 0 < n; omega,by show n<=_; omega,p3,p4,by show n + (l + 1) + (x + 2)<=_; omega⟩
     ·exact wpS_pure ⟨s2,rfl,m',by show 0 < n; omega,by show n<=_; omega,p3,p4,by show n + (l + 1) + (x + 1 + (y + 1))<=_; omega⟩
   | false =>
    dsimp only;refine vt0 [24] ?_;refine wpS_bind (yd0 e1 ?_);have m':=m.b sb e2 (up sa e5 vb q);rw [<- vn0] at m';refine yc0 (λ z=>?_) λ z=>?_
    ·exact wpS_pure ⟨s2,firstB m' (eq_of_beq z)⟩
    ·have z':l ≠ 1:=λ e=>z (beq_iff_eq.mpr e);refine yc0 (λ y1=>?_) λ y1=>?_
     ·exact wpS_pure ⟨s2,m',p1,p2,by show 1 < l; omega,by show l<=_; omega,by show n + 1 + l + (x + 2)<=_; omega⟩
     ·exact wpS_pure ⟨s2,rfl,m',p1,p2,by show 1 < l; omega,by show l<=_; omega,by show n + 1 + l + (x + 1 + (y + 1))<=_; omega⟩
  ·rintro ⟨r,i,j,out,ac,bc⟩ st2 ⟨s2,rfl,m,p1,p2,p3,p4,p5⟩;exact ⟨s2,m,p1,p2,p3,p4,by dsimp only at p5 ⊢; omega⟩
  ·rintro F hF ⟨r,i,j,out,ac,bc⟩ st2 ⟨s2,mm⟩;subst hF;dsimp only at mm ⊢;cases r with
   | some z=>exact wpS_pure ⟨s2,z,rfl,mm⟩
   | none =>
    dsimp only;refine wpS_bind (wpS_lift (wpAny_rule ⟨rfl,?_⟩))
    refine xh0 (yj0 (λ y (r:Option (Array Keyed) × Nat × Nat × Array Keyed × Nat × Nat × Nat) st'=>Same κ st st' /\ r.1=none /\ MidH lt a.toList b.toList (x + 2) none r.2.1 r.2.2.1 r.2.2.2.1)
     (Q:=λ (r:Option (Array Keyed) × Nat × Nat × Array Keyed × Nat × Nat × Nat) st'=>Same κ st st' /\ MidH lt a.toList b.toList (x + 2) r.1 r.2.1 r.2.2.1 r.2.2.2.1) ?_ ?_ ⟨s2,rfl,mm⟩) ?_
    ·rintro F hF y ⟨r,i,j,out,mg,ac,bc⟩ st3 _ hy ⟨s3,rfl,m,p1,p2,p3,p4,p5⟩;subst hF;dsimp only at m p1 p2 p3 p4 p5 ⊢;have s3':∀ g:Nat,Same κ st (SortSt.mk' (kindOf st3) (arrOf st3) (pendingOf st3) g (failedOf st3)):=λ g=>⟨⟨s3.ok.kd,s3.ok.fl⟩,s3.ar,s3.pe⟩;refine tc0 (a:=b) (i:=j - 1) [1] λ vb e1 e2 e3=>?_;revert mg;refine uh2 (λ _=>rfl) λ mg=>?_;refine wpS_bind (wpS_modify ?_);refine wpS_bind (yd0 e1 ?_);refine wpS_bind (yt0 c (s3' _).ok (byF c ma [1] (mb _ e3) sa) [1] λ t k1 k2 k3=>?_);dsimp only;obtain ⟨k,rfl⟩:∃ k,i=t + k:=⟨i - t,by omega⟩
     have mk:=MH.as sa k m [1] λ ii y h1 h2 ey=>by
      have q:=k3 ii h1 h2;rw [getD_some (x:=y) (by rw [Nat.zero_add]; exact ey)] at q;have u:=up sb e2 y (c.lt_le (by simpa using q));rw [show j - 1 + 1=j by omega] at u;exact u
     have lo:∀ y ∈ a.toList.take t,le lt y vb:=by
      intro y hy;obtain ⟨ii,hi,ey⟩:=List.mem_take_iff_getElem.mp hy;have q:=k2 ii [1];rw [getD_some (x:=y) (by rw [Nat.zero_add]; exact List.getElem?_eq_some_iff.mpr ⟨by omega,ey⟩)] at q;exact (by simpa using q:lt vb y=false)
     refine yc0 (λ kp=>?_) λ kp=>?_
     ·rw [<- yw2,<- wp1] at mk;refine yc0 (λ z=>?_) λ z=>?_
      ·exact wpS_pure ⟨s3' _,doneA mk (eq_of_beq z)⟩
      ·have z':t ≠ 0:=λ e=>z (beq_iff_eq.mpr e);refine wpS_mono (nxB x _ bc _ _ (s3' _) mk [1] [1] p3 [1] [1] e1 e2 lo _ ?_) ?_
       ·intro _ _ _; rfl
       ·intro r st' q; cases r <;> exact q
     ·have k0:k=0:=by omega
      subst k0;refine wpS_mono (nxB x _ bc _ _ (s3' _) m [1] [1] p3 [1] [1] e1 e2 lo _ ?_) ?_
      ·intro _ _ _; rfl
      ·intro r st' q; cases r <;> exact q
    ·rintro ⟨r,i,j,out,mg,ac,bc⟩ st3 ⟨s3,rfl,m,p1,p2,p3,p4,p5⟩;exact ⟨s3,m,p1,p2,p3,p4,p5⟩
    ·rintro F hF ⟨r,i,j,out,mg,ac,bc⟩ st3 ⟨s3,mm⟩;subst hF;dsimp only at mm ⊢;cases r with
     | some z=>exact wpS_pure ⟨s3,z,rfl,mm⟩
     | none =>
      dsimp only;exact wpS_bind (wpS_modify (wpS_pure ⟨⟨⟨s3.ok.kd,s3.ok.fl⟩,s3.ar,s3.pe⟩,rfl,mm⟩))
 ·rintro ⟨r,i,j,out,mg⟩ st1 ⟨s1,rfl,m,p1,p2,p3,p4,p5⟩;exfalso;dsimp only at p1 p2 p3 p4 p5;omega
 ·rintro F hF ⟨r,i,j,out,mg⟩ st1 ⟨s1,z,e,f⟩;subst hF;dsimp only at e ⊢;subst e;exact wpS_pure (h z st1 s1 f)
end
theorem ye2 {xs:Array Keyed} {U V W:[33]} {i j:Nat} (h:xs.toList=U ++ (V ++ W)) (hi:i=U.length) (hj:j=U.length + V.length):(mirror xs i j ((j - i) / 2)).toList=U ++ (V.reverse ++ W):=by
 have hs:xs.size=U.length + (V.length + W.length):=by rw [<- length_toList,h]; simp
 apply ext_getElem?;intro k;rw [getElem?_toList,getElem?_mirror_all [1]];simp only [<- getElem?_toList,h];by_cases c:i<=k /\ k < j
 ·rw [if_pos c,getElem?_append_right [1],getElem?_append_left [1],getElem?_append_right [1],getElem?_append_left (by rw [length_reverse]; omega),List.getElem?_reverse [1]];congr 1;omega
 ·rw [if_neg c];by_cases d:k < i
  ·rw [getElem?_append_left [1],getElem?_append_left [1]]
  ·rw [getElem?_append_right [1],getElem?_append_right [1],getElem?_append_right [1],getElem?_append_right (by rw [length_reverse]; omega),length_reverse]
theorem wh2 {xs:Array Keyed} {U V W:[33]} {x:Keyed} {i j:Nat} (h:xs.toList=U ++ (V ++ x :: W)) (hi:i=U.length + V.length) (hj:j=U.length):(bubble xs i (i - j)).toList=U ++ x :: (V ++ W):=by
 have hs:xs.size=U.length + (V.length + (W.length + 1)):=by rw [<- length_toList,h]; simp
 apply ext_getElem?;intro k;rw [getElem?_toList,getElem?_bubble [1] (i - j) [1],show i - (i - j)=j by omega];simp only [<- getElem?_toList,h];by_cases c:k=j
 ·rw [if_pos c,getElem?_append_right [1],getElem?_append_right [1],getElem?_append_right [1],show i - U.length - V.length=0 by omega,show k - U.length=0 by omega];rfl
 ·rw [if_neg c];by_cases d:j < k /\ k<=i
  ·rw [if_pos d,getElem?_append_right [1],getElem?_append_left [1],getElem?_append_right [1],show k - U.length=(k - 1 - U.length) + 1 by omega,getElem?_cons_succ,getElem?_append_left [1]]
  ·rw [if_neg d];by_cases f:k < j
   ·rw [getElem?_append_left [1],getElem?_append_left [1]]
   ·rw [getElem?_append_right [1],getElem?_append_right [1],getElem?_append_right [1],show k - U.length=(k - 1 - U.length) + 1 by omega,getElem?_cons_succ,getElem?_append_right [1],show k - 1 - U.length + 1 - V.length=(k - 1 - U.length - V.length) + 1 by omega,getElem?_cons_succ]
structure At (κ:SortKind) (p:Array (Nat × Nat × Nat)) (st:SortSt) (L:List Keyed):Prop where
 ok:Ok κ st
 pe:pendingOf st=p
 ls:(arrOf st).toList=L
section
variable {prog:Program} {w:World} {A:Around} {E:[2]} {s:Shared} {κ:SortKind} {p:Array (Nat × Nat × Nat)}
variable {lt:Keyed->Keyed->Bool} {M:Keyed->Prop}
theorem zc1 (c:[26]) {st:SortSt} {L:[33]} {i j:Nat} {x y:Keyed} {Q:Option Bool->SortSt->Prop} (a:At κ p st L) (hM:∀ x ∈ L,M x) (ex:L[i]?=some x) (ey:L[j]?=some y) (h:Q (some (lt x y)) st):wpS [4] A E s (ltAt' i j) Q st:=by
 rw [ltAt'_eq];refine wpS_bind (wpS_get ?_);refine wpS_bind (yd0 (x:=x) (by rw [<- getElem?_toList,a.ls]; exact ex) (wpS_bind (yd0 (x:=y) (by rw [<- getElem?_toList,a.ls]; exact ey) ?_)));exact zs1 c a.ok (hM x (mem_of_getElem? ex)) (hM y (mem_of_getElem? ey)) h
theorem zh1 {st:SortSt} {U V W:[33]} {i j:Nat} {Q:Unit->SortSt->Prop} (a:At κ p st (U ++ (V ++ W))) (hi:i=U.length) (hj:j=U.length + V.length) (h:∀ st',At κ p st' (U ++ (V.reverse ++ W))->Q () st'):wpS [4] A E s (reverseSlice' i j) Q st:=by
 rw [reverseSlice'_eq];exact wpS_modify (h _ ⟨⟨a.ok.kd,a.ok.fl⟩,a.pe,ye2 a.ls hi hj⟩)
theorem si3 {st:SortSt} {U V W:[33]} {x:Keyed} {i j:Nat} {Q:Unit->SortSt->Prop} (a:At κ p st (U ++ (V ++ x :: W))) (hi:i=U.length + V.length) (hj:j=U.length) (h:∀ st',At κ p st' (U ++ x :: (V ++ W))->Q () st'):wpS [4] A E s (moveDown' i j) Q st:=by
 rw [moveDown'_eq];exact wpS_modify (h _ ⟨⟨a.ok.kd,a.ok.fl⟩,a.pe,wh2 a.ls hi hj⟩)
abbrev FA:=Nat->Option [34] × Nat->StateT SortSt Sem (ForInStep (Option [34] × Nat))
def isA (lo:Nat) (f:FA):Prop:=∀ x n,f x (none,n)=(ltAt' (lo + n) (lo + n - 1) >>= λ r=>match r with
 | some true=>pure (.done (none,n))
 | some false=>pure (.yield (none,n + 1))
 | none=>pure (.done (some none,n)))
theorem uq2 (c:[26]) {l:[33]} {n:Nat} {x y:Keyed} (h:(l.take (n + 1)).Pairwise (le lt)) (ex:l[n]?=some x) (ey:l[n + 1]?=some y) (k:le lt x y):(l.take (n + 2)).Pairwise (le lt):=by
 rw [xe0 ey];refine List.pairwise_append.mpr ⟨h,pairwise_singleton _ _,λ z hz v hv=>?_⟩;rw [mem_singleton] at hv;subst hv;rw [xe0 ex] at h hz;rcases List.mem_append.mp hz with hz | hz
 ·exact c.le_tr ((List.pairwise_append.mp h).2.2 z hz x (List.mem_singleton.mpr rfl)) k
 ·rw [mem_singleton] at hz; subst hz; exact k
theorem yk1 (c:[26]) {st:SortSt} {P R:[33]} {n0 lo:Nat} {f:FA} (hf:isA lo f) (a:At κ p st (P ++ R)) (hM:∀ x ∈ P ++ R,M x) (hlo:lo=P.length) (h1:1<=n0) (h2:n0<=R.length) (so:(R.take n0).Pairwise (le lt)) :
    wpS [4] A E s (forIn [n0:R.length] (none,n0) f) (λ r st'=>st'=st /\ r.1=none /\ n0<=r.2 /\ r.2<=R.length /\ (R.take r.2).Pairwise (le lt) /\ (r.2=R.length \/ ∃ x y,R[r.2]?=some y /\ R[r.2 - 1]?=some x /\ lt y x=true)) st:=by
 refine wpS_forRange (λ x (r:Option [34] × Nat) st'=>st'=st /\ r=(none,x) /\ n0<=x /\ x<=R.length /\ (R.take x).Pairwise (le lt)) ?_ ?_ ⟨rfl,rfl,Nat.le_refl _,h2,so⟩
 ·rintro x r st' _ hx ⟨rfl,rfl,a1,a2,a3⟩;rw [hf];obtain ⟨n,rfl⟩:∃ n,x=n + 1:=⟨x - 1,by omega⟩;have ey:R[n + 1]?=some R[n + 1]:=getElem?_eq_getElem hx;have ex:R[n]?=some R[n]:=getElem?_eq_getElem [1];refine wpS_bind (zc1 c a hM (x:=R[n + 1]) (y:=R[n]) (by rw [getElem?_append_right [1],show lo + (n + 1) - P.length=n + 1 by omega]; exact ey) (by rw [getElem?_append_right [1],show lo + (n + 1) - 1 - P.length=n by omega]; exact ex) ?_);cases q:lt R[n + 1] R[n] with
  | true=>exact wpS_pure ⟨rfl,rfl,a1,a2,a3,.inr ⟨R[n],R[n + 1],ey,ex,q⟩⟩
  | false=>exact wpS_pure ⟨rfl,rfl,by omega,by omega,uq2 c a3 ex ey q⟩
 ·rintro r st' ⟨rfl,rfl,a1,a2,a3⟩;exact ⟨rfl,rfl,a1,a2,a3,.inl (by show max n0 R.length=_; omega)⟩
theorem fin3 (c:[26]) {st:SortSt} {P V W:[33]} {n N lo:Nat} {f:FA} {g:Option [34] × Nat->StateT SortSt Sem [34]} {Q:Option Nat->SortSt->Prop} (hf:isA lo f) (hg:∀ n,g (none,n)=pure (some n)) (a:At κ p st (P ++ (V ++ W))) (hM:∀ x ∈ P ++ (V ++ W),M x) (hlo:lo=P.length)
    (hn:n=V.length) (hN:N=V.length + W.length) (h1:1<=n) (so:V.Pairwise λ x y=>le lt y x) (h:∀ m st' R,At κ p st' (P ++ R)->R.Perm (V ++ W)->1<=m->m<=N->(R.take m).Pairwise (le lt)->Q (some m) st') :
    wpS [4] A E s (reverseSlice' lo (lo + n) >>= λ _=>forIn [n:N] (none,n) f >>= g) Q st:=by
 refine wpS_bind (zh1 a hlo [1] λ st1 a1=>?_);have e:N=(V.reverse ++ W).length:=by rw [length_append,length_reverse]; exact hN
 have pm:(V.reverse ++ W).Perm (V ++ W):=List.Perm.append_right _ (reverse_perm V);subst e
 refine wpS_bind (wpS_mono (yk1 c hf a1 (λ x hx=>hM x (by
  rcases List.mem_append.mp hx with q | q
  ·exact mem_append_left _ q
  ·exact mem_append_right _ (pm.mem_iff.mp q))) hlo h1 (by rw [length_append,length_reverse]; omega) ?_) ?_)
 ·rw [hn,List.take_append_of_le_length (by rw [length_reverse]; omega),take_of_length_le (by rw [length_reverse]; omega)];exact List.pairwise_reverse.mpr so
 ·rintro ⟨r,m⟩ st2 ⟨rfl,rfl,b1,b2,b3,_⟩;dsimp only at b1 b2 b3 ⊢;rw [hg];exact wpS_pure (h m _ _ a1 pm [1] b2 b3)
abbrev FD:=Nat->Option [34] × Nat × Nat->StateT SortSt Sem (ForInStep (Option [34] × Nat × Nat))
def isD (lo:Nat) (f:FD):Prop:=∀ x n q,f x (none,n,q)=(ltAt' (lo + n) (lo + n - 1) >>= λ r=>match r with
 | some true=>if q > 0 then reverseSlice' (lo + n - (q + 1)) (lo + n) >>= λ _=>pure (.yield (none,n + 1,0)) else pure (.yield (none,n + 1,0))
 | some false=>ltAt' (lo + n - 1) (lo + n) >>= λ r=>match r with
  | some true=>pure (.done (none,n,q))
  | some false=>pure (.yield (none,n + 1,q + 1))
  | none=>pure (.done (some none,n,q))
 | none=>pure (.done (some none,n,q)))
structure Fall (κ:SortKind) (p:Array (Nat × Nat × Nat)) (lt:Keyed->Keyed->Bool) (P R:List Keyed) (st:SortSt) (n q:Nat) (X B W:List Keyed) (b:Keyed):Prop where
 at_:At κ p st (P ++ (X ++ (B ++ b :: W)))
 hn:n=X.length + B.length + 1
 hq:q=B.length
 pm:(X ++ (B ++ b :: W)).Perm R
 dn:(X ++ (B ++ [b])).Pairwise λ x y=>le lt y x
 eq:∀ x ∈ B,le lt x b /\ le lt b x
theorem Fall.low {P R X B W:[33]} {st:SortSt} {n q:Nat} {b:Keyed} (F:Fall κ p lt P R st n q X B W b):∀ z ∈ X ++ B,le lt b z:=by
 have d:=F.dn;rw [<- append_assoc] at d;exact λ z hz=>(List.pairwise_append.mp d).2.2 z hz b (List.mem_singleton.mpr rfl)
theorem Fall.rest {P R X B W:[33]} {st:SortSt} {n q:Nat} {b:Keyed} (F:Fall κ p lt P R st n q X B W b) (hx:n < R.length):∃ y W',W=y :: W':=by
 cases W with
 | cons y W'=>exact ⟨y,W',rfl⟩
 | nil =>
  have:=F.pm.length_eq;rw [length_append,length_append,length_cons,length_nil] at this;have:=F.hn;omega
theorem um3 (c:[26]) {P R X B W:[33]} {st:SortSt} {n q:Nat} {b:Keyed} (F:Fall κ p lt P R st n q X B W b):(X ++ (B ++ [b]).reverse).Pairwise λ x y=>le lt y x:=by
 obtain ⟨d1,d2,d3⟩:=List.pairwise_append.mp F.dn;refine List.pairwise_append.mpr ⟨d1,?_,λ x hx y hy=>d3 x hx y (List.mem_reverse.mp hy)⟩
 have all:∀ x ∈ B ++ [b],le lt x b /\ le lt b x:=λ x hx=>by
  rcases List.mem_append.mp hx with h | h
  ·exact F.eq x h
  ·rw [mem_singleton] at h; subst h; exact ⟨c.rf x,c.rf x⟩
 rw [List.pairwise_reverse];exact List.Pairwise.imp_of_mem (λ {x y} hx hy _=>c.le_tr (all x hx).1 (all y hy).2) d2
theorem zj3 (c:[26]) {st:SortSt} {P R X W:[33]} {y:Keyed} {n1 lo N:Nat} {f:FD} {g:Option [34] × Nat × Nat->StateT SortSt Sem [34]} {Q:Option Nat->SortSt->Prop} (hf:isD lo f)
    (hg:∀ n q,∃ J,g (none,n,q)=(if q > 0 then reverseSlice' (lo + n - (q + 1)) (lo + n) >>= λ _=>J else J) /\ ∀ st' V W,At κ p st' (P ++ (V ++ W))->(V ++ W).Perm R->n=V.length->1<=n->V.Pairwise (λ x y=>le lt y x)->wpS [4] A E s J Q st') (hlo:lo=P.length) (hN:N=R.length) (hR:∀ x ∈ P,M x) (hM:∀ x ∈ R,M x) (hn:n1=X.length) (a:At κ p st (P ++ (X ++ y :: W))) (pm:(X ++ y :: W).Perm R) (dn:(X ++ [y]).Pairwise λ x y=>le lt y x) :
    wpS [4] A E s (forIn [n1 + 1:N] (none,n1 + 1,0) f >>= g) Q st:=by
 have mem:∀ {L:[33]},L.Perm R->∀ x ∈ P ++ L,M x:=λ e x hx=>by
  rcases List.mem_append.mp hx with h | h
  ·exact hR x h
  ·exact hM x (e.mem_iff.mp h)
 refine wpS_bind (wpS_mono (wpS_forRange (λ x (r:Option [34] × Nat × Nat) st'=>∃ q X B W b,r=(none,x,q) /\ Fall κ p lt P R st' x q X B W b) (Q:=λ (r:Option [34] × Nat × Nat) st'=>∃ n q X B W b,r=(none,n,q) /\ Fall κ p lt P R st' n q X B W b) ?_ ?_ ⟨0,X,[],W,y,rfl,⟨a,by simp [hn],rfl,pm,dn,λ _ h=>nomatch h⟩⟩) ?_)
 ·rintro x r st1 _ hx ⟨q,X,B,W,b,rfl,F⟩;obtain ⟨v,W',rfl⟩:=F.rest [1];rw [hf];have L:=F.at_;have hn':=F.hn;have hq':=F.hq
  have e1:(P ++ (X ++ (B ++ b :: v :: W')))[lo + x]?=some v:=by
   rw [getElem?_append_right [1],getElem?_append_right [1],getElem?_append_right [1],show lo + x - P.length - X.length - B.length=1 by omega]; rfl
  have e2:(P ++ (X ++ (B ++ b :: v :: W')))[lo + x - 1]?=some b:=by
   rw [getElem?_append_right [1],getElem?_append_right [1],getElem?_append_right [1],show lo + x - 1 - P.length - X.length - B.length=0 by omega]; rfl
  refine wpS_bind (zc1 c L (mem F.pm) e1 e2 ?_);cases s1:lt v b with
  | true =>
   dsimp only
   have low:∀ z ∈ X ++ (B ++ [b]),le lt v z:=λ z hz=>by
    rw [<- append_assoc] at hz;rcases List.mem_append.mp hz with h | h
    ·exact c.le_tr (c.lt_le s1) (F.low z h)
    ·rw [mem_singleton] at h; subst h; exact c.lt_le s1
   by_cases z:q > 0
   ·rw [if_pos z];refine wpS_bind (zh1 (U:=P ++ X) (V:=B ++ [b]) (W:=v :: W') (by rw [append_assoc,append_assoc]; exact L) (by rw [length_append]; omega) (by simp only [length_append,length_cons,length_nil]; omega) λ st2 a2=>wpS_pure ⟨0,X ++ (B ++ [b]).reverse,[],W',v,rfl,?_⟩);refine ⟨by rw [append_assoc] at a2; simpa [append_assoc] using a2,by simp only [length_append,length_reverse,length_cons,length_nil]; omega,rfl,?_,?_,λ _ h=>nomatch h⟩
    ·refine .trans ?_ F.pm;rw [nil_append,append_assoc];refine List.Perm.append_left _ (.trans (List.Perm.append_right _ (reverse_perm _)) ?_);rw [append_assoc];exact .refl _
    ·rw [nil_append];refine List.pairwise_append.mpr ⟨um3 c F,pairwise_singleton _ _,λ z1 hz1 y1 hy1=>?_⟩;rw [mem_singleton] at hy1; subst hy1;refine low z1 ?_;rcases List.mem_append.mp hz1 with h | h
     ·exact mem_append_left _ h
     ·exact mem_append_right _ (List.mem_reverse.mp h)
   ·rw [if_neg z];have b0:B=[]:=List.eq_nil_of_length_eq_zero [1];subst b0;refine wpS_pure ⟨0,X ++ [b],[],W',v,rfl,⟨by simpa [append_assoc] using L,by simp only [length_append,length_cons,length_nil] at hn' ⊢; omega,rfl,by simpa [append_assoc] using F.pm,?_,λ _ h=>nomatch h⟩⟩;refine List.pairwise_append.mpr ⟨F.dn,pairwise_singleton _ _,λ z1 hz1 y1 hy1=>?_⟩;rw [nil_append,mem_singleton] at hy1; subst hy1;exact low z1 hz1
  | false =>
   dsimp only;refine wpS_bind (zc1 c L (mem F.pm) e2 e1 ?_);cases s2:lt b v with
   | true=>exact wpS_pure ⟨x,q,X,B,v :: W',b,rfl,F⟩
   | false =>
    refine wpS_pure ⟨q + 1,X,B ++ [b],W',v,rfl,⟨by simpa [append_assoc] using L,by simp only [length_append,length_cons,length_nil]; omega,by simp only [length_append,length_cons,length_nil]; omega,by simpa [append_assoc] using F.pm,?_,?_⟩⟩
    ·rw [<- append_assoc];refine List.pairwise_append.mpr ⟨F.dn,pairwise_singleton _ _,λ z1 hz1 y1 hy1=>?_⟩;rw [mem_singleton] at hy1; subst hy1;rw [<- append_assoc] at hz1;rcases List.mem_append.mp hz1 with h | h
     ·exact c.le_tr s2 (F.low z1 h)
     ·rw [mem_singleton] at h; subst h; exact s2
    ·intro z hz;rcases List.mem_append.mp hz with h | h
     ·exact ⟨c.le_tr (F.eq z h).1 s1,c.le_tr s2 (F.eq z h).2⟩
     ·rw [mem_singleton] at h; subst h; exact ⟨s1,s2⟩
 ·rintro r st1 ⟨q,X,B,W,b,rfl,F⟩;exact ⟨_,q,X,B,W,b,rfl,F⟩
 ·rintro r st1 ⟨n,q,X,B,W,b,rfl,F⟩;obtain ⟨J,eJ,hJ⟩:=hg n q;rw [eJ];have hn':=F.hn;have hq':=F.hq;by_cases z:q > 0
  ·rw [if_pos z];refine wpS_bind (zh1 (U:=P ++ X) (V:=B ++ [b]) (W:=W) (by simpa [append_assoc] using F.at_) (by rw [length_append]; omega) (by simp only [length_append,length_cons,length_nil]; omega) λ st2 a2=>?_);refine hJ st2 (X ++ (B ++ [b]).reverse) W (by rw [append_assoc] at a2; rw [append_assoc]; exact a2) ?_ (by simp only [length_append,length_reverse,length_cons,length_nil]; omega) [1] (um3 c F);refine .trans ?_ F.pm;rw [append_assoc];refine List.Perm.append_left _ (.trans (List.Perm.append_right _ (reverse_perm _)) ?_);rw [append_assoc];exact .refl _
  ·rw [if_neg z];exact hJ st1 (X ++ (B ++ [b])) W (by simpa [append_assoc] using F.at_) (by simpa [append_assoc] using F.pm) (by simp only [length_append,length_cons,length_nil]; omega) [1] F.dn
theorem wn3 (c:[26]) {st:SortSt} {P R:[33]} {lo:Nat} {Q:Option Nat->SortSt->Prop} (a:At κ p st (P ++ R)) (hM:∀ x ∈ P ++ R,M x) (hlo:lo=P.length) (h1:1<=R.length)
    (h:∀ m st' R',At κ p st' (P ++ R')->R'.Perm R->1<=m->m<=R.length->(R'.take m).Pairwise (le lt)->Q (some m) st'):wpS [4] A E s (countRun' lo R.length) Q st:=by
 have isa:∀ {f:FA},f=(λ x __s=>(ltAt' (lo + __s.2) (lo + __s.2 - 1) >>= λ r=>match r with
  | some b=>if b=true then pure (.done (none,__s.2)) else pure (.yield (none,__s.2 + 1))
  | x=>pure (.done (some none,__s.2))))->isA lo f:=by
  rintro f rfl x n;refine congrArg _ (funext λ r=>?_);rcases r with _ | _ | _ <;> rfl
 have r0:R[0]?=some R[0]:=getElem?_eq_getElem h1
 have fall:∀ {st1:SortSt} {X W:[33]} {y:Keyed},At κ p st1 (P ++ (X ++ y :: W))->(X ++ y :: W).Perm R->(X ++ [y]).Pairwise (λ x y=>le lt y x)->∀ {n1:Nat},n1=X.length->∀ {f:FD} {g:Option [34] × Nat × Nat->StateT SortSt Sem [34]},isD lo f ->
     (∀ n q,∃ (J:StateT SortSt Sem [34]) (f:FA) (g':Option [34] × Nat->StateT SortSt Sem [34]),g (none,n,q)=(if q > 0 then reverseSlice' (lo + n - (q + 1)) (lo + n) >>= λ _=>J else J) /\ isA lo f /\ (∀ n,g' (none,n)=pure (some n)) /\ J=(reverseSlice' lo (lo + n) >>= λ _=>forIn [n:R.length] (none,n) f >>= g')) ->
     wpS [4] A E s (forIn [n1 + 1:R.length] (none,n1 + 1,0) f >>= g) Q st1:=by
  intro st1 X W y a1 pm dn n1 hn f g hf hg;refine zj3 c hf (λ n q=>?_) hlo rfl (λ x hx=>hM x (mem_append_left _ hx)) (λ x hx=>hM x (mem_append_right _ hx)) hn a1 pm dn;obtain ⟨J,f,g',e1,hf,hg,e⟩:=hg n q;refine ⟨J,e1,?_⟩;intro st2 V W a2 pm2 hn2 h2 so;rw [e];have ll:=pm2.length_eq;rw [length_append] at ll;refine fin3 c hf hg a2 (λ x hx=>?_) hlo hn2 ll.symm h2 so λ m st' R' a3 pm3 m1 m2 so3=>h m st' R' a3 (pm3.trans pm2) m1 m2 so3;rcases List.mem_append.mp hx with q | q
  ·exact hM x (mem_append_left _ q)
  ·exact hM x (mem_append_right _ (pm2.mem_iff.mp q))
 refine wpS_bind (wpS_mono (yk1 c (f:=_) (isa rfl) a hM hlo (Nat.le_refl 1) h1 (by rw [xe0 r0]; exact pairwise_singleton _ _)) ?_);rintro ⟨r,n⟩ st1 ⟨rfl,rfl,b1,b2,b3,b4⟩;dsimp only at b1 b2 b3 b4 ⊢;by_cases z:(n == R.length)=true
 ·rw [if_pos z];exact wpS_pure (h n _ R a (.refl _) b1 b2 b3)
 rw [if_neg z];have z':n ≠ R.length:=λ e=>z (beq_iff_eq.mpr e);rcases b4 with b4 | ⟨x,y,ey,ex,q⟩
 ·exact absurd b4 z'
 have d:R=R.take n ++ y :: R.drop (n + 1):=by
  have:=take_append_drop n R;rw [vg0 ey] at this;exact this.symm
 by_cases n1:n > 1
 ·rw [if_pos n1];refine wpS_bind (zc1 c a hM (x:=R[0]) (y:=x) (by rw [getElem?_append_right [1],show lo - P.length=0 by omega]; exact r0) (by rw [getElem?_append_right [1],show lo + n - 1 - P.length=n - 1 by omega]; exact ex) ?_);cases q2:lt R[0] x with
  | true=>exact wpS_pure (h n _ R a (.refl _) b1 b2 b3)
  | false =>
   dsimp only;rw [if_neg [24]]
   have all:∀ u ∈ R.take n,le lt u x /\ le lt x u:=by
    have e0:(R.take n)[0]?=some R[0]:=by rw [getElem?_take_of_lt [1]]; exact r0
    have el:(R.take n)[n - 1]?=some x:=by rw [getElem?_take_of_lt [1]]; exact ex
    intro u hu;obtain ⟨i,hi⟩:=List.mem_iff_getElem?.mp hu
    have li:i < n:=by
     have:=(List.getElem?_eq_some_iff.mp hi).1;rw [length_take] at this;omega
    constructor
    ·by_cases e:i=n - 1
     ·subst e; rw [el] at hi; cases hi; exact c.rf _
     ·exact tl0 b3 [1] hi el
    ·by_cases e:i=0
     ·subst e; rw [e0] at hi; cases hi; exact q2
     ·exact c.le_tr q2 (tl0 b3 [1] e0 hi)
   have lt1:(R.take n).length=n:=by rw [length_take]; omega
   refine wpS_bind (zh1 (U:=P) (V:=R.take n) (W:=y :: R.drop (n + 1)) (by rw [<- d]; exact a) hlo [1] λ st2 a2=>?_);refine wpS_bind (wpS_lift (wpAny_rule ⟨rfl,?_⟩));refine fall a2 ?_ ?_ (by rw [length_reverse]; exact lt1.symm) ?_ ?_
   ·refine .trans (List.Perm.append_right _ (reverse_perm _)) ?_;rw [<- d]
   ·refine List.pairwise_append.mpr ⟨?_,pairwise_singleton _ _,λ u hu v hv=>?_⟩
    ·rw [List.pairwise_reverse];exact b3
    ·rw [mem_singleton] at hv; subst hv;exact c.le_tr (c.lt_le q) (all u (List.mem_reverse.mp hu)).2
   ·intro x n q;refine congrArg _ (funext λ r=>?_);rcases r with _ | _ | _
    ·rfl
    ·dsimp only;rw [if_neg [24]];refine congrArg _ (funext λ r=>?_);rcases r with _ | _ | _ <;> rfl
    ·rfl
   ·intro n q;exact ⟨_,_,_,rfl,isa rfl,λ _=>rfl,rfl⟩
 ·rw [if_neg n1];have e1:n=1:=by omega
  subst e1;refine wpS_bind (wpS_lift (wpAny_rule ⟨rfl,?_⟩));have t1:=xe0 r0;rw [take_zero,nil_append] at t1;have ex0:x=R[0]:=by rw [show 1 - 1=0 from rfl,r0] at ex; cases ex; rfl
  rw [show (0:Nat) + 1=1 from rfl] at t1;rw [t1] at d;refine fall (X:=[R[0]]) (y:=y) (W:=R.drop (1 + 1)) (by rw [<- d]; exact a) (by rw [<- d]) ?_ rfl ?_ ?_
  ·refine List.pairwise_append.mpr ⟨pairwise_singleton _ _,pairwise_singleton _ _,λ u hu v hv=>?_⟩;rw [mem_singleton] at hu hv;subst hu hv;rw [<- ex0];exact c.lt_le q
  ·intro x n q;refine congrArg _ (funext λ r=>?_);rcases r with _ | _ | _
   ·rfl
   ·dsimp only;rw [if_neg [24]];refine congrArg _ (funext λ r=>?_);rcases r with _ | _ | _ <;> rfl
   ·rfl
  ·intro n q;exact ⟨_,_,_,rfl,isa rfl,λ _=>rfl,rfl⟩
end
section
variable {prog:Program} {w:World} {A:Around} {E:[2]} {s:Shared} {κ:SortKind} {p:Array (Nat × Nat × Nat)}
variable {lt:Keyed->Keyed->Bool} {M:Keyed->Prop}
theorem vz1 (c:[26]) {st:SortSt} {P R:[33]} {lo n ok:Nat} {Q:Bool->SortSt->Prop} (a:At κ p st (P ++ R)) (hM:∀ x ∈ P ++ R,M x) (hlo:lo=P.length) (h1:1<=ok) (h2:ok<=n) (h3:n<=R.length) (so:(R.take ok).Pairwise (le lt))
    (h:∀ st' R',At κ p st' (P ++ R')->R'.Perm R->(R'.take n).Pairwise (le lt)->Q true st'):wpS [4] A E s (binarySort' lo n ok) Q st:=by
 refine wpS_bind (wpS_mono (wpS_forRange (λ x (r:Option Bool × Unit) st'=>r=(none,()) /\ ∃ R',At κ p st' (P ++ R') /\ R'.Perm R /\ (R'.take x).Pairwise (le lt)) (Q:=λ (r:Option Bool × Unit) st'=>r=(none,()) /\ ∃ R',At κ p st' (P ++ R') /\ R'.Perm R /\ (R'.take n).Pairwise (le lt)) ?_ ?_ ⟨rfl,R,a,.refl _,by rw [show max ok 1=ok by omega]; exact so⟩) ?_)
 ·rintro k r st1 hk0 hk ⟨rfl,R',a1,pm,so1⟩;have ll:=pm.length_eq
  have hM1:∀ x ∈ P ++ R',M x:=λ x hx=>by
   rcases List.mem_append.mp hx with q | q
   ·exact hM x (mem_append_left _ q)
   ·exact hM x (mem_append_right _ (pm.mem_iff.mp q))
  have ev:R'[k]?=some R'[k]:=getElem?_eq_getElem [1];have at':∀ {m:Nat} {x:Keyed},R'[m]?=some x->m < k->(R'.take k)[m]?=some x:=λ e l=>by rw [getElem?_take_of_lt l]; exact e
  dsimp only
  refine wpS_bind (wpS_mono (wpS_forRange (λ y (r:Option Bool × Nat × Nat) st'=>st'=st1 /\ r.1=none /\ r.2.1<=r.2.2 /\ r.2.2<=k /\ r.2.2 - r.2.1<=k - y /\ (∀ i x,i < r.2.1->R'[i]?=some x->le lt x R'[k]) /\ ∀ i x,r.2.2<=i->i < k->R'[i]?=some x->le lt R'[k] x)
   (Q:=λ (r:Option Bool × Nat × Nat) st'=>st'=st1 /\ r.1=none /\ r.2.1<=k /\ (∀ i x,i < r.2.1->R'[i]?=some x->le lt x R'[k]) /\ ∀ i x,r.2.1<=i->i < k->R'[i]?=some x->le lt R'[k] x) ?_ ?_ ⟨rfl,rfl,Nat.zero_le _,Nat.le_refl _,Nat.le_refl _,λ i x hi=>absurd hi (Nat.not_lt_zero _),λ i x h1 h2=>absurd h2 (by show ¬ i < k; exact Nat.not_lt.mpr h1)⟩) ?_)
  ·rintro y ⟨r,l,u⟩ st2 _ hy ⟨rfl,rfl,b1,b2,b3,b4,b5⟩;dsimp only at b1 b2 b3 b4 b5 ⊢;by_cases z:l ≥ u
   ·rw [if_pos z];have:l=u:=by omega
    subst this;exact wpS_pure ⟨rfl,rfl,b2,b4,b5⟩
   ·rw [if_neg z];have em:R'[(l + u) / 2]?=some R'[(l + u) / 2]:=getElem?_eq_getElem [1];refine wpS_bind (zc1 c a1 hM1 (x:=R'[k]) (y:=R'[(l + u) / 2]) (by rw [getElem?_append_right [1],show lo + k - P.length=k by omega]; exact ev) (by rw [getElem?_append_right [1],show lo + (l + u) / 2 - P.length=(l + u) / 2 by omega]; exact em) ?_);cases q:lt R'[k] R'[(l + u) / 2] with
    | true =>
     refine wpS_pure ⟨rfl,rfl,by show l<=(l + u) / 2; omega,by show (l + u) / 2<=k; omega,by show (l + u) / 2 - l<=_; omega,b4,λ i x h1 h2 ex=>?_⟩;by_cases e:i=(l + u) / 2
     ·subst e; rw [em] at ex; cases ex; exact c.lt_le q
     ·have h1':(l + u) / 2<=i:=h1;exact c.le_tr (c.lt_le q) (tl0 so1 (show (l + u) / 2 < i by omega) (at' em [1]) (at' ex h2))
    | false =>
     refine wpS_pure ⟨rfl,rfl,by show (l + u) / 2 + 1<=u; omega,b2,by show u - ((l + u) / 2 + 1)<=_; omega,λ i x h1 ex=>?_,b5⟩;have h1':i < (l + u) / 2 + 1:=h1;by_cases e:i=(l + u) / 2
     ·subst e; rw [em] at ex; cases ex; exact q
     ·exact c.le_tr (tl0 so1 (show i < (l + u) / 2 by omega) (at' ex [1]) (at' em [1])) q
  ·rintro ⟨r,l,u⟩ st2 ⟨rfl,rfl,b1,b2,b3,b4,b5⟩;dsimp only at b1 b2 b3 b4 b5 ⊢;have:l=u:=by have:u - l<=k - max 0 k:=b3; omega
   subst this;exact ⟨rfl,rfl,b2,b4,b5⟩
  ·rintro ⟨r,l,u⟩ st2 ⟨rfl,rfl,b2,b4,b5⟩;dsimp only at b2 b4 b5 ⊢
   have d:R'=R'.take l ++ ((R'.take k).drop l ++ R'[k] :: R'.drop (k + 1)):=by
    have e1:=take_append_drop k R';rw [vg0 ev] at e1;have e2:=take_append_drop l (R'.take k);rw [List.take_take,show min l k=l by omega] at e2;rw [<- append_assoc,e2];exact e1.symm
   have t1:(R'.take l).length=l:=by rw [length_take]; omega
   have t2:((R'.take k).drop l).length=k - l:=by rw [length_drop,length_take]; omega
   refine wpS_bind (si3 (U:=P ++ R'.take l) (V:=(R'.take k).drop l) (x:=R'[k]) (W:=R'.drop (k + 1)) (by rw [append_assoc,<- d]; exact a1) (by rw [length_append]; omega) (by rw [length_append]; omega) λ st3 a3=>wpS_pure ⟨rfl,R'.take l ++ R'[k] :: ((R'.take k).drop l ++ R'.drop (k + 1)),by rw [append_assoc] at a3; exact a3,?_,?_⟩)
   ·refine .trans ?_ pm
    conv=>rhs; rw [d]
    exact List.Perm.append_left _ List.perm_middle.symm
   ·have e:(R'.take l ++ R'[k] :: ((R'.take k).drop l ++ R'.drop (k + 1))).take (k + 1)=R'.take l ++ R'[k] :: (R'.take k).drop l:=by
      rw [<- cons_append,<- append_assoc];exact List.take_left' (by simp only [length_append,length_cons]; omega)
    rw [e]
    have m1:∀ z ∈ R'.take l,le lt z R'[k]:=λ z hz=>by
     obtain ⟨i,hi,ez⟩:=List.mem_take_iff_getElem.mp hz;exact b4 i z [1] (List.getElem?_eq_some_iff.mpr ⟨by omega,ez⟩)
    have m2:∀ z ∈ (R'.take k).drop l,le lt R'[k] z:=λ z hz=>by
     obtain ⟨i,hi,ez⟩:=List.mem_drop_iff_getElem.mp hz;have hi':i + l < k:=by rw [length_take] at hi; omega
     rw [List.getElem_take] at ez;exact b5 (l + i) z [1] [1] (List.getElem?_eq_some_iff.mpr ⟨by omega,ez⟩)
    have so2:=so1;have e2:=take_append_drop l (R'.take k);rw [List.take_take,show min l k=l by omega] at e2;rw [<- e2] at so2;obtain ⟨p1,p2,p3⟩:=List.pairwise_append.mp so2;refine List.pairwise_append.mpr ⟨p1,List.pairwise_cons.mpr ⟨m2,p2⟩,λ z hz v hv=>?_⟩;rcases List.mem_cons.mp hv with rfl | hv
    ·exact m1 z hz
    ·exact p3 z hz v hv
 ·rintro r st1 ⟨rfl,R',a1,pm,so1⟩;exact ⟨rfl,R',a1,pm,by rw [show max (max ok 1) n=n by omega] at so1; exact so1⟩
 ·rintro r st1 ⟨rfl,R',a1,pm,so1⟩;exact wpS_pure (h st1 R' a1 pm so1)
end
theorem wb (s:Nat):∀ (m V U W:[33]) (arr:Array Keyed) (o:Nat),arr.toList=U ++ (V ++ W)->V.length=m.length->U.length=s + o ->
    ((m.zipIdx o).foldl (λ (a:Array Keyed) (x:Keyed × Nat)=>match x with | (q,j)=>a.setIfInBounds (s + j) q) arr).toList=U ++ (m ++ W)
 | [],V,U,W,arr,o,h,l,_=>by
  have e:V=[]:=List.eq_nil_of_length_eq_zero l;subst e;exact h
 | v :: m,V,U,W,arr,o,h,l,hu=>by
  cases V with
  | nil=>simp at l
  | cons u V =>
   rw [List.zipIdx_cons,foldl_cons]
   have:=wb s m V (U ++ [v]) W (arr.setIfInBounds (s + o) v) (o + 1) (by
    rw [Array.toList_setIfInBounds,h,List.set_append_right _ _ [1],show s + o - U.length=0 by omega];simp) (by simpa using l) (by simp; omega)
   rw [append_assoc] at this;exact this
section
variable {prog:Program} {w:World} {A:Around} {E:[2]} {s:Shared} {κ:SortKind} {p:Array (Nat × Nat × Nat)}
variable {lt:Keyed->Keyed->Bool} {M:Keyed->Prop}
theorem wn2 {σ:Type} {Md:Model} {s':σ} {Q:PUnit->σ->Prop} {st:σ} (h:Q ⟨⟩ s'):wpS Md A E s (set s':StateT σ Sem PUnit) Q st:=by
 unfold wpS; rw [StateT.run_set]; exact wpAny_pure ⟨rfl,h⟩
theorem tg1 {arr:Array Keyed} {P r S:[33]} {b i:Nat} (h:arr.toList=P ++ (r ++ S)) (hb:b=P.length) (hi:i < r.length):arr[b + i]?=some r[i]:=by
 rw [<- getElem?_toList,h,getElem?_append_right [1],getElem?_append_left [1],show b + i - P.length=i by omega];exact getElem?_eq_getElem hi
theorem bsF (c:[26]) {arr:Array Keyed} {P r S:[33]} {b:Nat} {key:Keyed} (h:arr.toList=P ++ (r ++ S)) (hb:b=P.length) (hM:∀ x ∈ r,M x) (mk:M key) (so:r.Pairwise (le lt)):By lt M false key arr b r.length (λ i=>!lt key (r.getD i key)) where
 ky:=mk
 it:=λ i hi=>⟨r[i],tg1 h hb hi,hM _ (getElem_mem hi),by rw [getD_some (getElem?_eq_getElem hi),if_neg [24]]⟩
 mono:=λ i j hij hj q=>by
  by_cases z:i=j
  ·subst z; exact q
  have e1:=getElem?_eq_getElem (l:=r) (i:=i) [1];have e2:=getElem?_eq_getElem hj;have l:=tl0 so (show i < j by omega) e1 e2;rw [getD_some e2] at q;rw [getD_some e1];have h':le lt r[j] key:=(by simpa using q:lt key r[j]=false);have z:lt key r[i]=false:=c.le_tr l h';simpa using z
theorem bsT (c:[26]) {arr:Array Keyed} {P r S:[33]} {b:Nat} {key:Keyed} (h:arr.toList=P ++ (r ++ S)) (hb:b=P.length) (hM:∀ x ∈ r,M x) (mk:M key) (so:r.Pairwise (le lt)):By lt M true key arr b r.length (λ i=>lt (r.getD i key) key) where
 ky:=mk
 it:=λ i hi=>⟨r[i],tg1 h hb hi,hM _ (getElem_mem hi),by rw [getD_some (getElem?_eq_getElem hi),if_pos rfl]⟩
 mono:=λ i j hij hj q=>by
  by_cases z:i=j
  ·subst z; exact q
  have e1:=getElem?_eq_getElem (l:=r) (i:=i) [1];have e2:=getElem?_eq_getElem hj;have l:=tl0 so (show i < j by omega) e1 e2;rw [getD_some e2] at q;rw [getD_some e1];rcases c.ng r[j] r[i] key q with z | z
  ·rw [show lt r[j] r[i]=false from l] at z; cases z
  ·exact z
theorem vj3 (c:[26]) {st:SortSt} {P r1 r2 S:[33]} {i sa na pw sb nb pw2:Nat} {Q:Bool->SortSt->Prop} (a:At κ p st (P ++ (r1 ++ (r2 ++ S)))) (hM:∀ x ∈ r1 ++ r2,M x) (e1:p[i]?=some (sa,na,pw)) (e2:p[i + 1]?=some (sb,nb,pw2)) (hsa:sa=P.length) (hna:na=r1.length) (hsb:sb=P.length + r1.length) (hnb:nb=r2.length)
    (n1:0 < r1.length) (n2:0 < r2.length) (s1:r1.Pairwise (le lt)) (s2:r2.Pairwise (le lt)) (h:∀ st' m,At κ ((p.setIfInBounds i (sa,na + nb,pw)).eraseIdxIfInBounds (i + 1)) st' (P ++ (m ++ S))->m.Perm (r1 ++ r2)->m.Pairwise (le lt)->Q true st') :
    wpS [4] A E s (mergeAt' i) Q st:=by
 refine wpS_bind (wpS_get ?_);obtain rfl:=a.pe;have ls:=a.ls;rw [e1,e2];dsimp only;have M1:∀ x ∈ r1,M x:=λ x hx=>hM x (mem_append_left _ hx);have M2:∀ x ∈ r2,M x:=λ x hx=>hM x (mem_append_right _ hx);have ls2:(arrOf st).toList=(P ++ r1) ++ (r2 ++ S):=by rw [append_assoc]; exact ls
 have hsb':sb=(P ++ r1).length:=by rw [length_append]; exact hsb
 have k0:r2[0]?=some r2[0]:=getElem?_eq_getElem n2;have kl:r1[r1.length - 1]?=some r1[r1.length - 1]:=getElem?_eq_getElem [1]
 have fin:∀ {st':SortSt},Ok κ st'->arrOf st'=arrOf st->pendingOf st'=((pendingOf st).setIfInBounds i (sa,na + nb,pw)).eraseIdxIfInBounds (i + 1)->(∀ x ∈ r1,∀ y ∈ r2,le lt x y)->Q true st':=λ o ea ep hx =>
  h _ (r1 ++ r2) ⟨o,ep,by rw [ea,ls,append_assoc]⟩ (.refl _) (List.pairwise_append.mpr ⟨s1,s2,hx⟩)
 refine wpS_bind (wn2 ?_);refine wpS_bind (yd0 (x:=r2[0]) (by have:=tg1 (i:=0) ls2 hsb' n2; exact this) ?_);subst hna hnb;refine wpS_bind (yt0 c ⟨a.ok.kd,a.ok.fl⟩ (bsF c ls hsa M1 (M2 _ (getElem_mem n2)) s1) n1 λ k k1 k2 k3=>?_);dsimp only
 have lowA:∀ i x,i < k->r1[i]?=some x->le lt x r2[0]:=λ i x hi ex=>by
  have q:=k2 i hi;rw [getD_some ex] at q;exact (by simpa using q:lt r2[0] x=false)
 have highA:∀ i x,k<=i->r1[i]?=some x->le lt r2[0] x:=λ i x hi ex=>by
  have q:=k3 i hi (List.getElem?_eq_some_iff.mp ex).1;rw [getD_some ex] at q;exact c.lt_le (by simpa using q)
 have first2:∀ y ∈ r2,le lt r2[0] y:=λ y hy=>by
  obtain ⟨j,hj,rfl⟩:=List.mem_iff_getElem.mp hy;by_cases z:j=0
  ·subst z; exact c.rf _
  ·exact tl0 s2 [1] k0 (getElem?_eq_getElem hj)
 have last1:∀ x ∈ r1,le lt x r1[r1.length - 1]:=λ x hx=>by
  obtain ⟨j,hj,rfl⟩:=List.mem_iff_getElem.mp hx;by_cases z:j=r1.length - 1
  ·subst z; exact c.rf _
  ·exact tl0 s1 [1] (getElem?_eq_getElem hj) kl
 by_cases z:(r1.length - k == 0)=true
 ·rw [if_pos z];have z':r1.length - k=0:=eq_of_beq z;refine wpS_pure (fin ⟨a.ok.kd,a.ok.fl⟩ rfl rfl λ x hx y hy=>?_);obtain ⟨j,hj,rfl⟩:=List.mem_iff_getElem.mp hx;exact c.le_tr (lowA j _ [1] (getElem?_eq_getElem hj)) (first2 y hy)
 rw [if_neg z];have z':r1.length - k ≠ 0:=λ e=>z (beq_iff_eq.mpr e)
 refine wpS_bind (yd0 (x:=r1[r1.length - 1]) (by
  have:=tg1 (i:=r1.length - 1) ls hsa [1];rw [show sa + k + (r1.length - k) - 1=sa + (r1.length - 1) by omega];exact this) ?_)
 refine wpS_bind (yt0 c ⟨a.ok.kd,a.ok.fl⟩ (bsT c ls2 hsb' M2 (M1 _ (getElem_mem _)) s2) [1] λ t t1 t2 t3=>?_);dsimp only
 have lowB:∀ i y,i < t->r2[i]?=some y->le lt y r1[r1.length - 1]:=λ i y hi ey=>by
  have q:=t2 i hi;rw [getD_some ey] at q;exact c.lt_le q
 have highB:∀ i y,t<=i->r2[i]?=some y->le lt r1[r1.length - 1] y:=λ i y hi ey=>by
  have q:=t3 i hi (List.getElem?_eq_some_iff.mp ey).1;rw [getD_some ey] at q;exact q
 by_cases zt:(t == 0)=true
 ·rw [if_pos zt];have zt':t=0:=eq_of_beq zt;refine wpS_pure (fin ⟨a.ok.kd,a.ok.fl⟩ rfl rfl λ x hx y hy=>?_);obtain ⟨j,hj,rfl⟩:=List.mem_iff_getElem.mp hy;exact c.le_tr (last1 x hx) (highB j _ [1] (getElem?_eq_getElem hj))
 rw [if_neg zt];have zt':t ≠ 0:=λ e=>zt (beq_iff_eq.mpr e)
 have xs:((arrOf st).extract (sa + k) sb).toList=r1.drop k:=by
  rw [yw2,ls2,List.take_append_of_le_length [1],take_of_length_le [1],List.drop_append,show sa + k - P.length=k by omega,drop_eq_nil_of_le [1],nil_append]
 have ys:((arrOf st).extract sb (sb + t)).toList=r2.take t:=by
  rw [zw2,ls2,List.drop_left' hsb'.symm,List.take_append_of_le_length [1]]
 have dx:∀ x ∈ r1.drop k,∃ j,k<=j /\ r1[j]?=some x:=λ x hx=>by
  obtain ⟨j,hj,rfl⟩:=List.mem_drop_iff_getElem.mp hx;exact ⟨k + j,by omega,getElem?_eq_getElem [1]⟩
 have dy:∀ y ∈ r2.take t,∃ j,j < t /\ r2[j]?=some y:=λ y hy=>by
  obtain ⟨j,hj,rfl⟩:=List.mem_take_iff_getElem.mp hy;exact ⟨j,by omega,getElem?_eq_getElem [1]⟩
 have done:∀ (mg:Array Keyed) (st2:SortSt),Same κ (SortSt.mk' (kindOf st) (arrOf st) (((pendingOf st).setIfInBounds i (sa,r1.length + r2.length,pw)).eraseIdxIfInBounds (i + 1)) (gallopOf st) (failedOf st)) st2->Fin lt (r1.drop k) (r2.take t) mg.toList ->
     ∀ (f:SortSt->SortSt),(∀ u,f u=setArr u (mg.toList.zipIdx.foldl (λ (a:Array Keyed) (x:Keyed × Nat)=>match x with | (q,j)=>a.setIfInBounds (sa + k + j) q) (arrOf u)))->wpS [4] A E s (modify f >>= λ _=>get >>= λ u=>pure (failedOf u).isNone) Q st2:=by
  intro mg st2 sm F f hf;refine wpS_bind (wpS_modify (wpS_bind (wpS_get ?_)));rw [hf]
  have e:(failedOf (setArr st2 (mg.toList.zipIdx.foldl (λ (a:Array Keyed) (x:Keyed × Nat)=>match x with | (q,j)=>a.setIfInBounds (sa + k + j) q) (arrOf st2)))).isNone=true:=by
   show (failedOf st2).isNone=true;rw [sm.ok.fl]; rfl
  rw [e];have l1:(r1.take k).length=k:=by rw [length_take]; omega
  have l2:mg.toList.length=(r1.drop k ++ r2.take t).length:=F.1.length_eq
  have wbk:=wb (sa + k) mg.toList (r1.drop k ++ r2.take t) (P ++ r1.take k) (r2.drop t ++ S) (arrOf st2) 0 (by
   rw [sm.ar];show (arrOf st).toList=_;rw [ls];simp only [append_assoc];rw [<- append_assoc (r1.take k),take_append_drop,<- append_assoc (r2.take t),take_append_drop]) l2.symm (by rw [length_append]; omega)
  refine wpS_pure (h _ (r1.take k ++ mg.toList ++ r2.drop t) ⟨⟨sm.ok.kd,sm.ok.fl⟩,sm.pe,?_⟩ ?_ ?_)
  ·refine wbk.trans ?_;simp only [append_assoc]
  ·have q:=F.1;refine .trans (List.Perm.append_right _ (List.Perm.append_left _ q)) ?_;rw [<- append_assoc (r1.take k),take_append_drop,append_assoc,take_append_drop]
  ·have mem:∀ v ∈ mg.toList,v ∈ r1.drop k \/ v ∈ r2.take t:=λ v hv=>List.mem_append.mp (F.1.mem_iff.mp hv)
   have lowk:∀ x ∈ r1.take k,le lt x r2[0]:=λ x hx=>by
    obtain ⟨j,hj,rfl⟩:=List.mem_take_iff_getElem.mp hx;exact lowA j _ [1] (getElem?_eq_getElem [1])
   have s1':=s1;rw [<- take_append_drop k r1] at s1';have s2':=s2;rw [<- take_append_drop t r2] at s2'
   have hd:∀ y ∈ r2.drop t,le lt r1[r1.length - 1] y:=λ y hy=>by
    obtain ⟨j,hj,rfl⟩:=List.mem_drop_iff_getElem.mp hy;exact highB (t + j) _ [1] (getElem?_eq_getElem [1])
   refine List.pairwise_append.mpr ⟨List.pairwise_append.mpr ⟨(List.pairwise_append.mp s1').1,F.2,λ x hx v hv=>?_⟩,(List.pairwise_append.mp s2').2.1,λ x hx y hy=>?_⟩
   ·rcases mem v hv with q | q
    ·exact (List.pairwise_append.mp s1').2.2 x hx v q
    ·exact c.le_tr (lowk x hx) (first2 v (mem_of_mem_take q))
   ·rcases List.mem_append.mp hx with q | q
    ·exact c.le_tr (lowk x q) (first2 y (mem_of_mem_drop hy))
    ·rcases mem x q with q | q
     ·exact c.le_tr (last1 x (mem_of_mem_drop q)) (hd y hy)
     ·exact (List.pairwise_append.mp s2').2.2 x q y hy
 have pre1:∀ x ∈ ((arrOf st).extract (sa + k) sb).toList,M x:=λ x hx=>M1 x (by rw [xs] at hx; exact mem_of_mem_drop hx);have pre2:∀ x ∈ ((arrOf st).extract sb (sb + t)).toList,M x:=λ x hx=>M2 x (by rw [ys] at hx; exact mem_of_mem_take hx);have pre3:((arrOf st).extract (sa + k) sb).toList.Pairwise (le lt):=by rw [xs]; exact s1.sublist (drop_sublist _ _)
 have pre4:((arrOf st).extract sb (sb + t)).toList.Pairwise (le lt):=by rw [ys]; exact s2.sublist (take_sublist _ _)
 have pre5:0 < ((arrOf st).extract (sa + k) sb).toList.length:=by rw [xs,length_drop]; omega
 have pre6:0 < ((arrOf st).extract sb (sb + t)).toList.length:=by rw [ys,length_take]; omega
 have pre7:∀ x y,((arrOf st).extract sb (sb + t)).toList[0]?=some x->((arrOf st).extract (sa + k) sb).toList[0]?=some y->le lt x y:=λ x y hx hy=>by
  rw [ys,getElem?_take_of_lt [1],k0] at hx;cases hx;rw [xs] at hy;obtain ⟨j,hj,ej⟩:=dx y (mem_of_getElem? hy);exact highA j y hj ej
 have pre8:∀ x,((arrOf st).extract (sa + k) sb).toList[((arrOf st).extract (sa + k) sb).toList.length - 1]?=some x->∀ y ∈ ((arrOf st).extract sb (sb + t)).toList,le lt y x:=λ x hx y hy=>by
  rw [xs,length_drop,getElem?_drop,show k + (r1.length - k - 1)=r1.length - 1 by omega,kl] at hx;cases hx;rw [ys] at hy;obtain ⟨j,hj,ej⟩:=dy y hy;exact lowB j y hj ej
 by_cases g:r1.length - k<=t
 ·rw [if_pos g];refine wpS_bind (yj3 c ⟨a.ok.kd,a.ok.fl⟩ pre1 pre2 pre3 pre4 pre5 pre6 pre7 pre8 λ mg st2 sm F=>?_);rw [xs,ys] at F;refine done mg st2 sm F _ ?_;intro u; rfl
 ·rw [if_neg g];refine wpS_bind (wj3 c ⟨a.ok.kd,a.ok.fl⟩ pre1 pre2 pre3 pre4 pre5 pre6 pre7 pre8 λ mg st2 sm F=>?_);rw [xs,ys] at F;refine done mg st2 sm F _ ?_;intro u; rfl
end
def pos:Nat->List (List Keyed)->List (Nat × Nat)
 | _,[]=>[]
 | o,r :: rs=>(o,r.length) :: pos (o + r.length) rs
theorem tv0:∀ (o:Nat) (X Y:List (List Keyed)),pos o (X ++ Y)=pos o X ++ pos (o + X.flatten.length) Y
 | o,[],Y=>by simp [pos]
 | o,r :: X,Y=>by
  show (o,r.length) :: pos (o + r.length) (X ++ Y)=_;rw [tv0];simp [pos,Nat.add_assoc]
theorem vd1:∀ (o:Nat) (X:List (List Keyed)),(pos o X).length=X.length
 | _,[]=>rfl
 | o,r :: X=>by show (pos _ X).length + 1=X.length + 1; rw [vd1]
abbrev pn (t:Nat × Nat × Nat):Nat × Nat:=(t.1,t.2.1)
structure Lay (κ:SortKind) (lt:Keyed->Keyed->Bool) (L0:List Keyed) (p:Array (Nat × Nat × Nat)) (st:SortSt) (rs:List (List Keyed)) (rest:List Keyed):Prop where
 at_:At κ p st (rs.flatten ++ rest)
 po:p.toList.map pn=pos 0 rs
 so:∀ r ∈ rs,0 < r.length /\ r.Pairwise (le lt)
 pm:(rs.flatten ++ rest).Perm L0
theorem Lay.size {κ:SortKind} {lt:Keyed->Keyed->Bool} {L0:[33]} {p:Array (Nat × Nat × Nat)} {st:SortSt} {rs:List (List Keyed)} {rest:[33]} (l:Lay κ lt L0 p st rs rest):p.size=rs.length:=by
 have:=congrArg List.length l.po;rw [length_map,vd1] at this;exact this
theorem Lay.many {κ:SortKind} {lt:Keyed->Keyed->Bool} {L0:[33]} {p:Array (Nat × Nat × Nat)} {st:SortSt} {rs:List (List Keyed)} {rest:[33]} (l:Lay κ lt L0 p st rs rest):rs.length<=rs.flatten.length:=by
 have h:=l.so;clear l
 induction rs with
 | nil=>simp
 | cons r rs ih =>
  have a:=(h r (.head _)).1;have b:=ih λ x hx=>h x (.tail _ hx);simp only [length_cons,flatten_cons,length_append];omega
section
variable {prog:Program} {w:World} {A:Around} {E:[2]} {s:Shared} {κ:SortKind} {p:Array (Nat × Nat × Nat)}
variable {lt:Keyed->Keyed->Bool} {M:Keyed->Prop}
theorem Lay.merge (c:[26]) {L0:[33]} {st:SortSt} {rs:List (List Keyed)} {rest:[33]} {i:Nat} {Q:Bool->SortSt->Prop} (hM:∀ x ∈ L0,M x) (l:Lay κ lt L0 p st rs rest) (hi:i + 1 < rs.length)
    (h:∀ st' p' rs',Lay κ lt L0 p' st' rs' rest->rs'.length + 1=rs.length->rs'.flatten.length=rs.flatten.length->Q true st'):wpS [4] A E s (mergeAt' i) Q st:=by
 obtain ⟨X,r1,r2,Y,rfl,hX⟩:∃ X r1 r2 Y,rs=X ++ r1 :: r2 :: Y /\ X.length=i:=by
  refine ⟨rs.take i,rs[i],rs[i + 1],rs.drop (i + 2),?_,by rw [length_take]; omega⟩;rw [<- List.drop_eq_getElem_cons,<- List.drop_eq_getElem_cons,take_append_drop]
 have po:=l.po;rw [tv0] at po;obtain ⟨px,pr,e1,e2,e3⟩:=List.map_eq_append_iff.mp po;obtain ⟨t1,pr1,e4,e5,e6⟩:=List.map_eq_cons_iff.mp e3;obtain ⟨t2,py,e7,e8,e9⟩:=List.map_eq_cons_iff.mp e6;subst e4 e7;obtain ⟨sa,na,pw⟩:=t1;obtain ⟨sb,nb,pw2⟩:=t2;have lp:px.length=i:=by have:=congrArg List.length e2; rw [length_map,vd1] at this; omega
 injection e5 with f1 f2
 injection e8 with f3 f4
 dsimp only at f1 f2 f3 f4;rw [Nat.zero_add] at f1 f3 e9;have g1:p[i]?=some (sa,na,pw):=by rw [<- getElem?_toList,e1,getElem?_append_right [1],show i - px.length=0 by omega]; rfl
 have g2:p[i + 1]?=some (sb,nb,pw2):=by rw [<- getElem?_toList,e1,getElem?_append_right [1],show i + 1 - px.length=1 by omega]; rfl
 have a:=l.at_;have fl:(X ++ r1 :: r2 :: Y).flatten ++ rest=X.flatten ++ (r1 ++ (r2 ++ (Y.flatten ++ rest))):=by simp
 rw [fl] at a;have pm:=l.pm;rw [fl] at pm;have s1:=l.so r1 [24];have s2:=l.so r2 [24];refine vj3 c a (λ x hx=>hM x (pm.mem_iff.mp ?_)) g1 g2 f1 f2 f3 f4 s1.1 s2.1 s1.2 s2.2 λ st' m a' pm' so'=>?_
 ·rcases List.mem_append.mp hx with q | q
  ·exact mem_append_right _ (mem_append_left _ q)
  ·exact mem_append_right _ (mem_append_right _ (mem_append_left _ q))
 ·have lm:=pm'.length_eq;rw [length_append] at lm;refine h st' ((p.setIfInBounds i (sa,na + nb,pw)).eraseIdxIfInBounds (i + 1)) (X ++ m :: Y) ⟨?_,?_,?_,?_⟩ (by simp; omega) (by simp only [List.flatten_append,flatten_cons,length_append]; omega)
  ·have fl2:(X ++ m :: Y).flatten ++ rest=X.flatten ++ (m ++ (Y.flatten ++ rest)):=by simp
   rw [fl2];exact a'
  ·have pl:((p.setIfInBounds i (sa,na + nb,pw)).eraseIdxIfInBounds (i + 1)).toList=px ++ (sa,na + nb,pw) :: py:=by
     rw [Array.toList_eraseIdxIfInBounds,Array.toList_setIfInBounds,e1,List.set_append_right _ _ [1],show i - px.length=0 by omega,List.set_cons_zero,List.eraseIdx_append_of_length_le [1],show i + 1 - px.length=1 by omega];rfl
   rw [pl,map_append,e2,tv0,map_cons];refine congrArg _ ?_;show (sa,na + nb) :: _=(0 + X.flatten.length,m.length) :: pos _ Y;rw [Nat.zero_add,f1,show na + nb=m.length by omega,e9,show X.flatten.length + m.length=X.flatten.length + r1.length + r2.length by omega]
  ·intro r hr;rcases List.mem_append.mp hr with q | q
   ·exact l.so r (mem_append_left _ q)
   ·rcases List.mem_cons.mp q with rfl | q
    ·exact ⟨by omega,so'⟩
    ·exact l.so r (mem_append_right _ (.tail _ (.tail _ q)))
  ·refine .trans ?_ pm;have fl2:(X ++ m :: Y).flatten ++ rest=X.flatten ++ (m ++ (Y.flatten ++ rest)):=by simp
   rw [fl2];refine List.Perm.append_left _ ?_;rw [<- append_assoc r1];exact List.Perm.append_right _ pm'
theorem ta3 (c:[26]) {st:SortSt} {L0:[33]} {Q:Unit->SortSt->Prop} (a:At κ #[] st L0) (hM:∀ x ∈ L0,M x) (h2:2<=L0.length) (h:∀ st' p L,At κ p st' L->L.Perm L0->L.Pairwise (le lt)->Q () st') :
    wpS [4] A E s sortRuns' Q st:=by
 refine wpS_bind (wpS_get ?_);dsimp only;have sz:(arrOf st).size=L0.length:=by rw [<- length_toList,a.ls]
 generalize hsz:(arrOf st).size=size at *;have hs:size=L0.length:=sz;generalize ((sortPriv% PySem.Builtin.minRun):Nat->Nat->Nat->Nat) size size 0=mr;have st0:Lay κ lt L0 #[] st [] L0:=⟨by simpa using a,rfl,λ _ h=>(nomatch h),by simp⟩
 have llen:∀ {p:Array (Nat × Nat × Nat)} {st':SortSt} {rs:List (List Keyed)} {rest:[33]},Lay κ lt L0 p st' rs rest->rs.flatten.length + rest.length=size:=λ l=>by
  have:=l.pm.length_eq;rw [length_append] at this;omega
 have push:∀ {p:Array (Nat × Nat × Nat)} {st':SortSt} {rs:List (List Keyed)} {rest:[33]} {lo n:Nat},Lay κ lt L0 p st' rs rest->lo=rs.flatten.length->1<=n->n<=rest.length->(rest.take n).Pairwise (le lt) ->
     Lay κ lt L0 (p.push (lo,n,0)) (setPending st' ((pendingOf st').push (lo,n,0))) (rs ++ [rest.take n]) (rest.drop n):=by
  intro p st' rs rest lo n l hlo h1 h2 so;have e:(rs ++ [rest.take n]).flatten ++ rest.drop n=rs.flatten ++ rest:=by simp
  have lt1:(rest.take n).length=n:=by rw [length_take]; omega
  refine ⟨by rw [e]; exact ⟨⟨l.at_.ok.kd,l.at_.ok.fl⟩,by show (pendingOf st').push _=_; rw [l.at_.pe],l.at_.ls⟩,?_,?_,by rw [e]; exact l.pm⟩
  ·rw [toList_push,map_append,l.po,tv0];refine congrArg _ ?_;show [(lo,n)]=[(0 + rs.flatten.length,(rest.take n).length)];rw [Nat.zero_add,lt1,hlo]
  ·intro r hr;rcases List.mem_append.mp hr with q | q
   ·exact l.so r q
   ·rw [mem_singleton] at q; subst q; exact ⟨by omega,so⟩
 refine wpS_bind (wpS_mono (wpS_forRange (λ x (r:Option Unit × Nat) st'=>r.1=none /\ x<=r.2 /\ ∃ p rs rest,Lay κ lt L0 p st' rs rest /\ r.2=rs.flatten.length) (Q:=λ (r:Option Unit × Nat) st'=>r.1=none /\ ∃ p rs,Lay κ lt L0 p st' rs []) ?_ ?_ ⟨rfl,Nat.zero_le _,#[],[],L0,st0,rfl⟩) ?_)
 ·rintro x ⟨r,lo⟩ st1 _ hx ⟨rfl,b1,p1,rs,rest,l,hlo⟩;dsimp only at b1 hlo ⊢;have ln:=llen l;by_cases z:lo ≥ size
  ·rw [if_pos z];have e:rest=[]:=List.eq_nil_of_length_eq_zero [1];subst e;exact wpS_pure ⟨rfl,p1,rs,l⟩
  ·rw [if_neg z];have hr:size - lo=rest.length:=by omega
   rw [hr];refine wpS_bind (wn3 c l.at_ (λ x hx=>hM x (l.pm.mem_iff.mp hx)) hlo [1] λ m st2 R2 a2 pm2 m1 m2 so2=>?_);have l2:Lay κ lt L0 p1 st2 rs R2:=⟨a2,l.po,l.so,(List.Perm.append_left _ pm2).trans l.pm⟩;have r2l:=pm2.length_eq
   have jp:∀ (n:Nat) (st3:SortSt) (R3:[33]),Lay κ lt L0 p1 st3 rs R3->1<=n->n<=R3.length->(R3.take n).Pairwise (le lt)->∀ (G:SortSt->StateT SortSt Sem (ForInStep (Option Unit × Nat))) (J:StateT SortSt Sem (ForInStep (Option Unit × Nat))),
       (∀ (q:Array (Nat × Nat × Nat)) (st4:SortSt) rs4,Lay κ lt L0 q st4 rs4 R3->rs4.flatten.length=lo->wpS [4] A E s J (λ r st'=>match r with
        | .done c'=>c'.1=none /\ ∃ p rs,Lay κ lt L0 p st' rs []
        | .yield c'=>c'.1=none /\ x + 1<=c'.2 /\ ∃ p rs rest,Lay κ lt L0 p st' rs rest /\ c'.2=rs.flatten.length) st4) ->
       ((pendingOf st3).back?=none->G st3=J)->(∀ s1 n1 o1,(pendingOf st3).back?=some (s1,n1,o1)->∃ (pw:Nat) (f:Nat->Option Unit × Unit->StateT SortSt Sem (ForInStep (Option Unit × Unit))) (g:Option Unit × Unit->StateT SortSt Sem (ForInStep (Option Unit × Nat))),G st3=(forIn [0:size] (none,()) f >>= g) ∧
        (∀ y,f y (none,())=(get >>= λ u=>match (if (pendingOf u).size > 1 then (pendingOf u)[(pendingOf u).size - 2]? else none) with
         | some (_,_,older)=>if older<=pw then pure (.done (none,())) else mergeAt' ((pendingOf u).size - 2) >>= λ b=>if (!b)=true then pure (.done (some (),())) else pure (.yield (none,()))
         | none=>pure (.done (none,())))) ∧
        g (none,())=(modify (λ u=>setPending u ((pendingOf u).modify ((pendingOf u).size - 1) λ t=>(t.1,t.2.1,pw))) >>= λ _=>J)) ->
       wpS [4] A E s (get >>= G) (λ r st'=>match r with
        | .done c'=>c'.1=none /\ ∃ p rs,Lay κ lt L0 p st' rs []
        | .yield c'=>c'.1=none /\ x + 1<=c'.2 /\ ∃ p rs rest,Lay κ lt L0 p st' rs rest /\ c'.2=rs.flatten.length) st3:=by
    intro n st3 R3 l3 h1 h2 so3 G J hJ hG1 hG2;refine wpS_bind (wpS_get ?_);cases hb:(pendingOf st3).back? with
    | none =>
     rw [hG1 hb];exact hJ _ st3 rs l3 hlo.symm
    | some t =>
     obtain ⟨s1,n1,o1⟩:=t;obtain ⟨pw,f,g,e1,e2,e3⟩:=hG2 s1 n1 o1 hb;rw [e1];refine wpS_bind (wpS_mono (wpS_forRange (λ y (r:Option Unit × Unit) st'=>r=(none,()) /\ ∃ q rs4,Lay κ lt L0 q st' rs4 R3 /\ rs4.flatten.length=lo) (Q:=λ (r:Option Unit × Unit) st'=>r=(none,()) /\ ∃ q rs4,Lay κ lt L0 q st' rs4 R3 /\ rs4.flatten.length=lo) ?_ (λ _ _ q=>q) ⟨rfl,p1,rs,l3,hlo.symm⟩) ?_)
     ·rintro y r st4 _ _ ⟨rfl,q,rs4,l4,hl4⟩;rw [e2];refine wpS_bind (wpS_get ?_);have pe:=l4.at_.pe;have ps:=l4.size;by_cases c1:(pendingOf st4).size > 1
      ·rw [if_pos c1];cases c2:(pendingOf st4)[(pendingOf st4).size - 2]? with
       | none=>exact wpS_pure ⟨rfl,q,rs4,l4,hl4⟩
       | some t =>
        obtain ⟨_,_,older⟩:=t;dsimp only;by_cases c3:older<=pw
        ·rw [if_pos c3];exact wpS_pure ⟨rfl,q,rs4,l4,hl4⟩
        ·rw [if_neg c3];refine wpS_bind (l4.merge c hM (by rw [pe] at c1 ⊢; omega) λ st5 p5 rs5 l5 _ hl5=>?_);rw [if_neg [24]];exact wpS_pure ⟨rfl,p5,rs5,l5,by omega⟩
      ·rw [if_neg c1];exact wpS_pure ⟨rfl,q,rs4,l4,hl4⟩
     ·rintro r st4 ⟨rfl,q,rs4,l4,hl4⟩;rw [e3];refine wpS_bind (wpS_modify (hJ (q.modify (q.size - 1) λ t=>(t.1,t.2.1,pw)) _ rs4 ⟨⟨⟨l4.at_.ok.kd,l4.at_.ok.fl⟩,?_,l4.at_.ls⟩,?_,l4.so,l4.pm⟩ hl4))
      ·have pe4:=l4.at_.pe;subst pe4;rfl
      ·rw [<- l4.po,Array.toList_modify];apply ext_getElem?;intro k;rw [getElem?_map,getElem?_map,List.getElem?_modify];split
       ·cases q.toList[k]? <;> rfl
       ·cases q.toList[k]? <;> rfl
   have end_:∀ {n:Nat} {R3:[33]},1<=n->n<=R3.length->(R3.take n).Pairwise (le lt)->∀ (q:Array (Nat × Nat × Nat)) (st4:SortSt) rs4,Lay κ lt L0 q st4 rs4 R3->rs4.flatten.length=lo->∀ (f:SortSt->SortSt),(∀ u,f u=setPending u ((pendingOf u).push (lo,n,0)))->wpS [4] A E s (modify f >>= λ _=>pure (ForInStep.yield ((none,lo + n):Option Unit × Nat))) (λ r st'=>match r with
         | .done c'=>c'.1=none /\ ∃ p rs,Lay κ lt L0 p st' rs []
         | .yield c'=>c'.1=none /\ x + 1<=c'.2 /\ ∃ p rs rest,Lay κ lt L0 p st' rs rest /\ c'.2=rs.flatten.length) st4:=by
    intro n R3 h1 h2 so3 q st4 rs4 l4 hl4 f hf;refine wpS_bind (wpS_modify (wpS_pure ?_));rw [hf];refine ⟨rfl,by show x + 1<=lo + n; omega,_,_,_,push l4 hl4.symm h1 h2 so3,?_⟩;show lo + n=_;rw [List.flatten_append,length_append];simp only [flatten_cons,List.flatten_nil,append_nil,length_take];omega
   dsimp only;by_cases g:m < mr
   ·rw [if_pos g];refine wpS_bind (wpS_lift (wpAny_rule ⟨rfl,?_⟩));refine wpS_bind (vz1 c a2 (λ x hx=>hM x (l2.pm.mem_iff.mp hx)) hlo m1 (show m<=min rest.length mr by omega) [1] so2 λ st3 R3 a3 pm3 so3=>?_);rw [if_neg [24]];have l3:Lay κ lt L0 p1 st3 rs R3:=⟨a3,l.po,l.so,(List.Perm.append_left _ pm3).trans l2.pm⟩;have r3l:=pm3.length_eq;refine wpS_mono (jp _ st3 R3 l3 (show 1<=min rest.length mr by omega) [1] so3 _ _ (λ q st4 rs4 l4 hl4=>end_ [1] [1] so3 q st4 rs4 l4 hl4 _ λ _=>rfl) ?_ ?_) ?_
    ·intro hb; rw [hb]
    ·intro s1 n1 o1 hb;rw [hb];refine ⟨_,_,_,rfl,λ y=>?_,rfl⟩;refine congrArg _ (funext λ u=>?_);generalize (if (pendingOf u).size > 1 then (pendingOf u)[(pendingOf u).size - 2]? else none)=o;rcases o with _ | ⟨_,_,_⟩ <;> rfl
    ·intro r st' q; cases r <;> exact q
   ·rw [if_neg g];refine wpS_mono (jp m st2 R2 l2 m1 [1] so2 _ _ (λ q st4 rs4 l4 hl4=>end_ m1 [1] so2 q st4 rs4 l4 hl4 _ λ _=>rfl) ?_ ?_) ?_
    ·intro hb; rw [hb]
    ·intro s1 n1 o1 hb;rw [hb];refine ⟨_,_,_,rfl,λ y=>?_,rfl⟩;refine congrArg _ (funext λ u=>?_);generalize (if (pendingOf u).size > 1 then (pendingOf u)[(pendingOf u).size - 2]? else none)=o;rcases o with _ | ⟨_,_,_⟩ <;> rfl
    ·intro r st' q; cases r <;> exact q
 ·rintro ⟨r,lo⟩ st1 ⟨rfl,b1,p1,rs,rest,l,hlo⟩;dsimp only at b1 hlo;have ln:=llen l;have b1':max 0 size<=lo:=b1;have e:rest=[]:=List.eq_nil_of_length_eq_zero [1];subst e;exact ⟨rfl,p1,rs,l⟩
 ·rintro ⟨r,lo⟩ st1 ⟨rfl,p1,rs,l⟩;dsimp only;have ln:=llen l;have mn:=l.many;refine wpS_bind (wpS_mono (wpS_forRange (λ x (r:Option Unit × Unit) st'=>r=(none,()) /\ ∃ p rs,Lay κ lt L0 p st' rs [] /\ rs.length + x<=size + 1 + (if rs.length<=1 then x else 0)) (Q:=λ (r:Option Unit × Unit) st'=>r=(none,()) /\ ∃ p rs,Lay κ lt L0 p st' rs [] /\ rs.length<=1) ?_ ?_ ⟨rfl,p1,rs,l,by rw [length_nil] at ln; omega⟩) ?_)
  ·rintro x r st2 _ hx ⟨rfl,p2,rs2,l2,b⟩;refine wpS_bind (wpS_get ?_);have pe:=l2.at_.pe;have ps:=l2.size;have ps':(pendingOf st2).size=rs2.length:=by rw [pe]; exact ps
   by_cases z:(pendingOf st2).size<=1
   ·rw [if_pos z];exact wpS_pure ⟨rfl,p2,rs2,l2,by omega⟩
   ·rw [if_neg z];refine wpS_bind (l2.merge c hM ?_ λ st3 p3 rs3 l3 hl3 _=>?_)
    ·exact (show ∀ (P:Prop) [Decidable P] (n m:Nat),2<=n->n=m->(if P then n - 2 - 1 else n - 2) + 1 < m by intro P _ n m h1 h2; split <;> omega) _ _ _ (show 2<=(pendingOf st2).size by omega) ps'
    ·rw [if_neg [24]];refine wpS_pure ⟨rfl,p3,rs3,l3,?_⟩;rw [if_neg [1]] at b;split <;> omega
  ·rintro r st2 ⟨rfl,p2,rs2,l2,b⟩;refine ⟨rfl,p2,rs2,l2,?_⟩;by_cases z:rs2.length<=1
   ·exact z
   ·rw [if_neg z] at b;omega
  ·rintro r st2 ⟨rfl,p2,rs2,l2,b⟩;dsimp only;have pm:=l2.pm;have a2:=l2.at_;rw [append_nil] at pm a2;refine wpS_pure (h st2 p2 _ a2 pm ?_)
   match rs2,b,l2.so with
   | [],_,_=>exact List.Pairwise.nil
   | [r],_,so=>simpa using (so r (.head _)).2
   | _ :: _ :: _,b,_=>simp at b
end
end Ts
namespace Ts
open PySem PyProof.Rows PySem.W
theorem xr1 {α β:Type} {f:α->β} {L N:List β} (h:L.Perm N):∀ l:List α,N=l.map f->∃ l':List α,l'.Perm l /\ L=l'.map f:=by
 induction h with
 | nil=>intro l e; exact ⟨l,.refl _,e⟩
 | cons x _ ih =>
  intro l e;obtain ⟨a,l1,rfl,rfl,e3⟩:=List.map_eq_cons_iff.mp e.symm;obtain ⟨l',p,e4⟩:=ih l1 e3.symm;exact ⟨a :: l',p.cons a,by rw [e4]; rfl⟩
 | swap x y t =>
  intro l e;obtain ⟨a,l1,rfl,rfl,e3⟩:=List.map_eq_cons_iff.mp e.symm;obtain ⟨b,l2,rfl,rfl,e5⟩:=List.map_eq_cons_iff.mp e3;exact ⟨b :: a :: l2,.swap a b l2,by rw [<- e5]; rfl⟩
 | trans _ _ ih1 ih2 =>
  intro l e;obtain ⟨l2,p2,e2⟩:=ih2 l e;obtain ⟨l1,p1,e1⟩:=ih1 l2 e2;exact ⟨l1,p1.trans p2,e1⟩
open Classical in
def idx (vs:[23]) (x:Keyed):Nat:=if h:∃ i:Nat,vs[i]?=some x.1 then Classical.choose h else 0
theorem zj1 {vs:[23]} {x:Keyed} (h:∃ i:Nat,vs[i]?=some x.1):vs[idx vs x]?=some x.1:=by
 unfold idx;rw [dif_pos h];exact Classical.choose_spec h
section
variable {prog:Program} {w:World} {A:Around} {E:[2]} {s:Shared} {κ:SortKind}
theorem run_idx {vs:[23]} {lt:Nat->Nat->Bool} (O:Ms.Ord lt) (h2:2<=vs.length) (sm:∀ (i j:Nat) v,vs[i]?=some v->vs[j]?=some v->∀ k,lt i k=lt j k /\ lt k i=lt k j)
    (ask:∀ (i j:Nat) x y,vs[i]?=some x->vs[j]?=some y->∀ C:Bool->Shared->Prop,C (lt i j) s->wpAny [4] A (keyLt' κ x y) C (λ _ _=>False) s) :
    wpS [4] A E s sortRuns' (λ _ st'=>∃ p:Array Nat,p.Perm (List.toArray (List.range vs.length)) /\ Ms.Up lt p vs.length /\ arrOf st'=p.map (kas_item [27]) /\ failedOf st'=none) (SortSt.mk' κ [27] #[] 7 none):=by
 let M:Keyed->Prop:=λ x=>∃ i:Nat,vs[i]?=some x.1
 let lk:Keyed->Keyed->Bool:=λ x y=>lt (idx vs x) (idx vs y)
 have c:Cm prog w A s κ lk M:=⟨λ x y hx hy C h=>ask _ _ _ _ (zj1 hx) (zj1 hy) C h,λ x=>O.ir _,λ x y z=>O.tr _ _ _,λ x y z=>O.ng _ _ _⟩
 have it:[27].toList=(List.range vs.length).map (kas_item [27]):=by
  have:=kas_range [27];have sz:[27].size=vs.length:=by simp
  rw [sz] at this;have e:=congrArg Array.toList this;simpa using e.symm
 have ki:∀ i,i < vs.length->(kas_item [27] i).1=vs.getD i .none:=λ i hi=>by
  show ([27].getD i _).1=_;simp [Array.getD,hi,getD_eq_getElem?_getD]
 refine ta3 c (L0:=[27].toList) ⟨⟨rfl,rfl⟩,rfl,rfl⟩ (λ x hx=>?_) (by simp; exact h2) λ st' p L a pm so=>?_
 ·rw [it] at hx;obtain ⟨i,hi,rfl⟩:=List.mem_map.mp hx;have hi':=List.mem_range.mp hi;exact ⟨i,by rw [ki i hi',getD_eq_getElem?_getD,getElem?_eq_getElem hi']; rfl⟩
 ·obtain ⟨l,pl,el⟩:=xr1 pm _ it;subst el;refine ⟨l.toArray,Array.perm_iff_toList_perm.mpr pl,?_,Array.toList_inj.mp (by rw [a.ls]; simp),a.ok.fl⟩;have ll:l.length=vs.length:=by have:=pl.length_eq; simpa using this
  intro x y hxy hy;show lt (l.toArray.getD y 0) (l.toArray.getD x 0)=false;have gx:∀ z,z < l.length->l.toArray.getD z 0=l.getD z 0:=λ z hz=>by simp [Array.getD,hz,getD_eq_getElem?_getD]
  rw [gx y [1],gx x [1]];by_cases e:x=y
  ·subst e; exact O.ir _
  have ex:l[x]?=some l[x]:=getElem?_eq_getElem [1];have ey:l[y]?=some l[y]:=getElem?_eq_getElem [1];have q:=tl0 so (show x < y by omega) (by rw [getElem?_map,ex]; rfl) (by rw [getElem?_map,ey]; rfl);have rx:l[x] < vs.length:=List.mem_range.mp (pl.mem_iff.mp (getElem_mem _));have ry:l[y] < vs.length:=List.mem_range.mp (pl.mem_iff.mp (getElem_mem _));have vx:vs[l[x]]?=some (kas_item [27] l[x]).1:=by rw [ki _ rx,getD_eq_getElem?_getD,getElem?_eq_getElem rx]; rfl
  have vy:vs[l[y]]?=some (kas_item [27] l[y]).1:=by rw [ki _ ry,getD_eq_getElem?_getD,getElem?_eq_getElem ry]; rfl
  have jx:=zj1 (vs:=vs) (x:=kas_item [27] l[x]) ⟨_,vx⟩;have jy:=zj1 (vs:=vs) (x:=kas_item [27] l[y]) ⟨_,vy⟩;have q':lt (idx vs (kas_item [27] l[y])) (idx vs (kas_item [27] l[x]))=false:=q;rw [(sm _ _ _ jy vy _).1,(sm _ _ _ jx vx _).2] at q';simpa [getD_eq_getElem?_getD,ex,ey] using q'
end
end Ts
namespace Pv
open PySem PySem.Spec PySem.W PyProof.Rows L2
abbrev T3:=Int × Int × Int
def lt3 (a b:T3):Bool:=decide (a.1 < b.1) || (a.1 == b.1 && (decide (a.2.1 < b.2.1) || (a.2.1 == b.2.1 && decide (a.2.2 < b.2.2))))
def IsT3 (h:Heap) (v:Value) (t:T3):Prop:=∃ a o t1 t2 t3 n,v=.ref a /\ h.get? a=some o /\ o.cls=.type "tuple" /\ o.data=.seq #[.int t.1 t1,.int t.2.1 t2,.int t.2.2 t3] n
theorem IsT3.one {h:Heap} {v:Value} {t u:T3} (i:IsT3 h v t) (k:IsT3 h v u):t=u:=by
 obtain ⟨a,o,t1,t2,t3,n,rfl,e2,_,e4⟩:=i;obtain ⟨b,q,u1,u2,u3,m,f1,f2,_,f4⟩:=k;cases f1;rw [e2] at f2;cases f2;rw [e4] at f4;obtain ⟨x,y,z⟩:=t;obtain ⟨x',y',z'⟩:=u;simp only [Data.seq.injEq,Array.mk.injEq,List.cons.injEq,Value.int.injEq] at f4;obtain ⟨⟨⟨h1,_⟩,⟨h2,_⟩,⟨h3,_⟩,_⟩,_⟩:=f4;rw [h1,h2,h3]
theorem yu2 (ts:List T3):Ms.Ord λ i j=>lt3 (ts.getD i (0,0,0)) (ts.getD j (0,0,0)) where
 ir:=λ a=>by simp [lt3]
 tr:=λ a b c h k=>by
  simp only [lt3,Bool.or_eq_true,Bool.and_eq_true,decide_eq_true_eq,beq_iff_eq] at h k ⊢;omega
 ng:=λ a b c h=>by
  simp only [lt3,Bool.or_eq_true,Bool.and_eq_true,decide_eq_true_eq,beq_iff_eq] at h ⊢;omega
section
variable {prog:Program} {w:World} {A:Around} {E:[2]} {s:Shared}
theorem wq3 {x y:Value} {a b:T3} {Q:Bool->Shared->Prop} (hx:IsT3 s.heap x a) (hy:IsT3 s.heap y b) (h:Q (lt3 a b) s):wpAny [4] A (keyLt' (tuples' true) x y) Q E s:=by
 obtain ⟨x,ox,t1,t2,t3,n,rfl,ex,_,dx⟩:=hx;obtain ⟨y,oy,u1,u2,u3,m,rfl,ey,_,dy⟩:=hy;obtain ⟨a1,a2,a3⟩:=a;obtain ⟨b1,b2,b3⟩:=b;refine kat_lt ex dx ey dy ?_;refine kat_cons (wpAny_eqBool_int ?_);by_cases c1:a1=b1
 ·rw [show (a1 == b1)=true from beq_iff_eq.mpr c1];refine kat_yes (kat_cons (wpAny_eqBool_int ?_));by_cases c2:a2=b2
  ·rw [show (a2 == b2)=true from beq_iff_eq.mpr c2];refine kat_yes (kat_cons (wpAny_eqBool_int ?_));by_cases c3:a3=b3
   ·rw [show (a3 == b3)=true from beq_iff_eq.mpr c3];refine kat_yes (kat_nil ?_);have e:lt3 (a1,a2,a3) (b1,b2,b3)=false:=by subst c1 c2 c3; simp [lt3]
    rw [e] at h;exact h
   ·rw [show (a3 == b3)=false from by simpa using c3];have e:lt3 (a1,a2,a3) (b1,b2,b3)=decide (a3 < b3):=by subst c1 c2; simp [lt3]
    rw [e] at h;exact kat_no (kat_one _ _ (lt_int h))
  ·rw [show (a2 == b2)=false from by simpa using c2];have e:lt3 (a1,a2,a3) (b1,b2,b3)=decide (a2 < b2):=by subst c1; simp [lt3,c2]
   rw [e] at h;exact kat_no (kat_one _ _ (lt_int h))
 ·rw [show (a1 == b1)=false from by simpa using c1];have e:lt3 (a1,a2,a3) (b1,b2,b3)=decide (a1 < b1):=by simp [lt3,c1]
  rw [e] at h;exact kat_no (oneLt_int h)
end
abbrev ltI (ts:List T3):Nat->Nat->Bool:=λ i j=>lt3 (ts.getD i (0,0,0)) (ts.getD j (0,0,0))
abbrev outV (vs:[23]) (p:Array Nat):List Value:=p.toList.map λ i=>vs.getD i Value.none
theorem xm1 (vs:[23]):outV vs (List.toArray (List.range vs.length))=vs:=by
 apply List.ext_getElem
 ·simp
 ·intro i h1 h2;simp [getD_eq_getElem?_getD,getElem?_eq_getElem h2]
theorem sw3 {vs:Array Value} {n:Nat} {C:Prop} (h:(seqObj "list" vs n).cls=Value.type "tuple"):C:=by
 have h':Value.type "list" = Value.type "tuple" := h;injection h' with e
 exact absurd e [20]
structure SK (prog:Program) (w:World) (vs:List Value) (lt:Nat->Nat->Bool) (κ:SortKind) (J:Heap->Prop) (U:Nat):Prop where
 od:Ms.Ord lt
 kd:2<=vs.length->∀ {A:Around} {E:Value->Shared->Prop} (s:Shared) {Q:SortKind->Shared->Prop},J s.heap->Q κ s->wpAny (model prog w) A (keyKind' vs.toArray) Q E s
 sm:∀ (i j:Nat) v,vs[i]?=some v->vs[j]?=some v->∀ k,lt i k=lt j k /\ lt k i=lt k j
 cm:∀ {A:Around} (s:Shared) (i j:Nat) x y,A.units<=U->J s.heap->vs[i]?=some x->vs[j]?=some y->∀ C:Bool->Shared->Prop,C (lt i j) s->wpAny (model prog w) A (keyLt' κ x y) C (λ _ _=>False) s
section
variable {prog:Program} {w:World} {A:Around} {E:[2]} {s:Shared} {vs:[23]} {lt:Nat->Nat->Bool} {κ:SortKind} {J:Heap->Prop} {U:Nat}
theorem xe1 {a:Addr} {n:Nat} {P:PySem.Fin->Shared->Prop} (K:SK prog w vs lt κ J U) (hU:A.units<=U) (ho:s.heap.get? a=some (seqObj "list" vs.toArray n)) (hJ:∀ h':Heap,(∀ b o,b ≠ a->s.heap.get? b=some o->h'.get? b=some o)->J h') (hz:vs.length<=sizeLine)
    (h:∀ (p:Array Nat) (h':Heap) (c:Nat),p.Perm (List.toArray (List.range vs.length))->Ms.Up lt p vs.length->(∀ b o,b ≠ a->s.heap.get? b=some o->h'.get? b=some o) ->
     h'.get? a=some (seqObj "list" (outV vs p).toArray c)->P (.done (.ret .none)) { s with heap:=h' }) :
    wpAny [4] A (Builtin.«list.sort» ⟨[.ref a],[]⟩) P E s:=by
 have ha:a < s.heap.objs.size:=Heap.lt_size ho;obtain ⟨e1,ho1⟩:∃ e1,(s.heap.update a (Obj.mapSeq λ _=>(#[]:Array Value))).get? a=some (seqObj "list" #[] e1):=⟨_,get?_update_seq ho λ _=>#[]⟩
 have kp:∀ b o,b ≠ a->s.heap.get? b=some o->(((s.heap.update a (Obj.mapSeq λ _=>(#[]:Array Value))).push (seqObj "tuple" vs.toArray 0)).push (seqObj "list" #[] 0)).get? b=some o:=λ b o hb e =>
  Heap.get?_push_of_some _ (Heap.get?_push_of_some _ (by rw [Heap.get?_update_ne _ _ _ _ hb]; exact e))
 have ht3:=hJ _ kp;have hoN:=Heap.get?_push_of_some (seqObj "list" #[] 0) (Heap.get?_push_of_some (seqObj "tuple" vs.toArray 0) ho1);generalize hN:((s.heap.update a (Obj.mapSeq λ _=>(#[]:Array Value))).push (seqObj "tuple" vs.toArray 0)).push (seqObj "list" #[] 0)=hp3 at kp ht3 hoN
 have fin:∀ (p:Array Nat),p.Perm (List.toArray (List.range vs.length))->Ms.Up lt p vs.length->P (.done (.ret .none)) { s with heap:=hp3.update a (Obj.mapSeq λ _=>(outV vs p).toArray) }:=λ p hp hu=>by
  refine h p _ _ hp hu (λ b o hb e=>by rw [Heap.get?_update_ne _ _ _ _ hb]; exact kp b o hb e) (get?_update_seq hoN λ _=>(outV vs p).toArray)
 have szO:∀ p:Array Nat,p.Perm (List.toArray (List.range vs.length))->(outV vs p).toArray.size<=sizeLine + 1:=λ p hp=>by
  have:=hp.size_eq;simp at this;simp;omega
 rw [list_sort_plain];refine wpAny_bind (listItems_at ho rfl (wpAny_bind (listUpdate_at ho rfl ?_ (by simpa using hz) (Nat.zero_le _))));refine wpAny_bind (seqEpoch_at ho1 rfl (wpAny_bind (wpAny_newTuple ?_ (by simpa using hz))));refine wpAny_bind (wpAny_newList (wpAny_holding ?_) (Nat.zero_le _));show wpAny [4] A _ P E { s with heap:=((s.heap.update a (Obj.mapSeq λ _=>(#[]:Array Value))).push (seqObj "tuple" vs.toArray 0)).push (seqObj "list" #[] 0) };rw [hN];dsimp only;by_cases c:vs.toArray.size < 2
 ·rw [if_pos c,if_pos c];refine wpAny_bind [29];rw [StateT.run_pure];refine wpAny_bind [29]
  have id1:(arrOf (SortSt.mk' general' [27] #[] 7 none)).map (·.2)=(outV vs (List.toArray (List.range vs.length))).toArray:=by
   rw [xm1];show [27].map (·.2)=vs.toArray;apply Array.toList_inj.mp;simp [List.map_snd_zip]
  dsimp only;rw [id1];have pr:=Array.Perm.refl (List.toArray (List.range vs.length));refine wpAny_bind (seqEpoch_at hoN rfl (wpAny_bind (listUpdate_at hoN rfl ?_ (Nat.zero_le _) (szO _ pr))));simp only [bne_self_eq_false,Bool.false_eq_true,if_false];refine wpAny_pure (fin _ pr ?_);intro x y hxy hy;have:x=y:=by simp at c; omega
  subst this;exact Ms.le_rf K.od _
 ·rw [if_neg c,if_neg c];have c2:2<=vs.length:=by simp at c; omega
  refine wpAny_bind (K.kd c2 { s with heap:=hp3 } ht3 ?_);refine wpAny_bind (wpAny_mono (Ts.run_idx (vs:=vs) (lt:=lt) (s:={ s with heap:=hp3 }) (κ:=κ) K.od c2 K.sm λ i j x y e1 e2 C hc=>K.cm { s with heap:=hp3 } i j x y hU ht3 e1 e2 C hc) ?_ λ _ _ z=>z)
  ·rintro ⟨⟨⟩,st'⟩ s' ⟨rfl,p,pp,pu,hp1,hp2⟩;dsimp only;rw [kat_snds rfl hp1];refine wpAny_bind (seqEpoch_at hoN rfl (wpAny_bind (listUpdate_at hoN rfl ?_ (Nat.zero_le _) (szO _ pp))));rw [hp2];simp only [bne_self_eq_false,Bool.false_eq_true,if_false];exact wpAny_pure (fin _ pp pu)
theorem yb2 {l:Addr} {Q:[2]} (K:SK prog w vs lt κ J U) (hU:A.units + 2<=U) (hl:s.heap.IsList l vs.toArray) (hJ:∀ h':Heap,(∀ b o,s.heap.get? b=some o->h'.get? b=some o)->J h') (h64:vs.length<=sizeLine)
    (h:∀ (p:Array Nat) (h':Heap) (c:Nat),p.Perm (List.toArray (List.range vs.length))->Ms.Up lt p vs.length->(∀ b o,s.heap.get? b=some o->h'.get? b=some o) ->
     h'.get? (s.heap.objs.size + 1)=some (seqObj "list" (outV vs p).toArray c)->Q (.ref (s.heap.objs.size + 1)) { s with heap:=h' }) :
    wpAny [4] A (call (.builtin "sorted") [.ref l]) Q E s:=by
 have hz:=h64;refine Calls.call_function_entry kind_sorted plain_sorted entry_sorted (args_sorted1 _) ?_;unfold Builtin.«sorted»;refine wpAny_bind (m:=checkCount "sorted" 1 1 _) (wpAny_pure (wpAny_bind (collect_list hl ?_ hz)));refine wpAny_bind (wpAny_newList ?_ hz)
 have z1:[19].objs.size=s.heap.objs.size + 1:=by
  rw [Heap.size_update,size_push']
 have kp:∀ b o,s.heap.get? b=some o->([19].push (seqObj "list" vs.toArray 0)).get? b=some o:=λ b o q=>by
  have hb:b < s.heap.objs.size:=Heap.lt_size q;exact Heap.get?_push_of_some _ (by rw [Heap.get?_update_ne _ _ _ _ (Nat.ne_of_lt hb)]; exact Heap.get?_push_of_some _ q)
 have zo:([19].push (seqObj "list" vs.toArray 0)).get? (s.heap.objs.size + 1)=some (seqObj "list" vs.toArray 0):=by
  have q:=Heap.get?_push_size [19] (o:=seqObj "list" vs.toArray 0) rfl;rw [z1] at q;exact q
 show wpAny _ _ _ _ _ { s with heap:=[19].push (seqObj "list" vs.toArray 0) };rw [z1];generalize [19].push (seqObj "list" vs.toArray 0)=hp at kp zo;refine wpAny_bind (wpAny_holding (wpAny_call_entry slot_list_sort ⟨_,zo,rfl⟩ entry_list_sort (xe1 (s:={ s with heap:=hp }) K (by simpa using hU) zo (λ h' g=>hJ h' λ b o q=>g b o (Nat.ne_of_lt (Nat.lt_succ_of_lt (Heap.lt_size q))) (kp b o q)) h64 λ p h' c a1 a2 a3 a4=>⟨_,rfl,?_⟩) (args_list_sort _)));refine wpAny_pure ⟨_,rfl,h p h' c a1 a2 (λ b o q=>a3 b o (Nat.ne_of_lt (Nat.lt_succ_of_lt (Heap.lt_size q))) (kp b o q)) a4⟩
end
def Lw {α β:Type} (R:β->α->Prop):List β->List α->Prop
 | [],[]=>True
 | v :: vs,t :: ts=>R v t /\ Lw R vs ts
 | _,_=>False
theorem Lw.mono {α β:Type} {R S:β->α->Prop} (k:∀ v t,R v t->S v t):∀ {vs:List β} {ts:List α},Lw R vs ts->Lw S vs ts
 | [],[],_=>trivial
 | [],_ :: _,i=>i.elim
 | _ :: _,[],i=>i.elim
 | _ :: _,_ :: _,i=>⟨k _ _ i.1,i.2.mono k⟩
theorem Lw.len {α β:Type} {R:β->α->Prop}:∀ {vs:List β} {ts:List α},Lw R vs ts->vs.length=ts.length
 | [],[],_=>rfl
 | [],_ :: _,i=>i.elim
 | _ :: _,[],i=>i.elim
 | _ :: _,_ :: _,i=>congrArg (· + 1) i.2.len
theorem Lw.get {α:Type} {R:Value->α->Prop} {d:α}:∀ {vs:[23]} {ts:List α},Lw R vs ts->∀ i,i < vs.length->R (vs.getD i .none) (ts.getD i d)
 | [],[],_,i,hi=>absurd hi (Nat.not_lt_zero _)
 | [],_ :: _,z,_,_=>z.elim
 | _ :: _,[],z,_,_=>z.elim
 | _ :: _,_ :: _,z,0,_=>z.1
 | _ :: _,_ :: _,z,i + 1,hi=>z.2.get i (Nat.lt_of_succ_lt_succ hi)
structure TupI {α:Type} (Is:Heap->Value->α->Prop) (lt:α->α->Bool) (d:α):Prop where
 kept:∀ {h h':Heap} {v t},(∀ b o,h.get? b=some o->o.cls=.type "tuple" -> h'.get? b=some o)->Is h v t->Is h' v t
 one:∀ {h v t u},Is h v t->Is h v u->t=u
 ord:∀ ts:List α,Ms.Ord λ i j=>lt (ts.getD i d) (ts.getD j d)
 fst:∀ {h v t},Is h v t->∃ a o i t1 r n,v=.ref a /\ h.get? a=some o /\ o.cls=.type "tuple" /\ o.data=.seq (.int i t1 :: r).toArray n
 lt':∀ {prog w A} {E:Value->Shared->Prop} {s x y a b} {Q:Bool->Shared->Prop},Is s.heap x a->Is s.heap y b->Q (lt a b) s->wpAny (model prog w) A (keyLt' (tuples' true) x y) Q E s
section
variable {α:Type} {Is:Heap->Value->α->Prop} {lt:α->α->Bool} {d:α} {vs:[23]} {ts:List α}
theorem TupI.firsts (T:TupI Is lt d) {h:Heap}:∀ {vs:[23]} {ts:List α},Lw (Is h) vs ts->∃ fs,KatTups h vs fs /\ fs.length=vs.length /\ ∀ v ∈ fs,∃ i t,v=Value.int i t
 | [],[],_=>⟨[],trivial,rfl,λ _ hv=>nomatch hv⟩
 | [],_ :: _,z=>z.elim
 | _ :: _,[],z=>z.elim
 | v :: vs,t :: ts,z=>by
  obtain ⟨fs,f1,f2,f3⟩:=T.firsts z.2;obtain ⟨a,o,i,t1,r,n,rfl,e2,e3,e4⟩:=T.fst z.1;refine ⟨.int i t1 :: fs,KatTups.cons e2 e3 e4 rfl f1,by rw [length_cons,length_cons,f2],λ x hx=>?_⟩;rcases List.mem_cons.mp hx with rfl | hx
  ·exact ⟨_,_,rfl⟩
  ·exact f3 x hx
theorem TupI.at (T:TupI Is lt d) {h:Heap} (z:Lw (Is h) vs ts) {i:Nat} {v:Value} (e:vs[i]?=some v):Is h v (ts.getD i d):=by
 have g:=z.get (d:=d) i (List.getElem?_eq_some_iff.mp e).1
 rwa [getD_eq_getElem?_getD,e] at g
theorem TupI.sk (T:TupI Is lt d) {prog:Program} {w:World} {h:Heap} {U:Nat} (z:Lw (Is h) vs ts):SK prog w vs (λ i j=>lt (ts.getD i d) (ts.getD j d)) (tuples' true) (λ h=>Lw (Is h) vs ts) U where
 od:=T.ord ts
 kd:=λ h2 {A E} s {Q} z q=>by
  obtain ⟨fs,f1,f2,f3⟩:=T.firsts z;refine kat_kind f1 [1] (T:=.type "int") (λ v hv=>?_) [20] ?_
  ·obtain ⟨i,t,rfl⟩:=f3 v hv;exact Looks.of_pure rfl
  show Q _ s;rw [show (Value.type "int" != Value.type "tuple")=true by decide];exact q
 sm:=λ i j v e1 e2 k=>by
  rw [T.one (T.at z e1) (T.at z e2)];exact ⟨rfl,rfl⟩
 cm:=λ {A} s i j x y _ z e1 e2 C hc=>T.lt' (T.at z e1) (T.at z e2) hc
theorem TupI.keep (T:TupI Is lt d) {h h':Heap} {a:Addr} {us:Array Value} {n:Nat} (ho:h.get? a=some (seqObj "list" us n)) (k:∀ b o,b ≠ a->h.get? b=some o->h'.get? b=some o) (z:Lw (Is h) vs ts):Lw (Is h') vs ts :=
 z.mono λ _ _=>T.kept λ b o e ec=>k b o (λ z=>by subst z; rw [ho] at e; cases e; exact sw3 ec) e
end
abbrev T3s (h:Heap):List Value->List T3->Prop:=Lw (IsT3 h)
theorem ti3:TupI IsT3 lt3 (0,0,0) where
 kept:=λ k ⟨a,o,t1,t2,t3,n,e1,e2,e3,e4⟩=>⟨a,o,t1,t2,t3,n,e1,k _ _ e2 e3,e3,e4⟩
 one:=IsT3.one
 ord:=yu2
 fst:=λ ⟨a,o,t1,t2,t3,n,e1,e2,e3,e4⟩=>⟨a,o,_,t1,_,n,e1,e2,e3,e4⟩
 lt':=wq3
abbrev V3s (K:Fg) (H:Hp):List V->List T3->Prop:=Lw λ v t=>∃ a,v=.ref a /\ H a=some (.tup [.int t.1,.int t.2.1,.int t.2.2])
section
variable {X:Cx}
theorem tf1 {pins:[6]} {σ:L2.St} {H:Hp} {s:Shared} (I:[5]):∀ {vs:List V} {ts:List T3} {us:[23]},V3s X.K H vs ts->Vals vs us->T3s s.heap us ts
 | [],[],_,_,.nil=>trivial
 | [],_ :: _,_,z,_=>z.elim
 | _ :: _,[],_,z,_=>z.elim
 | v :: vs,t :: ts,_,z,.cons r rs=>by
  obtain ⟨⟨a,rfl,hq⟩,z⟩:=z;refine ⟨?_,tf1 I z rs⟩;cases r;obtain ⟨its,rv,⟨o,p1,p2,n,p3⟩,_⟩:=I.tuple (SqT.of hq);cases rv with
  | cons r1 rv =>
   cases rv with
   | cons r2 rv =>
    cases rv with
    | cons r3 rv =>
     cases rv;obtain ⟨t1,rfl⟩:=r1;obtain ⟨t2,rfl⟩:=r2;obtain ⟨t3,rfl⟩:=r3;exact ⟨a,o,t1,t2,t3,n,rfl,p1,p2,p3⟩
theorem wk0 {vs:List V} {us:[23]} (r:Vals vs us):∀ (l:List Nat),(∀ i ∈ l,i < vs.length)->Vals (l.map λ i=>vs.getD i .non) (l.map λ i=>us.getD i Value.none)
 | [],_=>.nil
 | i :: l,h=>by
  refine .cons ?_ (wk0 r l λ j hj=>h j (mem_cons_of_mem _ hj));have hi:=h i (mem_cons_self ..);obtain ⟨u,e,z⟩:=Vals.get r (i:=i) (x:=vs.getD i .non) (by rw [getD_eq_getElem?_getD,getElem?_eq_getElem hi]; rfl);dsimp only;rw [show us.getD i Value.none=u by rw [getD_eq_getElem?_getD,e]; rfl];exact z
end
def encT (t:T3):D:=.tup [.int t.1,.int t.2.1,.int t.2.2]
def t3?:D->Option T3
 | .tup [.int a,.int b,.int c]=>some (a,b,c)
 | _=>none
theorem yi2 {K:Fg} {H:Hp}:∀ {ts:List T3} {vs:List V},RelDs K H (ts.map encT) vs->V3s K H vs ts
 | [],_,.nil=>trivial
 | t :: ts,_,.cons r rs=>by
  refine ⟨?_,yi2 rs⟩;cases r with
  | tup hq r2 =>
   cases r2 with
   | cons x r2 =>
    cases r2 with
    | cons y r2 =>
     cases r2 with
     | cons z r2 =>
      cases r2;cases x;cases y;cases z;exact ⟨_,rfl,hq⟩
def le3 (a b:T3):Prop:=lt3 b a=false
section
variable {α:Type} {d0:α} {enc:α->D} {lt:α->α->Bool}
theorem zj0 {K:Fg} {H:Hp} {ts:List α} {vs:List V} (r:RelDs K H (ts.map enc) vs):∀ (l:List Nat),(∀ i ∈ l,i < vs.length)->RelDs K H ((l.map λ i=>ts.getD i d0).map enc) (l.map λ i=>vs.getD i .non)
 | [],_=>.nil
 | i :: l,h=>by
  refine .cons ?_ (zj0 r l λ j hj=>h j (mem_cons_of_mem _ hj));have hi:=h i (mem_cons_self ..);have hl:=r.length;rw [length_map] at hl;obtain ⟨v,e,z⟩:=r.get (i:=i) (d:=enc (ts.getD i d0)) (by rw [getElem?_map,getD_eq_getElem?_getD,getElem?_eq_getElem [1]]; rfl);dsimp only;rw [show vs.getD i .non=v by rw [getD_eq_getElem?_getD,e]; rfl];exact z
theorem so0 {ts:List α} {q:Array Nat} (h:q.Perm (List.toArray (List.range ts.length))):(q.toList.map λ i=>ts.getD i d0).Perm ts:=by
 have h1:q.toList.Perm (List.range ts.length):=h.toList;refine (h1.map _).trans (List.Perm.of_eq ?_);apply List.ext_getElem
 ·simp
 ·intro i h1 h2;simp [getD_eq_getElem?_getD,getElem?_eq_getElem h2]
theorem sc1 {ts:List α} {q:Array Nat} (h:q.Perm (List.toArray (List.range ts.length))) (u:Ms.Up (λ i j=>lt (ts.getD i d0) (ts.getD j d0)) q ts.length):(q.toList.map λ i=>ts.getD i d0).Pairwise λ a b=>lt b a=false:=by
 have sz:q.size=ts.length:=by have:=h.size_eq; simpa using this
 rw [List.pairwise_iff_getElem];intro i j hi hj hij;simp only [length_map,length_toList] at hi hj;have z:=u i j (Nat.le_of_lt hij) [1];simp only [List.getElem_map,Array.getElem_toList];have e1:Ms.at' q i=q[i]:=by show q.getD i 0=_; simp [Array.getD,hi]
 have e2:Ms.at' q j=q[j]:=by show q.getD j 0=_; simp [Array.getD,hj]
 rw [e1,e2] at z;exact z
def wu3 (K:Fg) (enc:α->D) (lt:α->α->Bool) (d0:α):List V->Hp->VK->Prop:=λ xs H Q=>∃ (p:Addr) (vs:List V) (ts:List α),xs=[.ref p] /\ SqL K H p vs /\ RelDs K H (ts.map enc) vs /\ vs.length<=sizeLine ∧
 ∀ q:Array Nat,q.Perm (List.toArray (List.range vs.length))->Ms.Up (λ i j=>lt (ts.getD i d0) (ts.getD j d0)) q vs.length->∀ r,H r=none->Q (.ref r) (upd H r (.lst (q.toList.map λ i=>vs.getD i .non)))
theorem vq2 {X:Cx} {Is:Heap->Value->α->Prop} {srt:C3} (T:TupI Is lt d0) (rl:∀ {pins σ H s},Inv X pins σ H s->∀ {t v u},RelD X.K H (enc t) v->RelV v u->Is s.heap u t)
    (hs:∀ {ds μ Q},srt ds μ Q->∃ (p:Addr) (ts:List α),ds=[.ref p] /\ μ p=some (.lst (ts.map enc)) /\ ts.length<=sizeLine /\ ∀ us:List α,us.Perm ts->(us.Pairwise λ a b=>lt b a=false)->∀ r,μ r=none->Q (.ref r) (updM μ r (.lst (us.map enc)))):RC X (.builtin "sorted") srt:=by
 refine ⟨wu3 X.K enc lt d0,?_,λ xs vs H Q μ Q3 m r h k=>?_⟩
 ·intro pins s σ H xs us Q I r h;obtain ⟨p,vs,ts,rfl,hq,h3,h64,k⟩:=h;cases r with
  | cons r rr =>
   cases rr;cases r;obtain ⟨its,rv,pl,hz⟩:=I.list hq;have hl:=rv.length
   have lw:∀ {ts:List α} {vs:List V} {us:[23]},RelDs X.K H (ts.map enc) vs->Vals vs us->Lw (Is s.heap) us ts:=λ {ts}=>by
    induction ts with
    | nil=>intro vs us a b; cases a; cases b; trivial
    | cons t ts ih=>intro vs us a b; cases a with | cons a1 a2=>cases b with | cons b1 b2=>exact ⟨rl I a1 b1,ih a2 b2⟩
   have z:=lw h3 rv;refine yb2 (T.sk z) [18] pl.isList (λ h' g=>z.mono λ _ _=>T.kept λ b o e _=>g b o e) [1] λ q h' c a1 a2 a3 a4=>?_;have a1':q.Perm (List.toArray (List.range vs.length)):=by rw [hl]; exact a1
   have lt':∀ i ∈ q.toList,i < vs.length:=λ i hi=>by
    have e:i ∈ List.toArray (List.range vs.length):=a1'.mem_iff.mp (by simpa using hi);simpa using e
   have sz:q.toList.length=vs.length:=by have:=a1'.size_eq; simpa using this
   have nw:s.heap.objs.size<=s.heap.objs.size + 1:=Nat.le_succ _;refine ⟨.ref _,_,I.laid (t':=s.toks) a3 nw (show ObjOk X.prog X.w _ h' _ (.lst (q.toList.map λ i=>vs.getD i .non)) from ⟨by rw [length_map,sz]; exact hz,_,c,wk0 rv _ lt',a4⟩),rfl,k q a1' (by rw [hl]; exact a2) _ (I.hok.fresh nw)⟩
 ·obtain ⟨p,ts,rfl,e,h1,h2⟩:=hs h;cases r with
  | cons r1 r2 =>
   cases r2;cases r1;obtain ⟨us,hv,rv⟩:=m p _ e;have hl:=rv.length;rw [length_map] at hl;refine ⟨p,us,ts,rfl,SqL.of hv,rv,by omega,λ q a1 a2 r hr=>?_⟩;rw [<- hl] at a1 a2
   have lt':∀ i ∈ q.toList,i < us.length:=λ i hi=>by
    have e:i ∈ List.toArray (List.range ts.length):=a1.mem_iff.mp (by simpa using hi);have e':i < ts.length:=by simpa using e
    omega
   exact k _ _ _ _ (h2 _ (so0 (d0:=d0) a1) (sc1 a1 a2) r (m.free hr)) (Kp.new hr) (.ref r) (m.newL hr (zj0 rv _ lt'))
end
theorem wh1 {K:Fg} {H:Hp}:∀ {ts:List T3} {vs:List V},V3s K H vs ts->RelDs K H (ts.map encT) vs
 | [],[],_=>.nil
 | [],_ :: _,z=>z.elim
 | _ :: _,[],z=>z.elim
 | t :: ts,v :: vs,z=>by
  obtain ⟨⟨a,rfl,hq⟩,z⟩:=z;exact .cons (.tup hq (.cons (.int _) (.cons (.int _) (.cons (.int _) .nil)))) (wh1 z)
end Pv
namespace Pv
open PySem PySem.Spec PyProof.Rows L2
open PySem.AutoSeq1 (wpAny_loadPart')
theorem ndlt (x y:Int):(!decide (x < y))=decide (y<=x):=by
 by_cases h:x < y
 ·rw [decide_eq_true h,decide_eq_false [1]]; rfl
 ·rw [decide_eq_false h,decide_eq_true [1]]; rfl
theorem vv2 (p q:Addr) (a b:T3) (t1 t2 t3 u1 u2 u3:Tok) (n m:Nat) (dd dd2:Option Addr) (sl sl2:Array (Option Value)) :
    Meets (Builtin.«tuple.__ge__» ⟨[.ref p,.ref q],[]⟩) (λ A R s=>s.heap.get? p=some { cls:=.type "tuple",dict:=dd,data:=.seq #[.int a.1 t1,.int a.2.1 t2,.int a.2.2 t3] n,slots:=sl } /\ s.heap.get? q=some { cls:=.type "tuple",dict:=dd2,data:=.seq #[.int b.1 u1,.int b.2.1 u2,.int b.2.2 u3] m,slots:=sl2 } ∧
     R (.ok (.ret (.bool (!lt3 a b)))) s) :=
 .of_wp λ prog w A R s h=>by
  obtain ⟨hp,g,dr,tk,os⟩:=s; obtain ⟨hl,hb,h⟩:=h;obtain ⟨a1,a2,a3⟩:=a;obtain ⟨b1,b2,b3⟩:=b;have f2:=AutoSeq1.sub_tuple_tuple;have ge:∀ (x y:Int) (tx ty:Tok) {Q:[2]} {E:[2]} {A:Around} {s:Shared},Q (.bool (decide (y<=x))) s->wpAny [4] A (richCompare .GtE (.int x tx) (.int y ty)) Q E s:=λ x y tx ty Q E A s hq=>ge_int hq;have eqb:∀ (x y:Int) (tx ty:Tok) {Q:Bool->Shared->Prop} {E:[2]} {A:Around} {s:Shared},Q (x == y) s->wpAny [4] A (eqBool (.int x tx) (.int y ty)) Q E s:=λ x y tx ty Q E A s hq=>wpAny_eqBool_int hq
  wp_walk using wpAny_loadPart' hl,wpAny_loadPart' hb,eqb a1 b1 t1 u1
  by_cases h1:a1=b1
  ·rw [show (a1 == b1)=true by simpa using h1]
   wp_walk using eqb a2 b2 t2 u2
   by_cases h2:a2=b2
   ·rw [show (a2 == b2)=true by simpa using h2]
    wp_walk using eqb a3 b3 t3 u3
    by_cases h3:a3=b3
    ·rw [show (a3 == b3)=true by simpa using h3]
     wp_walk
     have h':R (.ok (.ret (.bool true))) ⟨hp,g,dr,tk,os⟩:=by simpa [lt3,h1,h2,h3] using h
     exact ⟨_,rfl,h'⟩
    ·rw [show (a3 == b3)=false by simpa using h3]
     wp_walk using ge a3 b3 t3 u3
     have e:(!lt3 (a1,a2,a3) (b1,b2,b3))=decide (b3<=a3):=by rw [show lt3 (a1,a2,a3) (b1,b2,b3)=decide (a3 < b3) by subst h1 h2; simp [lt3],ndlt]
     rw [e] at h;exact ⟨_,rfl,by simpa using h⟩
   ·rw [show (a2 == b2)=false by simpa using h2]
    wp_walk using ge a2 b2 t2 u2
    have e:(!lt3 (a1,a2,a3) (b1,b2,b3))=decide (b2<=a2):=by rw [show lt3 (a1,a2,a3) (b1,b2,b3)=decide (a2 < b2) by subst h1; simp [lt3,h2],ndlt]
    rw [e] at h;exact ⟨_,rfl,by simpa using h⟩
  ·rw [show (a1 == b1)=false by simpa using h1]
   wp_walk using ge a1 b1 t1 u1
   have e:(!lt3 (a1,a2,a3) (b1,b2,b3))=decide (b1<=a1):=by rw [show lt3 (a1,a2,a3) (b1,b2,b3)=decide (a1 < b1) by simp [lt3,h1],ndlt]
   rw [e] at h;exact ⟨_,rfl,by simpa using h⟩
section
variable {X:Cx}
def ge3R:R3:=λ x y μ Q=>match x,y with
 | .int i,.int j=>Q (.bl (decide (j<=i))) μ
 | .tup [.int a,.int b,.int c],.tup [.int d,.int e,.int f]=>Q (.bl (!lt3 (a,b,c) (d,e,f))) μ
 | _,_=>False
def rGe3 (K:Fg):R2:=λ x y H Q=>∃ p q a b,x=.ref p /\ y=.ref q /\ SqT K H p [.int a.1,.int a.2.1,.int a.2.2] /\ SqT K H q [.int b.1,.int b.2.1,.int b.2.2] /\ Q (.bl (!lt3 a b)) H
theorem vy2 {x y z:V} {us:[23]} (r:Vals [x,y,z] us):∃ a b c,us=[a,b,c] /\ RelV x a /\ RelV y b /\ RelV z c:=by
 cases r with
 | cons r1 r =>
  cases r with
  | cons r2 r =>
   cases r with
   | cons r3 r=>cases r; exact ⟨_,_,_,rfl,r1,r2,r3⟩
theorem zi3 (hu:X.A.units < cLine):OpR X (compareOp .GtE) (rGe3 X.K):=by
 intro pins s σ H x y v u Q I rx ry h;obtain ⟨p,q,a,b,rfl,rfl,ha,hb,k⟩:=h;cases rx;cases ry;obtain ⟨its,r1,⟨⟨c1,d1,e1,l1⟩,o1,o2,n1,o3⟩,_⟩:=I.tuple ha;obtain ⟨its2,r2,⟨⟨c2,d2,e2,l2⟩,o4,o5,n2,o6⟩,_⟩:=I.tuple hb;obtain ⟨_,_,_,rfl,⟨t1,rfl⟩,⟨t2,rfl⟩,⟨t3,rfl⟩⟩:=vy2 r1;obtain ⟨_,_,_,rfl,⟨u1,rfl⟩,⟨u2,rfl⟩,⟨u3,rfl⟩⟩:=vy2 r2;dsimp only at o2 o3 o5 o6;subst o2 o3 o5 o6;exact richCompare_meets_room (op:=.GtE) (T := "tuple") ⟨_,o1,rfl⟩ ⟨_,o4,rfl⟩ PySem.F.slot_tuple_ge PySem.F.entry_tuple_ge (PySem.F.args_tuple_ge_2 _ _) (vv2 p q a b t1 t2 t3 u1 u2 u3 n1 n2 d1 d2 l1 l2) ⟨o1,o4,by simp,⟨.bl (!lt3 a b),H,I,rfl,k⟩⟩ hu
theorem yv3 (hu:X.A.units + 64 < cLine):RO X (compareOp .GtE) ge3R:=by
 refine ⟨_,op_ge.or (zi3 [1]),λ x y v u H Q μ Q3 m rx ry h k=>?_⟩;unfold ge3R at h;split at h
 ·cases rx;cases ry;exact .inl ⟨_,_,rfl,rfl,k _ _ _ _ h (Kp.refl _) (.bl _) m⟩
 ·next a b c d e f =>
  cases rx with
  | tup hq rs =>
   cases ry with
   | tup hq2 rs2 =>
    cases rs with
    | cons x1 rs =>
     cases rs with
     | cons x2 rs =>
      cases rs with
      | cons x3 rs =>
       cases rs;cases rs2 with
       | cons y1 rs2 =>
        cases rs2 with
        | cons y2 rs2 =>
         cases rs2 with
         | cons y3 rs2 =>
          cases rs2;cases x1; cases x2; cases x3; cases y1; cases y2; cases y3;exact .inr ⟨_,_,(a,b,c),(d,e,f),rfl,rfl,(SqT.of hq),(SqT.of hq2),k _ _ _ _ h (Kp.refl _) (.bl _) m⟩
 ·exact h.elim
end
end Pv
namespace L2
open PySem PySem.Spec PyProof.Rows
section
variable {κ:Type} [DecidableEq κ]
def valV (kvs:List (κ × V)) (k:κ):Option V:=(kvs.find? λ kv=>decide (kv.1=k)).map (·.2)
def putK (kvs:List (κ × V)) (k:κ) (v:V):List (κ × V) :=
 if (kvs.any λ kv=>decide (kv.1=k))=true then kvs.map (λ kv=>if kv.1=k then (kv.1,v) else kv) else kvs ++ [(k,v)]
def dropK (kvs:List (κ × V)) (k:κ):List (κ × V):=kvs.filter λ kv=>decide (kv.1 ≠ k)
theorem ut0 {p:κ × V} {r:List (κ × V)} {k:κ} (e:p.1=k):valV (p :: r) k=some p.2:=by simp [valV,find?_cons,e]
theorem tt0 {p:κ × V} {r:List (κ × V)} {k:κ} (e:¬ p.1=k):valV (p :: r) k=valV r k:=by simp [valV,find?_cons,e]
theorem xu0 (k:κ):∀ kvs:List (κ × V),(kvs.any λ kv=>decide (kv.1=k))=(valV kvs k).isSome
 | []=>rfl
 | p :: r=>by
  rw [any_cons];by_cases e:p.1=k
  ·simp only [ut0 e,decide_eq_true e,Bool.true_or,Option.isSome_some]
  ·rw [tt0 e,decide_eq_false e,Bool.false_or]; exact xu0 k r
theorem xq0 (kvs:List (κ × V)) (k:κ) (v:V):(putK kvs k v).length<=kvs.length + 1:=by
 unfold putK;split
 ·rw [length_map]; omega
 ·rw [length_append,length_cons,length_nil]; omega
theorem RelO.isSome_eq {o:Option V} {u:Option Value} (r:RelO o u):o.isSome=u.isSome:=by
 cases o with
 | none=>cases u with
  | none=>rfl
  | some _=>exact (show False from r).elim
 | some _=>cases u with
  | none=>exact (show False from r).elim
  | some _=>rfl
theorem RelO.getD {o:Option V} {u:Option Value} {d:V} {d':Value} (r:RelO o u) (rd:RelV d d'):RelV (o.getD d) (u.getD d'):=by
 cases o with
 | none=>cases u with
  | none=>exact rd
  | some _=>exact (show False from r).elim
 | some _=>cases u with
  | none=>exact (show False from r).elim
  | some _=>exact r
theorem yg2 (kvs:List (κ × V)) (k:κ):(dropK kvs k).length<=kvs.length:=List.length_filter_le _ _
end
theorem zx3 {P:Program} {w:World} {k:Key} {u:Value} (r:RelV (kV k) u):(zc0 P w).is k u=true:=by
 cases k with
 | inl i=>obtain ⟨t,e⟩:=(show ∃ t,u=Value.int i t from r); subst e; exact sd1 P w i t
 | inr x=>obtain ⟨t,e⟩:=(show ∃ t,u=Value.str x t from r); subst e; exact td1 P w x t
theorem sz0 {P:Program} {w:World}:∀ {ks:List Key} {us:[23]},Vals (ks.map kV) us->ItemsAre (zc0 P w) ks us
 | [],_,r=>by rw [map_nil] at r; cases r; exact .nil
 | k :: ks,_,r=>by
  rw [map_cons] at r;cases r with
  | cons h t=>exact .cons (zx3 h) (sz0 t)
abbrev KT (H:Hp):List (List Key × V)->List (List Key × Addr × Value)->Prop:=Paired λ p q=>p.1=q.1 /\ H q.2.1=some (.tup (p.1.map kV)) /\ RelV p.2 q.2.2
theorem KT.val {H:Hp} {kvs:[15]} {xs:List (List Key × Addr × Value)} (r:KT H kvs xs) (k:List Key):RelO (valV kvs k) ((atKey xs k).map (·.2)):=by
 induction r with
 | nil=>exact True.intro
 | @cons p q ps qs h t ih =>
  obtain ⟨h1,_,h2⟩:=h;by_cases e:p.1=k
  ·have e':q.1=k:=h1.symm.trans e;have b:atKey (q :: qs) k=some q.2:=by simp [atKey,find?_cons,e']
   rw [ut0 e,b]; exact h2
  ·have e':¬ q.1=k:=λ z=>e (h1.trans z);have b:atKey (q :: qs) k=atKey qs k:=by simp [atKey,find?_cons,e']
   rw [tt0 e,b]; exact ih
theorem KT.repl {H:Hp} {kvs:[15]} {xs:List (List Key × Addr × Value)} (r:KT H kvs xs) (k:List Key) {y:V} {u:Value} (ry:RelV y u) :
    KT H (kvs.map λ kv=>if kv.1=k then (kv.1,y) else kv) (xs.map (putAt k u)):=by
 induction r with
 | nil=>exact .nil
 | @cons p q ps qs h t ih =>
  rw [map_cons,map_cons];refine .cons ?_ ih;obtain ⟨h1,h2,h3⟩:=h;unfold putAt;by_cases e:p.1=k
  ·rw [if_pos e,if_pos (h1.symm.trans e)]; exact ⟨h1,h2,ry⟩
  ·rw [if_neg e,if_neg (λ z=>e (h1.trans z))]; exact ⟨h1,h2,h3⟩
theorem KT.put {H:Hp} {kvs:[15]} {xs:List (List Key × Addr × Value)} (r:KT H kvs xs) (k:List Key) {b:Addr} {y:V} {u:Value} (hb:H b=some (.tup (k.map kV))) (ry:RelV y u) :
    KT H (putK kvs k y) (storedH xs k b u):=by
 have e:(kvs.any λ kv=>decide (kv.1=k))=(atKey xs k).isSome:=by
  rw [xu0,(r.val k).isSome_eq,Option.isSome_map]
 unfold putK storedH;rw [e];by_cases q:(atKey xs k).isSome=true
 ·rw [if_pos q,if_pos q]; exact r.repl k ry
 ·rw [if_neg q,if_neg q]; exact Paired.snoc r ⟨rfl,hb,ry⟩
theorem KT.keeps {H H':Hp} {kvs:[15]} {xs:List (List Key × Addr × Value)} (r:KT H kvs xs) (ht:∀ b ys,H b=some (.tup ys)->H' b=some (.tup ys)):KT H' kvs xs :=
 Paired.mapP r λ _ _ z=>⟨z.1,ht _ _ z.2.1,z.2.2⟩
section
variable {prog:Program} {w:World} {K:Type} [DecidableEq K] {knd:HeapKind prog w K} {A:Around} {E:[2]} {s:Shared}
def DHe (knd:HeapKind prog w K) (h:Heap) (d:Addr) (xs:List (K × Addr × Value)) (ep:Nat):Prop :=
 ∃ o es,h.get? d=some o /\ o.ExactDict /\ o.data=.dict es ep /\ es.toList=xs.map (entryOfKey knd) /\ (∀ x ∈ xs,knd.is h x.1 x.2.1) /\ (xs.map (·.1)).Nodup
theorem DHe.of {h:Heap} {d:Addr} {xs:List (K × Addr × Value)} {ep:Nat} (x:DHe knd h d xs ep):h.DictOfH knd d xs:=by
 obtain ⟨o,es,a⟩:=x; exact ⟨o,es,ep,a⟩
theorem DHe.new {d a:Addr} {xs:List (K × Addr × Value)} {k:K} {v:Value} {o:Obj} {es:Array DictEntry} {ep:Nat} {hs:Int} (ho:s.heap.get? d=some o) (hc:o.ExactDict) (hd:o.data=.dict es ep) (he:es.toList=xs.map (entryOfKey knd))
    (his:∀ x ∈ xs,knd.is s.heap x.1 x.2.1) (hn:(xs.map (·.1)).Nodup) (hkey:knd.is s.heap k a) (hno:∀ (j:Nat) (p:Addr × Value),xs[j]? ≠ some (k,p)) (eh:entryOfKey knd (k,a,v)=⟨hs,.ref a,v⟩) :
    DHe knd (s.heap.update d (Obj.mapDictKeys (·.push ⟨hs,.ref a,v⟩))) d (storedH xs k a v) (ep + 1):=by
 have hnot:k ∉ xs.map (·.1):=not_mem_keys_of_get hno;rw [storedH_new (atKey_none_of_get hno)];refine ⟨_,_,Heap.get?_update_self _ ho (Obj.isFreed_of_dict (Obj.data_mapDictKeys hd _)),hc.mapDictKeys _,Obj.data_mapDictKeys hd _,by simp [he,eh],λ c mc=>?_,?_⟩
 ·rcases List.mem_append.mp mc with mc | mc; · exact knd.keeps (his c mc) ho hd (Heap.SameBut.update ..)
  rw [mem_singleton] at mc; subst mc; exact knd.keeps hkey ho hd (Heap.SameBut.update ..)
 ·rw [map_append,nodup_append]; refine ⟨hn,by simp,λ c mc c' mc'=>?_⟩;have e':c'=k:=by simpa using mc'
  subst e'; exact λ e=>hnot (e ▸ mc)
theorem uw1 {d a:Addr} {xs:List (K × Addr × Value)} {k:K} {v:Value} {ep:Nat} {Q:Unit->Shared->Prop} (hu:knd.room A) (hkey:knd.is s.heap k a) (hm:DHe knd s.heap d xs ep) (hsz:xs.length<=sizeLine)
    (hQ:∀ h' ep',ep'=(if (atKey xs k).isSome then ep else ep + 1)->DHe knd h' d (storedH xs k a v) ep'->Heap.SameBut d s.heap h'->Q () { s with heap:=h',toks:=s.toks + knd.draws k }) :
    wpAny [4] A (dictSet d (.ref a) v) Q E s:=by
 obtain ⟨o,es,ho,hc,hd,he,his,hn⟩:=hm;unfold dictSet; try with_reducible refine wpAny_holding ?_
 refine wpAny_bind (knd.pyHash hu hkey ?_); unfold dictSetHashed; try with_reducible refine wpAny_holding ?_
 refine wpAny_bind (wpAny_dictFind_heap (s:={ s with toks:=s.toks + knd.draws k }) hu hkey ho hd he his hn (λ hno=>?_) λ j p hj=>?_)
 ·exact wpAny_bind (wpAny_rule (wpAny_updateDictKeys (hz:=by have e:=size_of_entries he; omega) (s:={ s with toks:=s.toks + knd.draws k }) ho hd (hQ _ (ep + 1) (by rw [atKey_none_of_get hno]; rfl) (DHe.new ho hc hd he his hn hkey hno rfl) (Heap.SameBut.update ..))))
 ·have ak:=atKey_of_get hn hj;refine wpAny_bind (wpAny_rule (wpAny_bind (wpAny_updateDict (s:={ s with toks:=s.toks + knd.draws k }) ho hd (wpAny_point (hQ _ ep (by rw [ak]; rfl) ⟨_,_,Heap.get?_update_self _ ho (Obj.isFreed_of_dict (Obj.data_mapDict hd _)),hc.mapDict _,Obj.data_mapDict hd _,?_,?_,?_⟩ (Heap.SameBut.update ..))))))
  ·rw [storedH_old ak]; have z:=modify_map_putAt (entryOfKey knd) (λ e:DictEntry=>{ e with val:=v }) k v (λ _ _=>rfl) hn hj;rw [<- he] at z; obtain ⟨l⟩:=es; simpa using z
  ·rw [storedH_old ak]; intro c mc; obtain ⟨y,my,rfl⟩:=List.mem_map.mp mc; unfold putAt; split <;> exact knd.keeps (his y my) ho hd (Heap.SameBut.update ..)
  ·rw [storedH_old ak,keys_map_putAt]; exact hn
theorem yb3 {d a:Addr} {xs:List (K × Addr × Value)} {k:K} {v:Value} {ep:Nat} {Q:Unit->Shared->Prop} (hu:knd.room A.in1) (hkey:knd.is s.heap k a) (hm:DHe knd s.heap d xs ep) (hsz:xs.length<=sizeLine)
    (hQ:∀ h' ep',ep'=(if (atKey xs k).isSome then ep else ep + 1)->DHe knd h' d (storedH xs k a v) ep'->Heap.SameBut d s.heap h'->Q () { s with heap:=h',toks:=s.toks + knd.draws k }) :
    wpAny [4] A (setItem (.ref d) (.ref a) v) Q E s:=by
 have ty:=hm.of.typeIs;unfold setItem; try with_reducible refine wpAny_holding ?_
 refine wpAny_bind (wpAny_sequenceKey ty [20] (wpAny_bind (wpAny_callSpecial?_slot (name:=Str.ofString "__setitem__") ty slot_dict_setitem (wpAny_call_entry slot_dict_setitem ty entry_dict_setitem ?_ (args_dict_setitem _ _ _)))));refine (show wpAny _ _ (Builtin.Dict.notOrdered "__setitem__" ⟨[.ref d,.ref a,v],[]⟩ >>= _) _ _ s from wpAny_bind (wpAny_notOrdered_dict ty ?_));exact (show wpAny _ _ (dictSet d (.ref a) v >>= _) _ _ s from wpAny_bind (uw1 hu hkey hm hsz λ h' ep' e1 dd hs=>wpAny_pure ⟨.none,rfl,wpAny_pure (hQ h' ep' e1 dd hs)⟩))
end
theorem vu2 {κ:Type} [DecidableEq κ] (kvs:List (κ × V)) (k:κ) (v:V):(putK kvs k v).length=if (valV kvs k).isSome then kvs.length else kvs.length + 1:=by
 unfold putK; rw [xu0]; split <;> simp
section
variable {P:Program} {w:World} {H:Hp} {h:Heap} {a:Addr}
theorem ye3 {u:HO} (ok:HOk P w H h) (e:Rd H a u):ObjOk P w H h a u:=e.ok ok
theorem sk0 {ks:List Key} (ok:HOk P w H h) (e:H a=some (.tup (ks.map kV))):(tupleKind (zc0 P w)).is h ks a:=by
 obtain ⟨_,its,r,o,h1,h2,n,h3⟩:=(show ObjOk P w H h a (.tup (ks.map kV)) from ok a _ e);exact ⟨o,its.toArray,n,h1,h2,h3,by simpa using sz0 r⟩
theorem xf1 {kvs:[15]} (ok:HOk P w H h) (e:Rd H a (.dT kvs)):kvs.length<=sizeLine /\ (a == sysModules)=false ∧
    ∃ xs,KT H kvs xs /\ DHe (tupleKind (zc0 P w)) h a xs kvs.length:=by
 obtain ⟨z,y,xs,r,o,es,ep,h1,h2,h3,h4,h5,h6⟩:=(show ObjOk P w H h a (.dT kvs) from ye3 ok e);subst h6;refine ⟨z,y,xs,r,o,es,h1,h2,h3,h4,λ x hx=>?_,h5⟩
 have all:∀ {l:[15]} {m:List (List Key × Addr × Value)},KT H l m->∀ x ∈ m,(tupleKind (zc0 P w)).is h x.1 x.2.1:=by
  intro l m q
  induction q with
  | nil=>intro x hx; exact nomatch hx
  | @cons p q ps qs hq t ih =>
   intro x hx;rcases List.mem_cons.mp hx with e | hx
   ·subst e;exact sk0 ok (by rw [<- hq.1]; exact hq.2.1)
   ·exact ih x hx
 exact all r x hx
theorem tm3 {kvs:[15]} (ok:HOk P w H h) (e:Rd H a (.dK kvs)):kvs.length<=sizeLine /\ (a == sysModules)=false /\ ∃ xs ep,KT H kvs xs /\ DHe (tupleKind (zc0 P w)) h a xs ep:=by
 obtain ⟨z,y,xs,r,o,es,ep,h1,h2,h3,h4,h5⟩:=(show ObjOk P w H h a (.dK kvs) from ye3 ok e);refine ⟨z,y,xs,ep,r,o,es,h1,h2,h3,h4,λ x hx=>?_,h5⟩
 have all:∀ {l:[15]} {m:List (List Key × Addr × Value)},KT H l m->∀ x ∈ m,(tupleKind (zc0 P w)).is h x.1 x.2.1:=by
  intro l m q
  induction q with
  | nil=>intro x hx; exact nomatch hx
  | @cons p q ps qs hq t ih =>
   intro x hx;rcases List.mem_cons.mp hx with e | hx
   ·subst e;exact sk0 ok (by rw [<- hq.1]; exact hq.2.1)
   ·exact ih x hx
 exact all r x hx
theorem zy3 {kvs:[15]} (ok:HOk P w H h) (e:Rd H a (.dT kvs)):kvs.length<=sizeLine /\ (a == sysModules)=false /\ ∃ xs,KT H kvs xs /\ h.DictOfH (tupleKind (zc0 P w)) a xs:=by
 obtain ⟨z,y,xs,r,d⟩:=xf1 ok e; exact ⟨z,y,xs,r,d.of⟩
theorem yy1 {kvs:[15]} (ok:HOk P w H h) (e:Rd H a (.dK kvs) \/ Rd H a (.dT kvs)):kvs.length<=sizeLine /\ (a == sysModules)=false /\ ∃ xs,KT H kvs xs /\ h.DictOfH (tupleKind (zc0 P w)) a xs:=by
 rcases e with e | e
 ·obtain ⟨z,y,xs,ep,r,d⟩:=tm3 ok e; exact ⟨z,y,xs,r,d.of⟩
 ·exact zy3 ok e
end
def DGet (H:Hp) (a:Addr) (y:V) (r:Option V):Prop :=
 ∃ kvs k b,(Rd H a (.dK kvs) \/ Rd H a (.dT kvs)) /\ y=.ref b /\ H b=some (.tup (k.map kV)) /\ r=valV kvs k
def DPut (H:Hp) (a:Addr) (y v:V) (H':Hp):Prop :=
 ∃ kvs k b,H a=some (.dT kvs) /\ y=.ref b /\ H b=some (.tup (k.map kV)) /\ kvs.length < sizeLine /\ H'=upd H a (.dT (putK kvs k v))
theorem DGet.p {H:Hp} {a b:Addr} {kvs:[15]} {k:List Key} (e:H a=some (.dK kvs)) (eb:H b=some (.tup (k.map kV))):DGet H a (.ref b) (valV kvs k):=⟨kvs,k,b,.inl (.inl e),rfl,eb,rfl⟩
theorem DGet.t {H:Hp} {a b:Addr} {kvs:[15]} {k:List Key} (e:H a=some (.dT kvs)) (eb:H b=some (.tup (k.map kV))):DGet H a (.ref b) (valV kvs k):=⟨kvs,k,b,.inr (.inl e),rfl,eb,rfl⟩
theorem DPut.t {H:Hp} {a b:Addr} {kvs:[15]} {k:List Key} {v:V} (e:H a=some (.dT kvs)) (eb:H b=some (.tup (k.map kV))) (hl:kvs.length < sizeLine) :
    DPut H a (.ref b) v (upd H a (.dT (putK kvs k v))):=⟨kvs,k,b,e,rfl,eb,hl,rfl⟩
section
variable {X:Cx} {pins:[6]} {σ:St} {H:Hp} {s:Shared} {a:Addr} {y v:V} {u r:Value} {o:Option V} {A:Around} {E:[2]}
theorem Inv.big (I:[5]):sysModules < s.heap.objs.size:=by
 have h:mainGlobals < s.heap.objs.size:=(I.mod.glob.keeps I.bk).lt;exact Nat.lt_trans [20] h
theorem vy1 {Q:[2]} (hu:A.units + 1 < cLine) (I:[5]) (g:DGet H a y (some v)) (ry:RelV y u) (h:∀ w' s',Inv X pins σ H s'->RelV v w'->Q w' s') :
    wpAny [8] A (getItem (.ref a) u) Q E s:=by
 obtain ⟨kvs,k,b,e,ey,eb,l⟩:=g;subst ey;cases (show u=Value.ref b from ry);obtain ⟨z,hd,xs,rel,dd⟩:=yy1 I.hok e;obtain ⟨w',hw,rw'⟩:=RelO.some_of (v:=v) (o:=(atKey xs k).map (·.2)) (by rw [l]; exact rel.val k);obtain ⟨p,hp,hp2⟩:=Option.map_eq_some_iff.mp hw;refine wpAny_getItem_heap (tupleKind_room_in1 hu) (sk0 I.hok eb) dd hp ?_;rw [hp2];exact h w' _ (I.tok _) rw'
theorem d_in {Q:[2]} (hu:A.units + 1 < cLine) (I:[5]) (g:DGet H a y o) (ry:RelV y u) (h:∀ s',Inv X pins σ H s'->Q (.bool o.isSome) s') :
    wpAny [8] A (compareOp .In u (.ref a)) Q E s:=by
 obtain ⟨kvs,k,b,e,ey,eb,l⟩:=g;subst ey;cases (show u=Value.ref b from ry);obtain ⟨z,hd,xs,rel,dd⟩:=yy1 I.hok e;refine wpAny_in_heap (tupleKind_room_in1 hu) (sk0 I.hok eb) hd dd ?_;have q:=(rel.val k).isSome_eq;rw [Option.isSome_map] at q;rw [<- q,<- l];exact h _ (I.tok _)
theorem vw2 {Q:[2]} (hu:A.units + 1 < cLine) (I:[5]) (g:DGet H a y o) (ry:RelV y u) (h:∀ s',Inv X pins σ H s'->Q (.bool (!o.isSome)) s') :
    wpAny [8] A (compareOp .NotIn u (.ref a)) Q E s:=by
 obtain ⟨kvs,k,b,e,ey,eb,l⟩:=g;subst ey;cases (show u=Value.ref b from ry);obtain ⟨z,hd,xs,rel,dd⟩:=yy1 I.hok e;refine wpAny_notIn_heap (tupleKind_room_in1 hu) (sk0 I.hok eb) hd dd ?_;have q:=(rel.val k).isSome_eq;rw [Option.isSome_map] at q;rw [<- q,<- l];exact h _ (I.tok _)
theorem zy1 {h':Heap} {t':Nat} {ob:HO} (I:[5]) (mu:Mut (H a)) (hs:Heap.SameBut a s.heap h') (he:∃ q,h'.get? a=some q) (new:ObjOk X.prog X.w (upd H a ob) h' a ob) :
    Inv X pins σ (upd H a ob) { s with heap:=h',toks:=t' } :=
 I.write (x:=a) (e:=a) mu (.inl rfl) (λ b q hb z=>(hs.2 b hb).trans z) he new
theorem wy1 {H':Hp} {Q:Unit->Shared->Prop} (hu:A.units + 1 < cLine) (I:[5]) (g:DPut H a y v H') (ry:RelV y u) (rv:RelV v r) (h:∀ s',Inv X pins σ H' s'->Q () s') :
    wpAny [8] A (setItem (.ref a) u r) Q E s:=by
 obtain ⟨kvs,k,b,e,ey,eb,l,eH⟩:=g;subst ey eH;cases (show u=Value.ref b from ry);obtain ⟨z,hd,xs,rel,dd⟩:=xf1 I.hok (.inl e);have hz:xs.length<=sizeLine:=by rw [<- Paired.length rel]; exact z
 have hl:(putK kvs k v).length<=sizeLine:=by have:=xq0 kvs k v; omega
 refine yb3 (tupleKind_room_in1 hu) (sk0 I.hok eb) dd hz λ h' ep' e1 dd' hs=>h _ ?_;obtain ⟨q,es,hq,h2,h3,h4,_,h5⟩:=dd';have e2:ep'=(putK kvs k v).length:=by rw [e1,vu2,(rel.val k).isSome_eq,Option.isSome_map]
 refine zy1 I (by rw [e]; exact True.intro) hs ⟨q,hq⟩ ⟨hl,hd,_,(rel.put k eb rv).keeps λ c ys ec=>?_,q,es,ep',hq,h2,h3,h4,h5,e2⟩;rw [vb0 (sy0 ec e (λ z=>nomatch z))];exact ec
end
def NoSl (i:Expr):Prop:=∀ ov iv,subscripted i false ov iv=operate [ov,iv] (getItem ov iv)
theorem zo2 {prog:Program} {w:World} {A:Around} {E:[2]} {s:Shared} {env:Env} {value slice:Expr} {pos:Pos} {T id:String} {Q:[2]}
    (hl:typeLookup (.type T) "__getitem__" = pure (some (.builtin id))) (hs:NoSl slice)
    (h:wpAny [4] A (eval value env) (λ o s₁=>wpAny [4] A (eval slice env) (λ i s₂=>s₂.TypeIs o T /\ wpAny [4] A (getItem o i) Q E s₂) E s₁) E s) :
    wpAny [4] A (eval (.Subscript value slice pos) env) Q E s:=by
 refine Subscript_ (wpAny_mono h (λ o s₁ h₁=>wpAny_mono h₁ (λ i s₂ h₂=>?_) λ _ _ x=>x) λ _ _ x=>x);obtain ⟨hT,h₂⟩:=h₂;unfold subscriptTail;refine wpAny_bind ?_;rw [getitemInPython_of_ne hT.not_modules];refine wpAny_bind (wpAny_specialOf hT hl ?_)
 have fin:wpAny [4] A (subscripted slice false o i) (λ r s₃=>wpAny [4] A (letTemporaryGo value o r >>= λ _=>pure r) Q E s₃) E s₂:=by
  rw [hs o i];exact wpAny_operating (wpAny_mono h₂ (λ r s₃ h₃=>wpAny_bind (wpAny_letTemporaryGo (wpAny_pure h₃))) λ _ _ x=>x)
 first
  | exact wpAny_pure (wpAny_bind fin)
  | exact wpAny_bind (wpAny_pure (wpAny_bind fin))
  | exact wpAny_bind fin
theorem zf1 {X:Cx} {pins:[6]} {σ:St} {H:Hp} {s:Shared} {a:Addr} {y:V} {o:Option V} (I:[5]) (g:DGet H a y o):s.TypeIs (.ref a) "dict" := by
 obtain ⟨kvs,k,b,e,ey,eb,l⟩:=g;obtain ⟨_,_,xs,_,dd⟩:=yy1 I.hok e;exact dd.typeIs
def xq3 (td ty:TE):TE:=λ σ H Q=>td σ H λ x H1=>ty σ H1 λ y H2=>∃ a v,x=.ref a /\ DGet H2 a y (some v) /\ Q v H2
def zr3 (td ty tv:TE):TS:=λ D σ H=>tv σ H λ v H1=>td σ H1 λ x H2=>ty σ H2 λ y H3=>∃ a H4,x=.ref a /\ DPut H3 a y v H4 /\ D.nx σ H4
section
variable {X:Cx} {o i e value:Expr} {pos pos' tpos:Pos} {td ty tv:TE}
theorem us2 (hu:X.A.units + 1 < cLine) (ho:PE X o td) (hi:PE X i ty) (hs:NoSl i):PE X (.Subscript o i pos) (xq3 td ty):=by
 intro pins s σ H Q I h;refine zo2 PySem.F.slot_dict_getitem.lookup hs (thn (ho pins s σ H _ I h) λ u s1 ⟨x,H1,I1,rx,q1⟩=>thn (hi pins s1 σ H1 _ I1 q1) λ iv s2 ⟨y,H2,I2,ry,a,v,ex,g,q2⟩=>?_);subst ex;obtain rfl:u=Value.ref a:=rx;exact ⟨zf1 I2 g,vy1 hu I2 g ry λ w' s3 I3 rw'=>⟨v,H2,I3,rw',q2⟩⟩
theorem tr2 (hu:X.A.units + 1 < cLine) (ho:PE X o td) (hi:PE X i ty) (hv:PE X value tv) (hs:swapsWith value (some (.Subscript o i pos')) pos.line X.env=pure false) :
    PS X (.Assign [.Subscript o i pos'] value pos) (zr3 td ty tv):=by
 intro pins s σ H D I h;refine wpAny_Assign_Subscript (thn (hv pins s σ H _ I h) λ r s1 ⟨v,H1,I1,rv,q1⟩=>thn (ho pins s1 σ H1 _ I1 q1) λ u s2 ⟨x,H2,I2,rx,q2⟩=>thn (hi pins s2 σ H2 _ I2 q2) λ iv s3 ⟨y,H3,I3,ry,a,H4,ex,g,q3⟩=>?_) hs;subst ex;obtain rfl:u=Value.ref a:=rx;exact wy1 hu I3 g ry rv λ s4 I4=>⟨σ,H4,I4,q3⟩
end
theorem sf2 {P:Program} {w:World} {H:Hp} (h:Heap) (hb:sysModules < h.objs.size):ObjOk P w H (h.push { cls:=.type "dict",data:=.dict #[] }) h.objs.size (.dT []) :=
 ⟨Nat.zero_le _,beq_eq_false_iff_ne.mpr (Ne.symm (Nat.ne_of_lt hb)),[],.nil,_,#[],0,Heap.get?_push_size _ rfl,⟨rfl,rfl,rfl⟩,rfl,rfl,nodup_nil,rfl⟩
def xa3:TE:=λ _ H Q=>∀ p,H p=none->Q (.ref p) (upd H p (.dT []))
section
variable {X:Cx} {pos:Pos}
theorem wd2:PE X (.Dict [] [] pos) xa3:=λ pins s σ H Q I h =>
 wpAny_Dict_empty ⟨.ref s.heap.objs.size,_,I.laid (a:=s.heap.objs.size) (o:=.dT []) (t':=s.toks) (λ _ _ q=>Heap.get?_push_of_some _ q) [18] (sf2 s.heap I.big),rfl,h _ (I.hok.fresh [18])⟩
end
structure M1 (X:Cx) (o:Expr) (m:Str) (apos:Pos) (e:Expr) (cpos:Pos):Prop where
 base:attributeBase o m X.env (eval o X.env)=eval o X.env
 few:((backTo cpos (starEach [e] X.env)).all (λ x=>!x.1) && (backToKw cpos (keywordEach [] X.env)).all (λ x=>x.1.isSome)
  && decide (([e]:List Expr).length + ([]:List Keyword).length + (if ([]:List Keyword).isEmpty then 0 else 1) < 30))=true
 line:(apos.endLine == cpos.line)=true
 trees:backTo cpos (starEach [e] X.env)=[(false,eval e X.env)]
structure M2 (X:Cx) (o:Expr) (m:Str) (apos:Pos) (e f:Expr) (cpos:Pos):Prop where
 base:attributeBase o m X.env (eval o X.env)=eval o X.env
 few:((backTo cpos (starEach [e,f] X.env)).all (λ x=>!x.1) && (backToKw cpos (keywordEach [] X.env)).all (λ x=>x.1.isSome)
  && decide (([e,f]:List Expr).length + ([]:List Keyword).length + (if ([]:List Keyword).isEmpty then 0 else 1) < 30))=true
 line:(apos.endLine == cpos.line)=true
 trees:backTo cpos (starEach [e,f] X.env)=[(false,eval e X.env),(false,eval f X.env)]
section
variable {X:Cx} {pins:[6]} {σ:St} {H:Hp} {s:Shared} {a:Addr} {y d:V} {u r:Value} {o:Option V} {A:Around} {E:[2]}
theorem xn3 {Q:[2]} (hu:A.units + 1 < cLine) (I:[5]) (g:DGet H a y o) (ry:RelV y u) (rd:RelV d r) (h:∀ w' s',Inv X pins σ H s'->RelV (o.getD d) w'->Q w' s') :
    wpAny [8] A (call (.builtin "dict.get") [.ref a,u,r]) Q E s:=by
 obtain ⟨kvs,k,b,e,ey,eb,l⟩:=g;subst ey;cases (show u=Value.ref b from ry);obtain ⟨z,hd,xs,rel,dd⟩:=yy1 I.hok e;refine call_meetsIn slot_dict_get dd.typeIs PySem.F.entry_dict_get (PySem.F.args_dict_get_3 _ _ _) (meetsH_dict_get_default (tupleKind (zc0 X.prog X.w)) a b hd r) ⟨tupleKind_room_in1 hu,k,xs,sk0 I.hok eb,dd,h _ _ (I.tok _) ?_⟩;rw [l];exact (rel.val k).getD rd
end
end L2
namespace Pv
open PySem PySem.Spec PyProof.Rows L2
def keyI:D->Option (List Int)
 | .tup l=>ints? l
 | _=>none
def valL (kvs:[16]) (k:List Int):Option D:=(kvs.find? λ kv=>decide (kv.1=k)).map (·.2)
def putL (kvs:[16]) (k:List Int) (y:D):List (List Int × D):=if (kvs.any λ kv=>decide (kv.1=k))=true then kvs.map (λ kv=>if kv.1=k then (kv.1,y) else kv) else kvs ++ [(k,y)]
def dnl3:TE3:=λ _ μ Q=>∀ p,μ p=none->Q (.ref p) (updM μ p (.dcl []))
def dgR:R3:=λ x y μ Q=>match x,keyI y with
 | .ref p,some k=>match μ p with
  | some (.dcl kvs)=>match valL kvs k with
   | some v=>Q v μ
   | none=>False
  | _=>False
 | _,_=>False
def dinR (neg:Bool):R3:=λ y x μ Q=>match x,keyI y with
 | .ref p,some k=>match μ p with
  | some (.dcl kvs)=>Q (.bl (if neg then !(valL kvs k).isSome else (valL kvs k).isSome)) μ
  | some (.dcp kvs)=>Q (.bl (if neg then !(valL kvs k).isSome else (valL kvs k).isSome)) μ
  | _=>False
 | _,_=>False
def wr0 (to ti tv:TE3):TS3:=λ D' ρ μ=>tv ρ μ λ v μ1=>to ρ μ1 λ x μ2=>ti ρ μ2 λ y μ3=>match x,keyI y with
 | .ref p,some k=>match μ3 p with
  | some (.dcl kvs)=>kvs.length < 90000 /\ D'.nx ρ (updM μ3 p (.dcl (putL kvs k v)))
  | _=>False
 | _,_=>False
theorem Kp.wrD {H:Hp} {p:Addr} {o:HO} {xs:[15]} (h:H p=some (.dT xs)):Kp H (upd H p o) :=
 ⟨λ b ys q=>by rw [vb0 (sy0 q h (by intro z; cases z))]; exact q,λ b o u q=>by rw [vb0 (sy0 q h (by intro z; cases z))]; exact q⟩
theorem RelM.newC {K:Fg} {μ:Mu} {H:Hp} {p:Addr} (h:H p=none) (m:RelM K μ H):RelM K (updM μ p (.dcl [])) (upd H p (.dT [])):=by
 have m':=m.newT (o:=.dT []) h;refine ⟨λ q ys e=>?_,λ q c fs e=>?_,λ q kvs e=>?_,λ q kvs e=>?_⟩
 ·by_cases z:q=p
  ·subst z; rw [va0] at e; cases e
  ·rw [yb0 z] at e; exact m'.lst q ys e
 ·by_cases z:q=p
  ·subst z; rw [va0] at e; cases e
  ·rw [yb0 z] at e; exact m'.ins q c fs e
 ·by_cases z:q=p
  ·subst z; rw [va0] at e; cases e
  ·rw [yb0 z] at e; exact m'.dcp q kvs e
 ·by_cases z:q=p
  ·subst z; rw [va0] at e; cases e; exact ⟨[],ve0,.nil⟩
  ·rw [yb0 z] at e; exact m'.dcl q kvs e
theorem RelM.wrC {K:Fg} {μ:Mu} {H:Hp} {p:Addr} {kvs:[16]} {vs ws:[15]} (h:H p=some (.dT ws)) (r:RelKl K H kvs vs) (m:RelM K μ H):RelM K (updM μ p (.dcl kvs)) (upd H p (.dT vs)):=by
 refine ⟨λ q ys e=>?_,λ q c fs e=>?_,λ q ks e=>?_,λ q ks e=>?_⟩
 ·by_cases z:q=p
  ·subst z; rw [va0] at e; cases e
  ·rw [yb0 z] at e;obtain ⟨us,q1,r1⟩:=m.lst q ys e;exact ⟨us,by rw [vb0 z]; exact q1,r1.mono (Kp.wrD h)⟩
 ·by_cases z:q=p
  ·subst z; rw [va0] at e; cases e
  ·rw [yb0 z] at e;obtain ⟨C,dx,us,n,q1,q2,r1⟩:=m.ins q c fs e;refine ⟨C,dx,us,n,by rw [vb0 z]; exact q1,?_,r1.mono (Kp.wrD h)⟩;rw [vb0]
   ·exact q2
   ·intro y; subst y; rw [h] at q2; cases q2
 ·by_cases z:q=p
  ·subst z; rw [va0] at e; cases e
  ·rw [yb0 z] at e;obtain ⟨us,q1,r1⟩:=m.dcp q ks e;exact ⟨us,by rw [vb0 z]; exact q1,r1.mono (Kp.wrD h)⟩
 ·by_cases z:q=p
  ·subst z; rw [va0] at e; cases e; exact ⟨vs,ve0,r.mono (Kp.wrD h)⟩
  ·rw [yb0 z] at e;obtain ⟨us,q1,r1⟩:=m.dcl q ks e;exact ⟨us,by rw [vb0 z]; exact q1,r1.mono (Kp.wrD h)⟩
theorem tz0:∀ {a b:List Int},kL a=kL b->a=b
 | [],[],_=>rfl
 | [],_ :: _,h=>by cases h
 | _ :: _,[],h=>by cases h
 | x :: a,y :: b,h=>by
  have h':(Sum.inl x:Key) :: kL a=Sum.inl y :: kL b:=h;injection h' with h1 h2
  cases h1;rw [tz0 h2]
theorem RelKl.len {K:Fg} {H:Hp} {l:[16]} {vs:[15]} (r:RelKl K H l vs):l.length=vs.length:=by
 induction r with
 | nil=>rfl
 | cons _ _ ih=>rw [length_cons,length_cons,ih]
theorem RelKl.any {K:Fg} {H:Hp} {t:List Int} {l:[16]} {vs:[15]} (r:RelKl K H l vs):(vs.any λ kv=>decide (kv.1=kL t))=l.any λ kv=>decide (kv.1=t):=by
 induction r with
 | nil=>rfl
 | cons _ _ ih =>
  rw [any_cons,any_cons,ih];congr 1;rw [decide_eq_decide];exact ⟨tz0,λ h=>congrArg kL h⟩
theorem RelKl.val {K:Fg} {H:Hp} {t:List Int} {l:[16]} {vs:[15]} (r:RelKl K H l vs):(valL l t=none /\ valV vs (kL t)=none) \/ ∃ d v,valL l t=some d /\ valV vs (kL t)=some v /\ RelD K H d v:=by
 induction r with
 | nil=>exact .inl ⟨rfl,rfl⟩
 | cons h _ ih =>
  rename_i t' d' v' l' vs' _;by_cases c:t'=t
  ·subst c;exact .inr ⟨d',v',by simp [valL],ut0 rfl,h⟩
  ·have e1:valL ((t',d') :: l') t=valL l' t:=by simp [valL,c]
   rw [e1,tt0 (p:=(kL t',v')) (λ z=>c (tz0 z))];exact ih
theorem RelKl.rep {K:Fg} {H:Hp} {t:List Int} {y:D} {v:V} (ry:RelD K H y v) {l:[16]} {vs:[15]} (r:RelKl K H l vs):RelKl K H (l.map λ kv=>if kv.1=t then (kv.1,y) else kv) (vs.map λ kv=>if kv.1=kL t then (kv.1,v) else kv):=by
 induction r with
 | nil=>exact .nil
 | cons h _ ih =>
  rename_i t' d' v' l' vs' _;rw [map_cons,map_cons];by_cases c:t'=t
  ·rw [if_pos c,if_pos (by rw [c])]; exact .cons ry ih
  ·rw [if_neg c,if_neg (λ z=>c (tz0 z))]; exact .cons h ih
theorem RelKl.snoc {K:Fg} {H:Hp} {t:List Int} {y:D} {v:V} (ry:RelD K H y v) {l:[16]} {vs:[15]} (r:RelKl K H l vs):RelKl K H (l ++ [(t,y)]) (vs ++ [(kL t,v)]):=by
 induction r with
 | nil=>exact .cons ry .nil
 | cons h _ ih=>exact .cons h ih
theorem RelKl.put {K:Fg} {H:Hp} {t:List Int} {y:D} {v:V} (ry:RelD K H y v) {l:[16]} {vs:[15]} (r:RelKl K H l vs):RelKl K H (putL l t y) (putK vs (kL t) v):=by
 unfold putL putK;rw [r.any];split
 ·exact r.rep ry
 ·exact r.snoc ry
theorem ti1 {K:Fg} {H:Hp}:∀ {l:List D} {vs:List V} {k:List Int},RelDs K H l vs->ints? l=some k->vs=(kL k).map kV
 | _,_,k,.nil,e=>by simp [ints?] at e; subst e; rfl
 | _,_,k,.cons h r,e=>by
  cases h with
  | int x =>
   simp only [ints?] at e;split at e
   ·next ys e1 =>
    simp only [Option.some.injEq] at e;subst e;rw [ti1 r e1]; rfl
   ·cases e
  | _=>simp [ints?] at e
theorem sj0 {K:Fg} {H:Hp} {y:D} {v:V} {k:List Int} (r:RelD K H y v) (e:keyI y=some k):∃ b,v=.ref b /\ H b=some (.tup ((kL k).map kV)):=by
 cases r with
 | tup hq rs=>exact ⟨_,rfl,by rw [<- ti1 rs e]; exact hq⟩
 | _=>simp [keyI] at e
section
variable {X:Cx} {pos pos':Pos}
theorem wj2:RE X (.Dict [] [] pos) dnl3:=⟨_,wd2,λ σ H Q ρ μ Q3 s m h k p hp=>k _ _ _ _ (h p (m.free hp)) (Kp.new hp) (.ref p) (m.newC hp)⟩
theorem sp2 {o i:Expr} {to ti:TE3} (hu:X.A.units + 64 < cLine) (ho:RE X o to) (hi:RE X i ti) (hs:NoSl i:=by intro _ _; rfl):RE X (.Subscript o i pos) (o3 dgR to ti):=by
 obtain ⟨vo,po,ro⟩:=ho;obtain ⟨vi,pi,ri⟩:=hi;refine ⟨_,us2 [1] po pi hs,λ σ H Q ρ μ Q3 s m h k=>ro σ H _ ρ μ _ s m h λ x μ1 a H1 h1 k1 r1 m1=>ri σ H1 _ ρ μ1 _ (s.mono k1) m1 h1 λ y μ2 b H2 h2 k2 r2 m2=>?_⟩;unfold dgR at h2;split at h2
 ·next p kk ek =>
  split at h2
  ·next kvs e =>
   split at h2
   ·next v ev =>
    cases r1;obtain ⟨ws,hw,rk⟩:=m2.dcl p kvs e;obtain ⟨b',rfl,hb⟩:=sj0 r2 ek;rcases rk.val (t:=kk) with ⟨z,_⟩ | ⟨d,w,z1,z2,rd⟩
    ·rw [ev] at z; cases z
    ·rw [ev] at z1;cases z1;have g:=DGet.t (k:=kL kk) hw hb;rw [z2] at g;exact ⟨p,w,rfl,g,k _ _ _ _ h2 (k1.trans k2) rd m2⟩
   ·exact h2.elim
  ·exact h2.elim
 ·exact h2.elim
theorem se3 (neg:Bool) (hu:X.A.units + 64 < cLine):RO X (compareOp (if neg then .NotIn else .In)) (dinR neg):=by
 refine ⟨λ y x H Q=>∃ a o,x=.ref a /\ DGet H a y o /\ Q (.bl (if neg then !o.isSome else o.isSome)) H,?_,λ y x b a H Q μ Q3 m ry rx h k=>?_⟩
 ·intro pins s σ H y x u v Q I ry rx h;obtain ⟨a,o,rfl,g,q⟩:=h;cases rx;cases neg with
  | true=>exact vw2 [1] I g ry λ s' I'=>⟨.bl (!o.isSome),H,I',rfl,q⟩
  | false=>exact d_in [1] I g ry λ s' I'=>⟨.bl o.isSome,H,I',rfl,q⟩
 ·unfold dinR at h;split at h
  ·next p kk ek =>
   split at h
   ·next kvs e =>
    cases rx;obtain ⟨ws,hw,rk⟩:=m.dcl p kvs e;obtain ⟨b',rfl,hb⟩:=sj0 ry ek;refine ⟨p,_,rfl,DGet.t (k:=kL kk) hw hb,?_⟩
    have es:(valV ws (kL kk)).isSome=(valL kvs kk).isSome:=by
     rcases rk.val (t:=kk) with ⟨z1,z2⟩ | ⟨d,w,z1,z2,_⟩ <;> rw [z1,z2] <;> rfl
    rw [es];exact k _ _ _ _ h (Kp.refl _) (.bl _) m
   ·next kvs e =>
    cases rx;obtain ⟨ws,hw,rk⟩:=m.dcp p kvs e;obtain ⟨b',rfl,hb⟩:=sj0 ry ek;refine ⟨p,_,rfl,DGet.p (k:=kL kk) hw hb,?_⟩
    have es:(valV ws (kL kk)).isSome=(valL kvs kk).isSome:=by
     rcases rk.val (t:=kk) with ⟨z1,z2⟩ | ⟨d,w,z1,z2,_⟩ <;> rw [z1,z2] <;> rfl
    rw [es];exact k _ _ _ _ h (Kp.refl _) (.bl _) m
   ·exact h.elim
  ·exact h.elim
theorem tj2 (hu:X.A.units + 64 < cLine):RO X (compareOp .In) (dinR false):=se3 false hu
theorem ue3 (hu:X.A.units + 64 < cLine):RO X (compareOp .NotIn) (dinR true):=se3 true hu
theorem vv0 {o i value:Expr} {to ti tv:TE3} (hu:X.A.units + 64 < cLine) (ho:RE X o to) (hi:RE X i ti) (hv:RE X value tv) (hs:swapsWith value (some (.Subscript o i pos')) pos.line X.env=pure false:=by rfl) :
    RS X (.Assign [.Subscript o i pos'] value pos) (wr0 to ti tv):=by
 obtain ⟨vo,po,ro⟩:=ho;obtain ⟨vi,pi,ri⟩:=hi;obtain ⟨vv,pv,rv⟩:=hv
 refine ⟨_,tr2 [1] po pi pv hs,λ σ H D ρ μ D3 s m h k=>rv σ H _ ρ μ _ s m h λ y μ1 v H1 h1 k1 r1 m1=>ro σ H1 _ ρ μ1 _ (s.mono k1) m1 h1 λ d μ2 x H2 h2 k2 r2 m2 =>
  ri σ H2 _ ρ μ2 _ (s.mono (k1.trans k2)) m2 h2 λ kd μ3 b H3 h3 k3 r3 m3=>?_⟩
 split at h3
 ·next p kk ek =>
  split at h3
  ·next kvs e =>
   cases r2;obtain ⟨ws,hw,rk⟩:=m3.dcl p kvs e;obtain ⟨b',rfl,hb⟩:=sj0 r3 ek;have hl:=rk.len;have hz:(90000:Nat) < sizeLine:=by decide
   refine ⟨p,_,rfl,DPut.t (k:=kL kk) hw hb [1],?_⟩;exact k.nx _ _ _ _ h3.2 (k1.trans (k2.trans (k3.trans (Kp.wrD hw)))) (s.mono (k1.trans (k2.trans (k3.trans (Kp.wrD hw))))) (m3.wrC hw (rk.put (r1.mono (k2.trans k3))))
  ·exact h3.elim
 ·exact h3.elim
end
end Pv
namespace Pv
open PySem PySem.Spec PySem.W PyProof.Rows L2
def DG (h:Heap) (d:Addr) (es:Array DictEntry) (ep:Nat):Prop:=∃ o,h.get? d=some o /\ o.ExactDict /\ o.data=.dict es ep
theorem DG.keep {h h':Heap} {d:Addr} {es:Array DictEntry} {ep:Nat} (x:DG h d es ep) (k:∀ o,h.get? d=some o->h'.get? d=some o):DG h' d es ep:=by
 obtain ⟨o,a,b⟩:=x;exact ⟨o,k o a,b⟩
theorem DG.ty {s:Shared} {d:Addr} {es:Array DictEntry} {ep:Nat} (x:DG s.heap d es ep):s.TypeIs (.ref d) "dict" := by
 obtain ⟨o,a,b,_⟩:=x;exact ⟨o,a,b.1⟩
section
variable {prog:Program} {w:World} {A:Around} {E:[2]} {s:Shared} {d it:Addr} {es:Array DictEntry} {ep i:Nat}
theorem wx1 {Q:[2]} (lo:(d == sysModules)=false) (x:DG s.heap d es ep) (q:Q (.ref s.heap.objs.size) { s with heap:=s.heap.push { cls:=.type "dict_keyiterator",data:=.fields #[.ref d,.int 0 0,.int es.size 0,.int ep 0] } }) :
    wpAny [4] A (pyIter (.ref d)) Q E s:=by
 have ty:=x.ty;obtain ⟨o,e1,e2,e3⟩:=x;refine wpAny_pyIter_slot ty F.slot_dict_iter (wpAny_call_entry F.slot_dict_iter ty F.entry_dict_iter ?a (F.args_dict_iter_1 _))
 case a =>
  unfold Builtin.«dict.__iter__»;refine wpAny_bind ?_; unfold Builtin.Dict.dictSlotNone;refine wpAny_bind (wpAny_notOrdered_dict ty (show wpAny _ _ (pure (Value.ref d)) _ _ s from wpAny_pure ?_));show wpAny _ _ (Builtin.Dict.showsAll d >>= _) _ _ s; unfold Builtin.Dict.showsAll;rw [if_neg (by rw [lo]; exact Bool.false_ne_true)];refine wpAny_bind (wpAny_pure (wpAny_bind (wpAny_dictEntries e1 e3 (wpAny_bind (wpAny_dictEpoch e1 e3 ?_)))));refine wpAny_bind (wpAny_newObj_type (wpAny_pure ⟨_,rfl, "dict_keyiterator",_,⟨_,Heap.get?_push_size _ rfl,rfl⟩,F.slot_dict_keyiterator_next.lookup,q⟩))
theorem zx1 {Q:Option Value->Shared->Prop} (hi:s.heap.IsKeyIter it d i es.size ep) (x:DG s.heap d es ep) (lt:i < es.size)
    (q:∀ h',h'.IsKeyIter it d (i + 1) es.size ep->Heap.SameBut it s.heap h'->Q (some es[i].key) { s with heap:=h' }):wpAny [4] A (pyNext (.ref it)) Q E s:=by
 obtain ⟨o,a1,a2,a3⟩:=id hi;obtain ⟨od,e1,e2,e3⟩:=x;have ty:=hi.typeIs;have own0:Builtin.Dict_items.ownsTuple "dict_keyiterator" = false:=by decide
 unfold pyNext;refine wpAny_bind (wpAny_attempt (wpAny_callSpecial?_slot (name:=Str.ofString "__next__") ty F.slot_dict_keyiterator_next (wpAny_call_entry F.slot_dict_keyiterator_next ty F.entry_dict_keyiterator_next ?a (F.args_dict_keyiterator_next_1 _))))
 case a =>
  refine wpAny_bind (wpAny_pure (wpAny_bind (wpAny_bind ?_)))
  first | refine wpAny_bind (wpAny_typeNameOfWhole_keyiter ty [29]) | refine wpAny_bind (wpAny_typeNameOf_keyiter ty [29])
  refine wpAny_bind (wpAny_fieldsOf a1 a3 ?_); simp only [own0,Bool.false_eq_true,if_false];show wpAny _ _ (if (Value.ref d == Value.none)=true then _ else _) _ _ s; rw [if_neg (show ¬ ((Value.ref d == Value.none)=true) from Bool.false_ne_true)];refine wpAny_bind (wpAny_pure (wpAny_bind (wpAny_dictEntries e1 e3 ?_))); rw [if_neg [24]];refine wpAny_bind (wpAny_pure (wpAny_bind (wpAny_dictEpoch e1 e3 ?_))); rw [if_neg [24]];refine wpAny_pure ?_;simp only [show ¬ ((i:Int) < 0) from by omega,if_false,Int.toNat_natCast,Array.getElem?_eq_getElem lt];refine wpAny_bind ?_
  first | refine wpAny_bind (wpAny_typeNameOfWhole_keyiter ty [29]) | refine wpAny_bind (wpAny_typeNameOf_keyiter ty [29])
  refine wpAny_bind (wpAny_isOneOf_keyiter ty (show wpAny _ _ (setField (.ref it) 1 (rawInt ((i:Int) + 1)) >>= _) _ _ s from wpAny_bind (wpAny_setField a1 a3 [24] ?_)));have hi':(s.heap.update it (Obj.mapFields (·.setIfInBounds 1 (rawInt ((i:Int) + 1))))).IsKeyIter it d (i + 1) es.size ep:=⟨_,Heap.get?_update_self _ a1 (Obj.isFreed_of_fields (Obj.data_mapFields a3 _)),(Obj.cls_mapFields ..).trans a2,by rw [Obj.data_mapFields a3]; simp [rawInt]⟩;refine wpAny_bind (wpAny_holding (wpAny_bind (wpAny_isOneOf_keyiter (s:={ s with heap:=s.heap.update it (Obj.mapFields (·.setIfInBounds 1 (rawInt ((i:Int) + 1)))) }) hi'.typeIs ?_)));show wpAny _ _ (pure es[i].key) _ _ _;exact wpAny_pure (wpAny_pure ⟨_,rfl,wpAny_pure (q _ hi' (Heap.SameBut.update ..))⟩)
theorem ym2 {Q:Option Value->Shared->Prop} (hh:A.handled=none) (hi:s.heap.IsKeyIter it d i es.size ep) (x:DG s.heap d es ep) (ge:es.size<=i)
    (q:∀ h',Heap.ExtBut it s.heap h'->Q none { s with heap:=h' }):wpAny [4] A (pyNext (.ref it)) Q E s:=by
 obtain ⟨o,a1,a2,a3⟩:=id hi;obtain ⟨od,e1,e2,e3⟩:=x;have ty:=hi.typeIs;have own0:Builtin.Dict_items.ownsTuple "dict_keyiterator" = false:=by decide
 unfold pyNext;refine wpAny_bind (wpAny_attempt (wpAny_callSpecial?_slot (name:=Str.ofString "__next__") ty F.slot_dict_keyiterator_next (wpAny_call_entry F.slot_dict_keyiterator_next ty F.entry_dict_keyiterator_next ?a (F.args_dict_keyiterator_next_1 _))))
 case a =>
  refine wpAny_bind (wpAny_pure (wpAny_bind (wpAny_bind ?_)))
  first | refine wpAny_bind (wpAny_typeNameOfWhole_keyiter ty [29]) | refine wpAny_bind (wpAny_typeNameOf_keyiter ty [29])
  refine wpAny_bind (wpAny_fieldsOf a1 a3 ?_); simp only [own0,Bool.false_eq_true,if_false];show wpAny _ _ (if (Value.ref d == Value.none)=true then _ else _) _ _ s; rw [if_neg (show ¬ ((Value.ref d == Value.none)=true) from Bool.false_ne_true)];refine wpAny_bind (wpAny_pure (wpAny_bind (wpAny_dictEntries e1 e3 ?_))); rw [if_neg [24]];refine wpAny_bind (wpAny_pure (wpAny_bind (wpAny_dictEpoch e1 e3 ?_))); rw [if_neg [24]];refine wpAny_pure ?_;simp only [show ¬ ((i:Int) < 0) from by omega,if_false,Int.toNat_natCast,getElem?_eq_none ge];refine wpAny_bind ?_
  first | refine wpAny_bind (wpAny_typeNameOfWhole_keyiter ty [29]) | refine wpAny_bind (wpAny_typeNameOf_keyiter ty [29])
  show wpAny _ _ (setField (.ref it) 0 .none >>= _) _ _ s; refine wpAny_bind (wpAny_setField a1 a3 [24] ?_);show wpAny _ _ (newExc (.type "StopIteration") [] >>= _) _ _ _; refine wpAny_bind ?_; simp only [newExc,newTuple];refine wpAny_bind (wpAny_newObj_type (wpAny_bind (m:=firstArgMember _ _) (wpAny_of_eq (a:=Value.none) (by first | rfl | (simp only [firstArgMember]; rfl)) (wpAny_newObj_type ?_ (by size_fits)))) (by size_fits));simp only [raiseNew]; refine wpAny_bind (wpAny_handled ?_); rw [show A.in1.handled=none from hh];refine wpAny_bind (wpAny_pure (wpAny_throw ?_)); refine wpAny_bind (wpAny_isInstance (T := "StopIteration") (b:=true) ⟨_,Heap.get?_push_size _ rfl,rfl⟩ isSubtype_stop ?_);exact wpAny_pure (q _ (((Heap.SameBut.update ..).extBut.push _).push _))
theorem zg2 (hh:A.handled=none) (I d:Addr) (ne:d ≠ I):Walks prog w A I [I,d] [I] es.size (λ i v=>∃ e,es[i]?=some e /\ v=e.key) (λ i h=>h.IsKeyIter I d i es.size ep /\ DG h d es ep) where
 sub:=λ b hb=>by simp at hb; simp [hb]
 frame:=λ _ _ _ z hk=>⟨z.1.at λ o e=>hk I [24] o e,z.2.keep λ o e=>hk d [24] o e⟩
 item:=λ i s Q E hi z q=>by
  refine zx1 z.1 z.2 hi λ h' k1 k2=>?_;exact q _ h' s.toks ⟨es[i],by simp [hi],rfl⟩ ⟨k1,z.2.keep λ o e=>k2.extBut d o ne e⟩ λ b o hb e=>k2.extBut b o (λ y=>hb (by simp [y])) e
 done:=λ s Q E z q=>ym2 hh z.1 z.2 [18] λ h' k=>q h' s.toks λ b o hb e=>k b o (λ y=>hb (by simp [y])) e
 self:=λ _ _ _ _ z q=>wpAny_pyIter_keyiter z.1 q
theorem sm3 (lo:(d == sysModules)=false):KdlSrc prog w "dict" d d es.size (λ i v=>∃ e,es[i]?=some e /\ v=e.key) (λ h=>DG h d es ep) where
 type:=λ _ x=>x.ty
 there:=λ _ x=>by obtain ⟨o,a,_⟩:=x; exact ⟨Heap.lt_size a,Heap.lt_size a⟩
 keep:=λ _ _ x k=>x.keep λ o e=>k d (.inl rfl) o e
 notList:=by decide
 notTuple:=by decide
 hint:=λ _ _ _ _ x q=>kdl_hint_dict x.ty q
 iter:=λ _ s hh x=>by
  have hl:d < s.heap.objs.size:=by obtain ⟨o,a,_⟩:=x; exact Heap.lt_size a
  exact ⟨_,_,(λ _ _ q=>wx1 lo x q),zg2 hh _ d (Nat.ne_of_lt hl),⟨⟨_,Heap.get?_push_size _ rfl,rfl,rfl⟩,x.keep λ o e=>Heap.get?_push_of_some _ e⟩⟩
end
end Pv
namespace Pv
open PySem PySem.Spec PyProof.Rows L2
def Itd (a:Addr) (n:Nat):It :=
 ⟨λ i H=>∃ kvs,H a=some (.dT kvs) /\ kvs.length=n /\ i < n,λ i H x H'=>H'=H /\ ∃ kvs k v b,H a=some (.dT kvs) /\ kvs[i]?=some (k,v) /\ x=.ref b /\ H b=some (.tup (k.map kV)),
  λ i H=>∃ kvs,H a=some (.dT kvs) /\ kvs.length=n /\ n<=i⟩
theorem xl2 {H:Hp}:∀ {kvs:[15]} {xs:List (List Key × Addr × Value)},KT H kvs xs->∀ (i:Nat) x,xs[i]?=some x->∃ v,kvs[i]?=some (x.1,v) /\ H x.2.1=some (.tup (x.1.map kV))
 | _,_,.nil,i,x,e=>by simp at e
 | _,_,.cons (a:=p) (b:=q) h r,0,x,e=>by
  simp at e; subst e;exact ⟨p.2,by rw [List.getElem?_cons_zero,<- h.1],by rw [<- h.1]; exact h.2.1⟩
 | _,_,.cons h r,i + 1,x,e=>by
  rw [getElem?_cons_succ] at e ⊢;exact xl2 r i x e
theorem un1 {P:Program} {w:World} {K:PySem.W.Frag} {tg:Expr} (a it:Addr) (n:Nat):Turn P w K tg (Itd a n) [it] it (λ i h=>h.IsKeyIter it a i n n) where
 mem:=by simp
 obj:=λ i h st b hb=>by
  have e:b=it:=by simpa using hb
  subst e;obtain ⟨o,e,c,d⟩:=st;exact ⟨o,e,λ v z=>by rw [d] at z; cases z⟩
 keep:=λ i h h' st k=>by
  obtain ⟨o,e,c,d⟩:=st;exact ⟨o,k it [24] o e,c,d⟩
 item:=by
  intro X hP hw hK hc i pins s σ H E I hf st hg;subst hP hw hK;obtain ⟨f0,f1,f2,f3,f4,f5⟩:=hf it [24];obtain ⟨kvs,e,el,hi⟩:=hg;obtain ⟨z,hd,xs,rel,o,es,ho,hc1,hd1,he,_⟩:=xf1 I.hok (.inl e);have l1:xs.length=n:=by rw [<- Paired.length rel]; exact el
  have l2:es.size=n:=by rw [<- length_toList,he,length_map,l1]
  rw [el] at hd1;have st':s.heap.IsKeyIter it a i es.size n:=by rw [l2]; exact st
  refine zx1 st' ⟨o,ho,hc1,hd1⟩ [1] λ h' hst hk=>?_;rw [l2] at hst;have hx:xs[i]?=some (xs[i]'(by omega)):=getElem?_eq_getElem _
  have ek:(es[i]'(by omega)).key=.ref (xs[i]'(by omega)).2.1:=by
   have q:es.toList[i]?=some (entryOfKey (tupleKind (zc0 X.prog X.w)) (xs[i]'(by omega))):=by rw [he,getElem?_map,hx]; rfl
   rw [getElem?_toList,Array.getElem?_eq_getElem [1]] at q;cases q':es[i]'(by omega) with
   | mk a1 a2 a3=>rw [q'] at q; cases q; rfl
  obtain ⟨v,kg,kh⟩:=xl2 rel i _ hx;have I1:Inv X pins σ H { s with heap:=h' }:=I.turned (t':=s.toks) (λ b o hb e=>hk.extBut b o hb e) f0 f1 f3 f4 f5;obtain ⟨o1,e1,c1,d1⟩:=id hst;refine ⟨_,rfl,yv1 (s:={ s with heap:=h' }) e1 c1 d1 [20] ⟨.ref _,H,I1,ek,⟨rfl,kvs,_,v,_,e,kg,rfl,kh⟩,hst,λ b hb=>(hf b hb).1⟩⟩
 done:=by
  intro X hP hw hK hc i pins s σ H E I hf st hg;subst hP hw hK;obtain ⟨f0,f1,f2,f3,f4,f5⟩:=hf it [24];obtain ⟨kvs,e,el,hi⟩:=hg;obtain ⟨z,hd,xs,rel,o,es,ho,hc1,hd1,he,_⟩:=xf1 I.hok (.inl e);have l1:xs.length=n:=by rw [<- Paired.length rel]; exact el
  have l2:es.size=n:=by rw [<- length_toList,he,length_map,l1]
  rw [el] at hd1;have st':s.heap.IsKeyIter it a i es.size n:=by rw [l2]; exact st
  exact ym2 (I.ok.hd hc) st' ⟨o,ho,hc1,hd1⟩ [1] λ h' hk=>⟨rfl,I.turned (t':=s.toks) (λ b o hb e=>hk b o hb e) f0 f1 f3 f4 f5⟩
 self:=λ A i s Q E st h=>wpAny_pyIter_keyiter st h
section
variable {X:Cx} {tg:Expr}
def iDct (tl:TE):TI:=λ σ H R=>tl σ H λ x H1=>∃ a kvs,x=.ref a /\ H1 a=some (.dT kvs) /\ R (Itd a kvs.length) H1
theorem sr2 {l:Expr} {tl:TE} (hl:PE X l tl):PI X tg l (iDct tl):=by
 intro pins s σ H R I h;refine thn (hl pins s σ H _ I h) λ v s1 ⟨x,H1,I1,r1,q1⟩=>?_
 have fp:∀ b ∈ [s1.heap.objs.size],FpOk X pins H1 b:=λ b hb=>by
  have e:b=s1.heap.objs.size:=by simpa using hb
  subst e;exact I1.fpOk [18] (I1.hok.fresh [18])
 obtain ⟨a,kvs,rfl,e,q⟩:=q1;cases r1;obtain ⟨z,hd,xs,rel,o,es,ho,hc1,hd1,he,_⟩:=xf1 I1.hok (.inl e);have l2:es.size=kvs.length:=by rw [<- length_toList,he,length_map]; exact (Paired.length rel).symm
 refine wx1 hd ⟨o,ho,hc1,hd1⟩ ?_;rw [l2];exact ⟨s1.heap.objs.size,[s1.heap.objs.size],_,_,H1,rfl,I1.kept (t':=s1.toks) λ b o e=>Heap.get?_push_of_some _ e,un1 a _ _,⟨_,Heap.get?_push_size _ rfl,rfl,rfl⟩,fp,q⟩
def tupI (k:List Int):D:=.tup (k.map .int)
theorem xs0 {K:Fg} {H:Hp}:∀ k:List Int,RelDs K H (k.map .int) ((kL k).map kV)
 | []=>.nil
 | i :: k=>.cons (.int i) (xs0 k)
theorem RelKl.get {K:Fg} {H:Hp} {l:[16]} {vs:[15]} (r:RelKl K H l vs):∀ (i:Nat) k v,vs[i]?=some (k,v)->∃ t d,l[i]?=some (t,d) /\ k=kL t:=by
 induction r with
 | nil=>intro i k v e; simp at e
 | cons h _ ih =>
  intro i k v e;cases i with
  | zero=>simp at e; exact ⟨_,_,rfl,e.1.symm⟩
  | succ i=>rw [getElem?_cons_succ] at e ⊢; exact ih i k v e
theorem yf2 {K:Fg} {H0:Hp} {a:Addr} {l:[16]}:ItOk K (Itd a l.length) (l.map λ kv=>tupI kv.1) (λ μ=>μ a=some (.dcl l)) H0:=λ i H μ k m s=>by
 obtain ⟨vs,h,r⟩:=m.dcl a l s;have hl:=r.len;refine ⟨λ d e=>?_,λ hl'=>⟨vs,h,hl.symm,by simpa using hl'⟩⟩;rw [getElem?_map] at e
 have hi:i < l.length:=by
  rcases Nat.lt_or_ge i l.length with c | c
  ·exact c
  ·rw [List.getElem?_eq_none c] at e; cases e
 refine ⟨⟨vs,h,hl.symm,hi⟩,λ x H2 y=>?_⟩;obtain ⟨rfl,kvs,kk,v,b,e1,e2,rfl,e3⟩:=y;rw [h] at e1;cases e1;obtain ⟨t,dd,e4,rfl⟩:=r.get i kk v e2;rw [e4] at e;cases e;exact ⟨Kp.refl _,m,.tup e3 (xs0 t)⟩
def isd3 (t:TE3):TI3:=λ ρ μ R=>t ρ μ λ d μ1=>match d with
 | .ref p=>match μ1 p with
  | some (.dcl l)=>R (l.map λ kv=>tupI kv.1) (λ μ=>μ p=some (.dcl l)) μ1
  | _=>False
 | _=>False
theorem uc3 {a:Expr} {ta:TE3} (ha:RE X a ta):RI X tg a (isd3 ta):=by
 obtain ⟨va,pa,ra⟩:=ha;refine ⟨_,sr2 pa,λ σ H R ρ μ R3 s m h k=>ra σ H _ ρ μ _ s m h λ d μ1 v H1 h1 k1 r1 m1=>?_⟩;split at h1
 ·next p =>
  split at h1
  ·next l e =>
   cases r1;obtain ⟨vs,hv,rv⟩:=m1.dcl p l e;refine ⟨p,vs,rfl,hv,?_⟩;rw [<- rv.len];exact k _ _ _ _ _ h1 k1 m1 yf2
  ·exact h1.elim
 ·exact h1.elim
end
end Pv
namespace Pv
open PySem
abbrev Rise (xs:Array Nat):Prop:=xs.toList.Pairwise (· < ·)
theorem vl0 {xs:Array Nat} (h:Rise xs) {i j a b:Nat} (hi:xs[i]?=some a) (hj:xs[j]?=some b) (l:i < j):a < b:=by
 have h':=List.pairwise_iff_getElem.mp h;rw [<- getElem?_toList] at hi hj;obtain ⟨hi1,hi2⟩:=List.getElem?_eq_some_iff.mp hi;obtain ⟨hj1,hj2⟩:=List.getElem?_eq_some_iff.mp hj;rw [<- hi2,<- hj2];exact h' i j hi1 hj1 l
theorem yo0 (xs:Array Nat) (j:Nat) (h:Rise xs):∀ (fuel lo hi:Nat),hi - lo<=fuel->lo<=hi->hi<=xs.size->(∀ i a,i < lo->xs[i]?=some a->a < j)->(∀ i a,hi<=i->xs[i]?=some a->j<=a) ->
    (∀ i a,xs[i]?=some a->(i < SetTable.below.go xs j fuel lo hi ↔ a < j)) /\ SetTable.below.go xs j fuel lo hi<=xs.size
 | 0,lo,hi,f,l1,l2,a1,a2=>by
  have e:lo=hi:=by omega
  subst e;unfold SetTable.below.go;refine ⟨λ i a q=>⟨λ c=>a1 i a c q,λ c=>?_⟩,l2⟩;by_cases z:i < lo
  ·exact z
  ·have:=a2 i a [1] q; omega
 | fuel + 1,lo,hi,f,l1,l2,a1,a2=>by
  unfold SetTable.below.go;split
  ·next c =>
   have m1:(lo + hi) / 2 < hi:=by omega
   have m2:lo<=(lo + hi) / 2:=by omega
   have hm:xs[(lo + hi) / 2]?=some (xs.getD ((lo + hi) / 2) j):=by
    have:(lo + hi) / 2 < xs.size:=by omega
    simp [Array.getD,this]
   dsimp only;split
   ·next c2 =>
    refine yo0 xs j h fuel _ _ [1] [1] l2 (λ i a z q=>?_) a2;by_cases y:i=(lo + hi) / 2
    ·subst y; rw [hm] at q; cases q; exact c2
    ·exact Nat.lt_trans (vl0 h q hm [1]) c2
   ·next c2 =>
    refine yo0 xs j h fuel _ _ [1] [1] [1] a1 (λ i a z q=>?_);by_cases y:i=(lo + hi) / 2
    ·subst y; rw [hm] at q; cases q; omega
    ·have:=vl0 h hm q [1]; omega
  ·next c =>
   have e:lo=hi:=by omega
   subst e;refine ⟨λ i a q=>⟨λ c=>a1 i a c q,λ c=>?_⟩,l2⟩;by_cases z:i < lo
   ·exact z
   ·have:=a2 i a [1] q; omega
theorem vj0 {xs:Array Nat} (h:Rise xs) (j:Nat) {i a:Nat} (q:xs[i]?=some a):i < SetTable.below xs j ↔ a < j :=
 (yo0 xs j h xs.size 0 xs.size [1] [1] [18] (λ _ _ z=>absurd z (Nat.not_lt_zero _)) (λ i a z q=>by rw [getElem?_eq_none z] at q; cases q)).1 i a q
theorem xl0 {xs:Array Nat} (h:Rise xs) (j:Nat):SetTable.below xs j<=xs.size :=
 (yo0 xs j h xs.size 0 xs.size [1] [1] [18] (λ _ _ z=>absurd z (Nat.not_lt_zero _)) (λ i a z q=>by rw [getElem?_eq_none z] at q; cases q)).2
theorem yl0 {xs:Array Nat} (h:Rise xs) {i j:Nat} (q:xs[i]?=some j):SetTable.below xs j=i:=by
 have h1:=vj0 h j q;have h2:=xl0 h j;by_cases c:SetTable.below xs j < i
 ·have hi:=(Array.getElem?_eq_some_iff.mp q).1;obtain ⟨a,ha⟩:∃ a,xs[SetTable.below xs j]?=some a:=⟨_,Array.getElem?_eq_getElem [1]⟩;have h3:=vj0 h j ha;have h4:=vl0 h ha q c;omega
 ·omega
theorem zz0 {xs:Array Nat} {j:Nat} (h:j ∈ xs.toList):∃ i:Nat,xs[i]?=some j:=by
 obtain ⟨i,hi⟩:=List.mem_iff_getElem?.mp h;exact ⟨i,by rw [<- getElem?_toList]; exact hi⟩
theorem zt0 {xs:Array Nat} {i j:Nat} (h:xs[i]?=some j):j ∈ xs.toList:=List.mem_iff_getElem?.mpr ⟨i,by rw [getElem?_toList]; exact h⟩
theorem xk0 {xs:Array Nat} (h:Rise xs) (j:Nat):SetTable.has xs j=true ↔ j ∈ xs.toList:=by
 unfold SetTable.has;constructor
 ·intro z; exact zt0 (eq_of_beq z)
 ·intro z;obtain ⟨i,hi⟩:=zz0 z;rw [yl0 h hi,hi];exact beq_self_eq_true _
theorem sx0 {t:SetTable} (h:Rise t.place) {i j:Nat}:t.slot j=.live i ↔ t.place[i]?=some j:=by
 unfold SetTable.slot;dsimp only;constructor
 ·intro z;split at z
  ·next c=>cases z; exact eq_of_beq c
  ·split at z <;> cases z
 ·intro z;rw [yl0 h z,z];simp
theorem wl0 {t:SetTable} (h:Rise t.place) (hd:Rise t.dummies) {j:Nat} (dj:j ∈ t.dummies.toList->j ∉ t.place.toList):t.slot j=.dummy ↔ j ∈ t.dummies.toList:=by
 unfold SetTable.slot;dsimp only;constructor
 ·intro z;split at z
  ·cases z
  ·split at z
   ·next c=>exact (xk0 hd j).mp c
   ·cases z
 ·intro z;rw [if_neg,if_pos ((xk0 hd j).mpr z)];intro c;exact dj z (zt0 (eq_of_beq c))
theorem zl0 {t:SetTable} (h:Rise t.place) (hd:Rise t.dummies) {j:Nat}:t.slot j=.empty ↔ j ∉ t.place.toList /\ j ∉ t.dummies.toList:=by
 unfold SetTable.slot;dsimp only;constructor
 ·intro z;split at z
  ·cases z
  ·next c =>
   split at z
   ·cases z
   ·next c2 =>
    refine ⟨λ m=>c ?_,λ m=>c2 ((xk0 hd j).mpr m)⟩;obtain ⟨i,hi⟩:=zz0 m;rw [yl0 h hi,hi];exact beq_self_eq_true _
 ·rintro ⟨z1,z2⟩;rw [if_neg (λ c=>z1 (zt0 (eq_of_beq c))),if_neg (λ c=>z2 ((xk0 hd j).mp c))]
def mkT (mask:Nat):SetTable:={ SetTable.fresh 0 0 false with mask:=mask }
def trS (mask:Nat) (h:Int):Nat->SetTable.Probe
 | 0=>(mkT mask).probeStart h
 | n + 1=>(mkT mask).advance (trS mask h n)
abbrev tr (mask:Nat) (h:Int) (n:Nat):Nat:=(trS mask h n).j
theorem wo2 (t:SetTable) (h:Int):t.probeStart h=trS t.mask h 0:=rfl
theorem wc1 (t:SetTable) (p:SetTable.Probe) (d:Option Nat):t.advance { p with dummy:=d }={ t.advance p with dummy:=d }:=by
 unfold SetTable.advance;dsimp only;split <;> rfl
def seg (mask i perturb:Nat):SetTable.Probe:={ j:=i,more:=SetTable.runEnd mask i - i,i:=i,perturb:=perturb,dummy:=none }
theorem run9 (mask i:Nat):SetTable.runEnd mask i - i<=9:=by unfold SetTable.runEnd; split <;> omega
theorem vb3 (mask i:Nat):i<=SetTable.runEnd mask i:=by unfold SetTable.runEnd; split <;> omega
theorem ub3 (mask i:Nat) (h:i<=mask):SetTable.runEnd mask i<=mask:=by unfold SetTable.runEnd; split <;> omega
theorem zv0 {mask:Nat} {h:Int} {n i p:Nat} (e:trS mask h n=seg mask i p):∀ k,k<=SetTable.runEnd mask i - i->trS mask h (n + k)={ seg mask i p with j:=i + k,more:=SetTable.runEnd mask i - i - k }
 | 0,_=>e
 | k + 1,hk=>by
  have ih:=zv0 e k [1];show (mkT mask).advance (trS mask h (n + k))=_;rw [ih];unfold SetTable.advance;dsimp only [seg];rw [if_pos [1]];congr 1
theorem zn0 {mask:Nat} {h:Int} {n i p:Nat} (e:trS mask h n=seg mask i p):trS mask h (n + (SetTable.runEnd mask i - i) + 1)=seg mask (SetTable.leap mask i p).1 (SetTable.leap mask i p).2:=by
 have ih:=zv0 e _ [18];show (mkT mask).advance (trS mask h (n + (SetTable.runEnd mask i - i)))=_;rw [ih];unfold SetTable.advance;dsimp only [seg];rw [if_neg [1]];rfl
def lp (mask:Nat):Nat->Nat × Nat->Nat × Nat
 | 0,x=>x
 | k + 1,x=>lp mask k (SetTable.leap mask x.1 x.2)
theorem si2 {mask:Nat} {h:Int}:∀ (K:Nat) {n i p:Nat},trS mask h n=seg mask i p->∃ m,n<=m /\ m<=n + 10 * K /\ trS mask h m=seg mask (lp mask K (i,p)).1 (lp mask K (i,p)).2
 | 0,n,i,p,e=>⟨n,Nat.le_refl _,Nat.le_refl _,e⟩
 | K + 1,n,i,p,e=>by
  obtain ⟨m,h1,h2,h3⟩:=si2 K (zn0 e);have:=run9 mask i;exact ⟨m,by omega,by omega,h3⟩
theorem uk2 (mask:Nat):∀ (a b:Nat) (x:Nat × Nat),lp mask (a + b) x=lp mask b (lp mask a x)
 | 0,b,x=>by rw [Nat.zero_add]; rfl
 | a + 1,b,x=>by rw [show a + 1 + b=(a + b) + 1 by omega]; exact uk2 mask a b _
theorem vk2 (mask:Nat):∀ (k:Nat) (x:Nat × Nat),x.2 < 32 ^ k->(lp mask k x).2=0
 | 0,x,h=>by simp at h; exact h
 | k + 1,x,h=>vk2 mask k _ (by show x.2 / 32 < 32 ^ k; rw [Nat.pow_succ] at h; omega)
def f0 (mask i:Nat):Nat:=(i * 5 + 1) % (mask + 1)
def fN (mask:Nat):Nat->Nat->Nat
 | 0,i=>i
 | k + 1,i=>fN mask k (f0 mask i)
theorem ws1 (mask:Nat):∀ (k i:Nat),lp mask k (i,0)=(fN mask k i,0)
 | 0,i=>rfl
 | k + 1,i=>by
  show lp mask k (SetTable.leap mask i 0)=_;have:SetTable.leap mask i 0=(f0 mask i,0):=by unfold SetTable.leap f0; simp
  rw [this,ws1 mask k];rfl
theorem xb1 (mask:Nat):∀ (a b i:Nat),fN mask (a + b) i=fN mask b (fN mask a i)
 | 0,b,i=>by rw [Nat.zero_add]; rfl
 | a + 1,b,i=>by rw [show a + 1 + b=(a + b) + 1 by omega]; exact xb1 mask a b _
def okM:List Nat:=[7,15,31,63,127,255,511,1023,2047,4095]
def gs:Nat->Nat
 | 0=>0
 | r + 1=>5 * gs r + 1
theorem su1:∀ r,5 ^ r=4 * gs r + 1
 | 0=>rfl
 | r + 1=>by rw [Nat.pow_succ,su1 r]; show _=4 * (5 * gs r + 1) + 1; omega
theorem xv1:∀ a b,gs (a + b)=gs a * 5 ^ b + gs b
 | a,0=>by simp [gs]
 | a,b + 1=>by
  show 5 * gs (a + b) + 1=_;rw [xv1 a b,Nat.pow_succ];show _=gs a * (5 ^ b * 5) + (5 * gs b + 1);rw [Nat.mul_add,<- Nat.mul_assoc,Nat.mul_comm 5 (gs a),Nat.mul_assoc (gs a) 5,Nat.mul_comm 5 (5 ^ b)];omega
theorem tu1:∀ k,∃ o,gs (2 ^ k)=2 ^ k * (2 * o + 1)
 | 0=>⟨0,rfl⟩
 | k + 1=>by
  obtain ⟨o,e⟩:=tu1 k;refine ⟨o + (2 * o + 1) * gs (2 ^ k),?_⟩
  have h:gs (2 ^ (k + 1))=gs (2 ^ k) * (4 * gs (2 ^ k) + 2):=by
   rw [show 2 ^ (k + 1)=2 ^ k + 2 ^ k by rw [Nat.pow_succ]; omega,xv1,su1]
   grind
  rw [h,Nat.pow_succ,e];generalize 2 ^ k=P
  grind
theorem tt2 {x e P:Nat} (hP:0 < P) (h:x % P=e % P):x % (P * 2)=e % (P * 2) \/ (x + P) % (P * 2)=e % (P * 2):=by
 rw [Nat.mod_mul,Nat.mod_mul,Nat.mod_mul,h,Nat.add_mod_right,h,Nat.add_div_right _ hP];rcases Nat.mod_two_eq_zero_or_one (x / P) with a | a <;> rcases Nat.mod_two_eq_zero_or_one (e / P) with b | b
 ·left; rw [a,b]
 ·right; rw [b,show (x / P + 1) % 2=1 by omega]
 ·right; rw [b,show (x / P + 1) % 2=0 by omega]
 ·left; rw [a,b]
theorem wj1:∀ k e,∃ r,r < 2 ^ k /\ gs r % 2 ^ k=e % 2 ^ k
 | 0,e=>⟨0,by decide,by simp [Nat.mod_one]⟩
 | k + 1,e=>by
  obtain ⟨r,hr,h⟩:=wj1 k e;have hP:0 < 2 ^ k:=Nat.two_pow_pos k;rw [Nat.pow_succ];rcases tt2 hP h with q | q
  ·exact ⟨r,by omega,q⟩
  ·refine ⟨2 ^ k + r,by omega,?_⟩;obtain ⟨o,eo⟩:=tu1 k;rw [xv1,su1,eo,<- q];generalize 2 ^ k=P at *;have:P * (2 * o + 1) * (4 * gs r + 1) + gs r=(gs r + P) + P * 2 * (o + (2 * o + 1) * (2 * gs r)):=by grind
   rw [this,Nat.add_mul_mod_self_left]
theorem xw2 (mask:Nat):∀ r,fN mask r 0=gs r % (mask + 1)
 | 0=>by show 0=0 % (mask + 1); rw [Nat.zero_mod]
 | r + 1=>by
  rw [xb1 mask r 1 0,xw2 mask r];show f0 mask (gs r % (mask + 1))=(5 * gs r + 1) % (mask + 1);unfold f0;rw [Nat.add_mod (gs r % (mask + 1) * 5),Nat.mul_mod,Nat.mod_mod,<- Nat.mul_mod,<- Nat.add_mod,Nat.mul_comm]
theorem vt2:∀ m ∈ okM,∃ k,m + 1=2 ^ k:=by
 intro m hm;simp only [okM,mem_cons,not_mem_nil,or_false] at hm;rcases hm with rfl | rfl | rfl | rfl | rfl | rfl | rfl | rfl | rfl | rfl
 ·exact ⟨3,rfl⟩
 ·exact ⟨4,rfl⟩
 ·exact ⟨5,rfl⟩
 ·exact ⟨6,rfl⟩
 ·exact ⟨7,rfl⟩
 ·exact ⟨8,rfl⟩
 ·exact ⟨9,rfl⟩
 ·exact ⟨10,rfl⟩
 ·exact ⟨11,rfl⟩
 ·exact ⟨12,rfl⟩
theorem yn3 {mask:Nat} (hm:mask ∈ okM) {i e:Nat} (hi:i<=mask) (he:e<=mask):∃ r,r<=mask /\ fN mask r i=e:=by
 obtain ⟨k,hk⟩:=vt2 mask hm
 have h2:fN mask (mask + 1) 0=0:=by
  obtain ⟨o,eo⟩:=tu1 k;rw [xw2,hk,eo,Nat.mul_mod_right]
 have g:∀ x,x<=mask->∃ r,r<=mask /\ fN mask r 0=x:=λ x hx=>by
  obtain ⟨r,hr,h⟩:=wj1 k x;refine ⟨r,by omega,?_⟩;rw [xw2,hk,h,Nat.mod_eq_of_lt [1]]
 obtain ⟨a,ha,ea⟩:=g i hi;obtain ⟨b,hb,eb⟩:=g e he;by_cases c:a<=b
 ·refine ⟨b - a,by omega,?_⟩;have:=xb1 mask a (b - a) 0;rw [show a + (b - a)=b by omega,eb,ea] at this;exact this.symm
 ·refine ⟨mask + 1 - a + b,by omega,?_⟩;have h3:=xb1 mask a (mask + 1 - a) 0;rw [show a + (mask + 1 - a)=mask + 1 by omega,h2,ea] at h3;rw [xb1,<- h3,eb]
theorem uj3 {mask:Nat}:∀ (k:Nat) (x:Nat × Nat),x.1<=mask->(lp mask k x).1<=mask
 | 0,x,h=>h
 | k + 1,x,_=>uj3 k _ (by show (x.1 * 5 + 1 + x.2 / 32) % (mask + 1)<=mask; have:=Nat.mod_lt (x.1 * 5 + 1 + x.2 / 32) (show mask + 1 > 0 by omega); omega)
theorem wi1 {mask:Nat} (hm:mask ∈ okM) {i p e:Nat} (hi:i<=mask) (hp:p < 2 ^ 64) (he:e<=mask):∃ K,K<=13 + mask /\ (lp mask K (i,p)).1=e:=by
 have h1:=vk2 mask 13 (i,p) (Nat.lt_of_lt_of_le hp [20]);have h2:=uj3 13 (i,p) hi;obtain ⟨r,hr,er⟩:=yn3 hm h2 he;refine ⟨13 + r,by omega,?_⟩;rw [uk2,show lp mask 13 (i,p)=((lp mask 13 (i,p)).1,0) from Prod.ext rfl h1,ws1,er]
theorem wz1 (h:Int):SetTable.bits h < 2 ^ 64:=by
 unfold SetTable.bits;have:=Int.emod_lt_of_pos h (show (0:Int) < 2 ^ 64 by decide);have:=Int.emod_nonneg h (show (2 ^ 64:Int) ≠ 0 by decide);omega
theorem tx0 (mask:Nat) (h:Int):trS mask h 0=seg mask (SetTable.bits h % (mask + 1)) (SetTable.bits h):=rfl
theorem ty2 {mask:Nat} (h:Int) (n:Nat):∃ n0 i p k,n=n0 + k /\ trS mask h n0=seg mask i p /\ i<=mask /\ p < 2 ^ 64 /\ k<=SetTable.runEnd mask i - i:=by
 induction n with
 | zero=>exact ⟨0,_,_,0,rfl,tx0 mask h,by have:=Nat.mod_lt (SetTable.bits h) (show mask + 1 > 0 by omega); omega,wz1 h,Nat.zero_le _⟩
 | succ n ih =>
  obtain ⟨n0,i,p,k,e1,e2,e3,e4,e5⟩:=ih;by_cases c:k + 1<=SetTable.runEnd mask i - i
  ·exact ⟨n0,i,p,k + 1,by omega,e2,e3,e4,c⟩
  ·refine ⟨n0 + (SetTable.runEnd mask i - i) + 1,_,_,0,by omega,zn0 e2,?_,?_,Nat.zero_le _⟩
   ·show (i * 5 + 1 + p / 32) % (mask + 1)<=mask; have:=Nat.mod_lt (i * 5 + 1 + p / 32) (show mask + 1 > 0 by omega); omega
   ·show p / 32 < 2 ^ 64; omega
theorem un2 {mask:Nat} (h:Int) (n:Nat):tr mask h n<=mask:=by
 obtain ⟨n0,i,p,k,e1,e2,e3,e4,e5⟩:=ty2 (mask:=mask) h n;subst e1;show (trS mask h (n0 + k)).j<=mask;rw [zv0 e2 k e5];show i + k<=mask;have:=ub3 mask i e3;omega
theorem xg1 {mask:Nat} (hm:mask ∈ okM) (h:Int) (n:Nat) {e:Nat} (he:e<=mask):∃ m,n<=m /\ m < n + 10 * SetTable.turns mask /\ tr mask h m=e:=by
 obtain ⟨n0,i,p,k,e1,e2,e3,e4,e5⟩:=ty2 (mask:=mask) h n;have e6:=zn0 e2;have l1:(SetTable.leap mask i p).1<=mask:=by show (i * 5 + 1 + p / 32) % (mask + 1)<=mask; have:=Nat.mod_lt (i * 5 + 1 + p / 32) (show mask + 1 > 0 by omega); omega
 obtain ⟨K,hK,eK⟩:=wi1 hm l1 (show (SetTable.leap mask i p).2 < 2 ^ 64 by show p / 32 < 2 ^ 64; omega) he;obtain ⟨m,h1,h2,h3⟩:=si2 K e6;have:=run9 mask i;refine ⟨m,by omega,by unfold SetTable.turns; omega,?_⟩;show (trS mask h m).j=e;rw [h3];exact eK
def Occ (t:SetTable) (j:Nat):Prop:=j ∈ t.place.toList \/ j ∈ t.dummies.toList
structure TOk (t:SetTable) (hs:List Int):Prop where
 ris:Rise t.place
 rid:Rise t.dummies
 dj:∀ j,j ∈ t.dummies.toList->j ∉ t.place.toList
 inP:∀ j,j ∈ t.place.toList->j<=t.mask
 inD:∀ j,j ∈ t.dummies.toList->j<=t.mask
 msk:t.mask ∈ okM
 sz:t.place.size=hs.length
 reach:∀ (i j:Nat) (h:Int),t.place[i]?=some j->hs[i]?=some h->∃ m,tr t.mask h m=j /\ ∀ l,l < m->Occ t (tr t.mask h l)
theorem TOk.occ {t:SetTable} {hs:List Int} (k:TOk t hs) (j:Nat):Occ t j ↔ t.slot j ≠ .empty:=by
 rw [Ne,zl0 k.ris k.rid];unfold Occ;constructor
 ·rintro (z | z) ⟨a,b⟩
  ·exact a z
  ·exact b z
 ·intro z;by_cases c:j ∈ t.place.toList
  ·exact .inl c
  ·by_cases d:j ∈ t.dummies.toList
   ·exact .inr d
   ·exact absurd ⟨c,d⟩ z
theorem xk2:∀ (M:Nat) (L:List Nat),(∀ e,e < M->e ∈ L)->M<=L.length
 | 0,_,_=>Nat.zero_le _
 | M + 1,L,h=>by
  have h1:=h M (Nat.lt_succ_self _);have h2:=xk2 M (L.erase M) λ e he=>(List.mem_erase_of_ne (Nat.ne_of_lt he)).mpr (h e (Nat.lt_succ_of_lt he));rw [List.length_erase_of_mem h1] at h2;have:=List.length_pos_of_mem h1;omega
theorem TOk.hole {t:SetTable} {hs:List Int} (k:TOk t hs) (r:t.fill<=t.mask):∃ e,e<=t.mask /\ t.slot e=.empty:=by
 refine Classical.byContradiction λ c=>?_
 have:=xk2 (t.mask + 1) (t.place.toList ++ t.dummies.toList) λ e he=>by
  have h1:Occ t e:=(k.occ e).mpr λ z=>c ⟨e,by omega,z⟩;exact List.mem_append.mpr h1
 rw [length_append] at this;simp only [length_toList] at this;unfold SetTable.fill at r;omega
def Sk (t:SetTable) (hashAt:Nat->Int) (h:Int) (n m:Nat):Prop:=∀ l,n<=l->l < m->t.slot (tr t.mask h l) ≠ .empty /\ ∀ i,t.slot (tr t.mask h l)=.live i->hashAt i ≠ h
def DumOk (t:SetTable) (h:Int) (d:Option Nat) (n:Nat):Prop:=∀ x,d=some x->∃ l,l < n /\ tr t.mask h l=x /\ t.slot x=.dummy
theorem DumOk.up {t:SetTable} {h:Int} {d:Option Nat} {n m:Nat} (k:DumOk t h d n) (l:n<=m):DumOk t h d m:=λ x e=>by
 obtain ⟨a,b,c⟩:=k x e;exact ⟨a,by omega,c⟩
theorem Sk.cons {t:SetTable} {hashAt:Nat->Int} {h:Int} {n m:Nat} (a:t.slot (tr t.mask h n) ≠ .empty) (b:∀ i,t.slot (tr t.mask h n)=.live i->hashAt i ≠ h) (k:Sk t hashAt h (n + 1) m):Sk t hashAt h n m:=λ l h1 h2=>by
 by_cases c:l=n
 ·subst c; exact ⟨a,b⟩
 ·exact k l [1] h2
theorem ue1 (t:SetTable) (hashAt:Nat->Int) (h:Int):∀ (fuel n:Nat) (d:Option Nat),DumOk t h d n->(∃ m,n<=m /\ m < n + fuel /\ t.slot (tr t.mask h m)=.empty) ->
    (∃ m d',SetTable.probe.go t hashAt h fuel { trS t.mask h n with dummy:=d }=some (.empty (tr t.mask h m) d') /\ n<=m /\ t.slot (tr t.mask h m)=.empty /\ Sk t hashAt h n m /\ DumOk t h d' m) ∨
    (∃ m i d',SetTable.probe.go t hashAt h fuel { trS t.mask h n with dummy:=d }=some (.candidate (tr t.mask h m) i { trS t.mask h (m + 1) with dummy:=d' }) /\ n<=m /\ t.slot (tr t.mask h m)=.live i /\ hashAt i=h /\ Sk t hashAt h n m /\ DumOk t h d' m)
 | 0,n,d,k,c=>by obtain ⟨m,a,b,_⟩:=c; omega
 | fuel + 1,n,d,k,c=>by
  have nx:t.slot (tr t.mask h n) ≠ .empty->∃ m,n + 1<=m /\ m < n + 1 + fuel /\ t.slot (tr t.mask h m)=.empty:=λ z=>by
   obtain ⟨m,a,b,e⟩:=c;refine ⟨m,?_,by omega,e⟩;by_cases y:m=n
   ·subst y; exact absurd e z
   ·omega
  unfold SetTable.probe.go;dsimp only;cases hs:t.slot (tr t.mask h n) with
  | empty=>exact .inl ⟨n,d,rfl,Nat.le_refl _,hs,λ l a b=>by omega,k⟩
  | dummy =>
   dsimp only;have e1:t.advance { trS t.mask h n with dummy:=some (tr t.mask h n) }={ trS t.mask h (n + 1) with dummy:=some (tr t.mask h n) }:=wc1 t (trS t.mask h n) _;rw [e1];have k':DumOk t h (some (tr t.mask h n)) (n + 1):=λ x e=>by cases e; exact ⟨n,Nat.lt_succ_self _,rfl,hs⟩
   have e2:t.slot (tr t.mask h n) ≠ .empty:=by rw [hs]; intro z; cases z
   have e3:∀ i,t.slot (tr t.mask h n)=.live i->hashAt i ≠ h:=λ i z=>by rw [hs] at z; cases z
   rcases ue1 t hashAt h fuel (n + 1) _ k' (nx e2) with ⟨m,d',a1,a2,a3,a4,a5⟩ | ⟨m,i,d',a1,a2,a3,a4,a5,a6⟩
   ·exact .inl ⟨m,d',a1,by omega,a3,a4.cons e2 e3,a5⟩
   ·exact .inr ⟨m,i,d',a1,by omega,a3,a4,a5.cons e2 e3,a6⟩
  | live i =>
   dsimp only;have e1:t.advance { trS t.mask h n with dummy:=d }={ trS t.mask h (n + 1) with dummy:=d }:=wc1 t (trS t.mask h n) _;rw [e1];have e2:t.slot (tr t.mask h n) ≠ .empty:=by rw [hs]; intro z; cases z
   by_cases c2:hashAt i=h
   ·rw [if_pos (by simpa using c2)];exact .inr ⟨n,i,d,rfl,Nat.le_refl _,hs,c2,λ l a b=>by omega,k⟩
   ·rw [if_neg (by simpa using c2)];have e3:∀ i,t.slot (tr t.mask h n)=.live i->hashAt i ≠ h:=λ i' z=>by rw [hs] at z; cases z; exact c2
    rcases ue1 t hashAt h fuel (n + 1) _ (k.up (Nat.le_succ _)) (nx e2) with ⟨m,d',a1,a2,a3,a4,a5⟩ | ⟨m,i,d',a1,a2,a3,a4,a5,a6⟩
    ·exact .inl ⟨m,d',a1,by omega,a3,a4.cons e2 e3,a5⟩
    ·exact .inr ⟨m,i,d',a1,by omega,a3,a4,a5.cons e2 e3,a6⟩
theorem TOk.probe {t:SetTable} {hs:List Int} (k:TOk t hs) (r:t.fill<=t.mask) (hashAt:Nat->Int) (h:Int) (n:Nat) (d:Option Nat) (kd:DumOk t h d n) :
    (∃ m d',t.probe hashAt h { trS t.mask h n with dummy:=d }=some (.empty (tr t.mask h m) d') /\ n<=m /\ t.slot (tr t.mask h m)=.empty /\ Sk t hashAt h n m /\ DumOk t h d' m) ∨
    (∃ m i d',t.probe hashAt h { trS t.mask h n with dummy:=d }=some (.candidate (tr t.mask h m) i { trS t.mask h (m + 1) with dummy:=d' }) /\ n<=m /\ t.slot (tr t.mask h m)=.live i /\ hashAt i=h /\ Sk t hashAt h n m /\ DumOk t h d' m):=by
 obtain ⟨e,he,ee⟩:=k.hole r;obtain ⟨m,h1,h2,h3⟩:=xg1 k.msk h n he;exact ue1 t hashAt h _ n d kd ⟨m,h1,h2,by rw [h3]; exact ee⟩
theorem ts0 {α:Type} {xs:List α} {p:Nat} {x:α} {i:Nat} (hp:p<=xs.length) (h:i < p):(xs.take p ++ x :: xs.drop p)[i]?=xs[i]?:=by
 rw [getElem?_append_left (by rw [length_take]; omega),getElem?_take_of_lt h]
theorem xt0 {α:Type} {xs:List α} {p:Nat} {x:α} (hp:p<=xs.length):(xs.take p ++ x :: xs.drop p)[p]?=some x:=by
 rw [getElem?_append_right (by rw [length_take]; omega),length_take,show p - min p xs.length=0 by omega];rfl
theorem ss0 {α:Type} {xs:List α} {p:Nat} {x:α} {i:Nat} (hp:p<=xs.length) (h:p<=i):(xs.take p ++ x :: xs.drop p)[i + 1]?=xs[i]?:=by
 rw [getElem?_append_right (by rw [length_take]; omega),length_take,show i + 1 - min p xs.length=(i - p) + 1 by omega,getElem?_cons_succ,getElem?_drop];congr 1;omega
def insL {α:Type} (xs:List α) (p:Nat) (x:α):List α:=xs.take p ++ x :: xs.drop p
theorem tn0 {α:Type} (xs:List α) (p:Nat) (x y:α):y ∈ insL xs p x ↔ y=x \/ y ∈ xs:=by
 have e:xs=xs.take p ++ xs.drop p:=(take_append_drop p xs).symm;unfold insL;rw [mem_append,mem_cons];constructor
 ·rintro (z | z | z)
  ·exact .inr (mem_of_mem_take z)
  ·exact .inl z
  ·exact .inr (mem_of_mem_drop z)
 ·rintro (z | z)
  ·exact .inr (.inl z)
  ·rw [e] at z;rcases List.mem_append.mp z with z | z
   ·exact .inl z
   ·exact .inr (.inr z)
theorem ue0 {α:Type} (xs:List α) (p:Nat) (x:α):(insL xs p x).length=xs.length + 1:=by
 unfold insL;rw [length_append,length_cons,length_take,length_drop];omega
theorem sn0 {α β:Type} (f:α->β) (xs:List α) (p:Nat) (x:α):(insL xs p x).map f=insL (xs.map f) p (f x):=by
 unfold insL;rw [map_append,map_cons,List.map_take,List.map_drop]
theorem zc2 {xs:Array Nat} (h:Rise xs) {j:Nat} (hn:j ∉ xs.toList):(insL xs.toList (SetTable.below xs j) j).Pairwise (· < ·):=by
 have b:∀ {i a:Nat},xs[i]?=some a->(i < SetTable.below xs j ↔ a < j):=λ q=>vj0 h j q;have hb:=xl0 h j;have e:xs.toList=xs.toList.take (SetTable.below xs j) ++ xs.toList.drop (SetTable.below xs j):=(take_append_drop _ _).symm;have h':=h;unfold Rise at h';rw [e] at h';obtain ⟨h1,h2,h3⟩:=List.pairwise_append.mp h';unfold insL;refine List.pairwise_append.mpr ⟨h1,List.pairwise_cons.mpr ⟨λ x hx=>?_,h2⟩,λ x hx y hy=>?_⟩
 ·obtain ⟨i,hi⟩:=List.mem_iff_getElem?.mp hx;rw [getElem?_drop,getElem?_toList] at hi;have:=b hi;have ne:x ≠ j:=λ z=>hn (by subst z; exact zt0 hi);omega
 ·have hxl:x < j:=by
    obtain ⟨i,hi⟩:=List.mem_iff_getElem?.mp hx
    have hlt:i < SetTable.below xs j:=by
     have:=(List.getElem?_eq_some_iff.mp hi).1;rw [length_take] at this;omega
    rw [getElem?_take_of_lt hlt,getElem?_toList] at hi;exact (b hi).mp hlt
  rcases List.mem_cons.mp hy with rfl | hy
  ·exact hxl
  ·exact h3 x hx y hy
theorem ww2 {xs:Array Nat} (h:Rise xs) {p j:Nat} (hp:xs[p]?=some j) (x:Nat):x ∈ (SetTable.eraseAt xs p).toList ↔ x ∈ xs.toList /\ x ≠ j:=by
 have hpl:=(Array.getElem?_eq_some_iff.mp hp).1
 have e:(SetTable.eraseAt xs p).toList=xs.toList.take p ++ xs.toList.drop (p + 1):=by
  simp [SetTable.eraseAt,List.extract_eq_take_drop,take_of_length_le]
 rw [e,mem_append];constructor
 ·rintro (z | z)
  ·obtain ⟨i,hi⟩:=List.mem_iff_getElem?.mp z
   have hlt:i < p:=by
    have:=(List.getElem?_eq_some_iff.mp hi).1;rw [length_take] at this;omega
   rw [getElem?_take_of_lt hlt,getElem?_toList] at hi;exact ⟨zt0 hi,Nat.ne_of_lt (vl0 h hi hp hlt)⟩
  ·obtain ⟨i,hi⟩:=List.mem_iff_getElem?.mp z;rw [getElem?_drop,getElem?_toList] at hi;exact ⟨zt0 hi,Nat.ne_of_gt (vl0 h hp hi [1])⟩
 ·rintro ⟨z,ne⟩;obtain ⟨i,hi⟩:=zz0 z;have hil:=(Array.getElem?_eq_some_iff.mp hi).1;by_cases c:i < p
  ·exact .inl (List.mem_iff_getElem?.mpr ⟨i,by rw [getElem?_take_of_lt c,getElem?_toList]; exact hi⟩)
  ·have:i ≠ p:=λ y=>by subst y; rw [hp] at hi; cases hi; exact ne rfl
   exact .inr (List.mem_iff_getElem?.mpr ⟨i - (p + 1),by rw [getElem?_drop,show p + 1 + (i - (p + 1))=i by omega,getElem?_toList]; exact hi⟩)
theorem sw0 (xs:Array Nat) (p:Nat):(SetTable.eraseAt xs p).toList=xs.toList.take p ++ xs.toList.drop (p + 1):=by
 simp [SetTable.eraseAt,List.extract_eq_take_drop,take_of_length_le]
theorem wc2 {xs:Array Nat} (h:Rise xs) (p:Nat):Rise (SetTable.eraseAt xs p):=by
 unfold Rise;rw [sw0];have e:xs.toList=xs.toList.take p ++ xs.toList.drop p:=(take_append_drop p xs.toList).symm;refine List.Pairwise.sublist ?_ h
 conv=>rhs; rw [e]
 refine List.Sublist.append (List.Sublist.refl _) ?_;rw [<- List.drop_drop];exact drop_sublist _ _
theorem vh0 {t:SetTable} (k:Rise t.dummies) (j x:Nat):x ∈ (t.put j).1.dummies.toList ↔ x ∈ t.dummies.toList /\ x ≠ j:=by
 show x ∈ (if SetTable.has t.dummies j then SetTable.eraseAt t.dummies (SetTable.below t.dummies j) else t.dummies).toList ↔ _;by_cases c:SetTable.has t.dummies j=true
 ·rw [if_pos c];obtain ⟨i,hi⟩:=zz0 ((xk0 k j).mp c);rw [yl0 k hi];exact ww2 k hi x
 ·rw [if_neg c];exact ⟨λ z=>⟨z,λ y=>by subst y; exact c ((xk0 k x).mpr z)⟩,λ z=>z.1⟩
theorem vf0 (t:SetTable) (j:Nat):(t.put j).1.place.toList=insL t.place.toList (SetTable.below t.place j) j:=SetTable.toList_insertAt _ _ _
theorem TOk.put {t:SetTable} {hs:List Int} (k:TOk t hs) {x:Nat} {h:Int} (hx:x ∉ t.place.toList) (hr:∃ m,tr t.mask h m=x /\ ∀ l,l < m->Occ t (tr t.mask h l)) :
    TOk (t.put x).1 (insL hs (SetTable.below t.place x) h):=by
 have hb:=xl0 k.ris x;have sz:=k.sz
 have oc:∀ j,Occ t j->Occ (t.put x).1 j:=λ j o=>by
  unfold Occ;rw [vf0,tn0,vh0 k.rid];by_cases c:j=x
  ·exact .inl (.inl c)
  ·exact o.elim (λ z=>.inl (.inr z)) λ z=>.inr ⟨z,c⟩
 have hxm:x<=t.mask:=by obtain ⟨m,e,_⟩:=hr; rw [<- e]; exact un2 h m
 refine ⟨?_,?_,λ j a b=>?_,λ j a=>?_,λ j a=>?_,k.msk,?_,λ i j h' a b=>?_⟩
 ·unfold Rise; rw [vf0]; exact zc2 k.ris hx
 ·show Rise (if SetTable.has t.dummies x then SetTable.eraseAt t.dummies (SetTable.below t.dummies x) else t.dummies);split
  ·exact wc2 k.rid _
  ·exact k.rid
 ·rw [vh0 k.rid] at a;rw [vf0,tn0] at b;rcases b with rfl | b
  ·exact a.2 rfl
  ·exact k.dj j a.1 b
 ·rw [vf0,tn0] at a;rcases a with rfl | a
  ·exact hxm
  ·exact k.inP j a
 ·rw [vh0 k.rid] at a;exact k.inD j a.1
 ·rw [<- length_toList,vf0,ue0,ue0,length_toList,sz]
 ·have lp:SetTable.below t.place x<=t.place.toList.length:=by rw [length_toList]; exact hb
  have lh:SetTable.below t.place x<=hs.length:=by rw [<- sz]; exact hb
  rw [<- getElem?_toList,vf0] at a;show ∃ m,tr t.mask h' m=j /\ ∀ l,l < m->Occ (t.put x).1 (tr t.mask h' l);unfold insL at a b;by_cases c:i < SetTable.below t.place x
  ·rw [ts0 lp c,getElem?_toList] at a;rw [ts0 lh c] at b;obtain ⟨m,e,o⟩:=k.reach i j h' a b;exact ⟨m,e,λ l hl=>oc _ (o l hl)⟩
  ·by_cases c2:i=SetTable.below t.place x
   ·subst c2;rw [xt0 lp] at a;rw [xt0 lh] at b;cases a;cases b;obtain ⟨m,e,o⟩:=hr;exact ⟨m,e,λ l hl=>oc _ (o l hl)⟩
   ·obtain ⟨i',rfl⟩:∃ i',i=i' + 1:=⟨i - 1,by omega⟩;rw [ss0 lp [1],getElem?_toList] at a;rw [ss0 lh [1]] at b;obtain ⟨m,e,o⟩:=k.reach i' j h' a b;exact ⟨m,e,λ l hl=>oc _ (o l hl)⟩
theorem uh1 {t:SetTable} {hs:List Int} (k:TOk t hs) {x:Nat}:(t.put x).1.fill<=t.fill + 1:=by
 unfold SetTable.fill;have h1:(t.put x).1.place.size=t.place.size + 1:=by rw [<- length_toList,vf0,ue0,length_toList]
 have h2:(t.put x).1.dummies.size<=t.dummies.size:=by
  show (if SetTable.has t.dummies x then SetTable.eraseAt t.dummies (SetTable.below t.dummies x) else t.dummies).size<=_;split
  ·rw [<- length_toList,sw0,length_append,length_take,length_drop,length_toList]; omega
  ·exact Nat.le_refl _
 omega
theorem sl1 {t:SetTable} {hs:List Int} (k:TOk t hs) {x:Nat} (hd:t.slot x=.dummy):(t.put x).1.fill<=t.fill:=by
 unfold SetTable.fill;have h1:(t.put x).1.place.size=t.place.size + 1:=by rw [<- length_toList,vf0,ue0,length_toList]
 have m:=(wl0 k.ris k.rid (k.dj x)).mp hd;obtain ⟨i,hi⟩:=zz0 m;have hil:=(Array.getElem?_eq_some_iff.mp hi).1
 have h2:(t.put x).1.dummies.size + 1<=t.dummies.size:=by
  show (if SetTable.has t.dummies x then SetTable.eraseAt t.dummies (SetTable.below t.dummies x) else t.dummies).size + 1<=_;rw [if_pos ((xk0 k.rid x).mpr m),yl0 k.rid hi,<- length_toList,sw0,length_append,length_take,length_drop,length_toList];omega
 omega
theorem ta1 (mask:Nat) (h:Int) (owner:Array [34]):∀ (fuel n i p:Nat),trS mask h n=seg mask i p->(∃ K,K < fuel /\ owner.getD (lp mask K (i,p)).1 (some 0)=none) ->
    ∃ m,SetTable.layClean.free mask owner fuel i p=some (tr mask h m) /\ n<=m /\ owner.getD (tr mask h m) (some 0)=none /\ ∀ l,n<=l->l < m->owner.getD (tr mask h l) (some 0) ≠ none
 | 0,n,i,p,e,c=>by obtain ⟨K,a,_⟩:=c; omega
 | fuel + 1,n,i,p,e,c=>by
  have trk:∀ k,k<=SetTable.runEnd mask i - i->tr mask h (n + k)=i + k:=λ k hk=>by
   show (trS mask h (n + k)).j=_;rw [zv0 e k hk]
  have rl:=vb3 mask i;unfold SetTable.layClean.free;cases hf:(List.range (SetTable.runEnd mask i + 1 - i)).find? (λ k=>(owner.getD (i + k) (some 0)).isNone) with
  | some k =>
   dsimp only;obtain ⟨h1,h2,h3⟩:=List.find?_range_eq_some.mp hf;have h2':k < SetTable.runEnd mask i + 1 - i:=List.mem_range.mp h2;refine ⟨n + k,by rw [trk k [1]],by omega,by rw [trk k [1]]; simpa using h1,λ l a b=>?_⟩;obtain ⟨l',rfl⟩:∃ l',l=n + l':=⟨l - n,by omega⟩;rw [trk l' [1]];have:=h3 l' [1];intro z;rw [z] at this;simp at this
  | none =>
   dsimp only;have h1:=List.find?_range_eq_none.mp hf
   have h1':∀ k,k<=SetTable.runEnd mask i - i->owner.getD (i + k) (some 0) ≠ none:=λ k hk z=>by
    have:=h1 k [1];rw [z] at this;simp at this
   have c':∃ K,K < fuel /\ owner.getD (lp mask K (SetTable.leap mask i p)).1 (some 0)=none:=by
    obtain ⟨K,a,b⟩:=c;cases K with
    | zero=>exact absurd b (h1' 0 (Nat.zero_le _))
    | succ K=>exact ⟨K,by omega,b⟩
   obtain ⟨m,a1,a2,a3,a4⟩:=ta1 mask h owner fuel _ _ _ (zn0 e) c';refine ⟨m,a1,by omega,a3,λ l b1 b2=>?_⟩;by_cases z:l<=n + (SetTable.runEnd mask i - i)
   ·obtain ⟨l',rfl⟩:∃ l',l=n + l':=⟨l - n,by omega⟩;rw [trk l' [1]];exact h1' l' [1]
   ·exact a4 l [1] b2
theorem tl2 {α β:Type} {f:α->Option β}:∀ {L:List α},(∀ j ∈ L,f j ≠ none)->(L.filterMap f).length=L.length
 | [],_=>rfl
 | j :: L,h=>by
  have h1:=h j (mem_cons_self ..);obtain ⟨b,hb⟩:∃ b,f j=some b:=by cases hq:f j with | none=>exact absurd hq h1 | some b=>exact ⟨b,rfl⟩
  rw [List.filterMap_cons_some hb,length_cons,length_cons,tl2 λ x hx=>h x (mem_cons_of_mem _ hx)]
theorem uw0 {α β:Type} {f g:α->Option β}:∀ {L:List α},(∀ j ∈ L,f j=g j)->L.filterMap f=L.filterMap g
 | [],_=>rfl
 | j :: L,h=>by
  rw [filterMap_cons,filterMap_cons,h j (mem_cons_self ..),uw0 λ x hx=>h x (mem_cons_of_mem _ hx)]
theorem ul2 {f g:Nat->Option Nat} {x k:Nat} (e1:f x=none) (e2:g x=some k) (e3:∀ y,y ≠ x->g y=f y):∀ {L:List Nat},L.Nodup->x ∈ L->(L.filterMap g).Perm (k :: L.filterMap f)
 | [],_,h=>by cases h
 | y :: L,nd,h=>by
  obtain ⟨n1,n2⟩:=List.nodup_cons.mp nd;by_cases c:y=x
  ·subst c;rw [List.filterMap_cons_some e2,List.filterMap_cons_none e1];refine List.Perm.cons _ (List.Perm.of_eq ?_);exact uw0 λ j hj=>e3 j λ z=>n1 (z ▸ hj)
  ·have ih:=ul2 e1 e2 e3 n2 (by rcases List.mem_cons.mp h with rfl | h; exact absurd rfl c; exact h);have e:=e3 y c;cases hf:f y with
   | none=>rw [List.filterMap_cons_none (by rw [e,hf]),List.filterMap_cons_none hf]; exact ih
   | some b =>
    rw [List.filterMap_cons_some (by rw [e,hf]),List.filterMap_cons_some hf];exact (List.Perm.cons _ ih).trans (List.Perm.swap _ _ _)
structure OwnOk (mask:Nat) (hs:List Int) (owner:Array (Option Nat)):Prop where
 sz:owner.size=mask + 1
 perm:((List.range (mask + 1)).filterMap λ j=>owner.getD j none).Perm (List.range hs.length)
 reach:∀ j k,owner.getD j none=some k->∃ h,hs[k]?=some h /\ ∃ m,tr mask h m=j /\ ∀ l,l < m->owner.getD (tr mask h l) none ≠ none
theorem ww0 {owner:Array [34]} {j:Nat} (h:j < owner.size) (a b:Option Nat):owner.getD j a=owner.getD j b:=by simp [Array.getD,h]
theorem OwnOk.step {mask:Nat} (hm:mask ∈ okM) {hs:List Int} {owner:Array [34]} (k:OwnOk mask hs owner) (hl:hs.length<=mask) (h:Int) :
    ∃ x,SetTable.layClean.free mask owner (SetTable.turns mask) (SetTable.bits h % (mask + 1)) (SetTable.bits h)=some x /\ OwnOk mask (hs ++ [h]) (owner.setIfInBounds x (some hs.length)):=by
 have sz:=k.sz
 obtain ⟨e,he,ee⟩:∃ e,e<=mask /\ owner.getD e none=none:=by
  refine Classical.byContradiction λ c=>?_;have h1:=tl2 (f:=λ j=>owner.getD j none) (L:=List.range (mask + 1)) λ j hj z=>c ⟨j,by have:=List.mem_range.mp hj; omega,z⟩;rw [k.perm.length_eq,length_range,length_range] at h1;omega
 have hi:SetTable.bits h % (mask + 1)<=mask:=by have:=Nat.mod_lt (SetTable.bits h) (show mask + 1 > 0 by omega); omega
 obtain ⟨K,hK,eK⟩:=wi1 hm hi (wz1 h) he;obtain ⟨m,a1,a2,a3,a4⟩:=ta1 mask h owner (SetTable.turns mask) 0 _ _ (tx0 mask h) ⟨K,by unfold SetTable.turns; omega,by rw [eK,ww0 [1] _ none]; exact ee⟩;have ml:∀ l,tr mask h l < owner.size:=λ l=>by have:=un2 (mask:=mask) h l; omega
 have a3':owner.getD (tr mask h m) none=none:=by rw [ww0 (ml m) _ (some 0)]; exact a3
 have gx:(owner.setIfInBounds (tr mask h m) (some hs.length)).getD (tr mask h m) none=some hs.length:=by
  have:=ml m;simp [Array.getD,this]
 have gy:∀ y,y ≠ tr mask h m->(owner.setIfInBounds (tr mask h m) (some hs.length)).getD y none=owner.getD y none:=λ y hy=>by
  by_cases c:y < owner.size
  ·simp [Array.getD,c,Array.getElem_setIfInBounds,Ne.symm hy]
  ·simp [Array.getD,c]
 have mono:∀ y,owner.getD y none ≠ none->(owner.setIfInBounds (tr mask h m) (some hs.length)).getD y none ≠ none:=λ y hy=>by
  by_cases c:y=tr mask h m
  ·subst c; rw [gx]; intro z; cases z
  ·rw [gy y c]; exact hy
 refine ⟨tr mask h m,a1,by rw [Array.size_setIfInBounds]; exact sz,?_,λ j q e=>?_⟩
 ·refine (ul2 a3' gx gy List.nodup_range (List.mem_range.mpr (by have:=ml m; omega))).trans ?_;rw [length_append,length_singleton];exact ((List.Perm.cons _ k.perm).trans (List.perm_append_singleton _ _).symm).trans (List.Perm.of_eq List.range_succ.symm)
 ·by_cases c:j=tr mask h m
  ·subst c;rw [gx] at e;cases e;refine ⟨h,by simp,m,rfl,λ l hl=>mono _ ?_⟩;have:=a4 l (Nat.zero_le _) hl;rw [ww0 (ml l) _ none] at this;exact this
  ·rw [gy j c] at e;obtain ⟨h',b1,m',b2,b3⟩:=k.reach j q e;refine ⟨h',?_,m',b2,λ l hl=>mono _ (b3 l hl)⟩;rw [getElem?_append_left (List.getElem?_eq_some_iff.mp b1).1];exact b1
theorem sv1 {mask:Nat} (hm:mask ∈ okM):∀ (rest done:List Int) (owner:Array [34]),OwnOk mask done owner->done.length + rest.length<=mask + 1 ->
    ∃ owner',List.foldl (λ acc h=>do
     let (owner,k) <- acc
     let j <- SetTable.layClean.free mask owner (SetTable.turns mask) (SetTable.bits h % (mask + 1)) (SetTable.bits h)
     pure (owner.setIfInBounds j (some k),k + 1)) (some (owner,done.length)) rest=some (owner',done.length + rest.length) /\ OwnOk mask (done ++ rest) owner'
 | [],done,owner,k,_=>⟨owner,rfl,by rw [append_nil]; exact k⟩
 | h :: rest,done,owner,k,hl=>by
  rw [length_cons] at hl;obtain ⟨x,e,k'⟩:=k.step hm [1] h;obtain ⟨o',e',k''⟩:=sv1 hm rest (done ++ [h]) _ k' (by rw [length_append,length_singleton]; omega);refine ⟨o',?_,by rw [append_assoc] at k''; exact k''⟩;rw [length_append,length_singleton] at e';rw [foldl_cons,length_cons,show done.length + (rest.length + 1)=done.length + 1 + rest.length by omega,<- e'];simp only [bind,Option.bind,e,pure]
theorem own0 (mask:Nat):OwnOk mask [] (Array.replicate (mask + 1) none):=by
 have g:∀ j,(Array.replicate (mask + 1) (none:Option Nat)).getD j none=none:=λ j=>by
  by_cases c:j < mask + 1 <;> simp [Array.getD,c]
 refine ⟨by simp,?_,λ j k e=>by rw [g] at e; cases e⟩;rw [List.filterMap_eq_nil_iff.mpr λ j _=>g j];exact List.Perm.refl _
theorem we1 {mask:Nat} (hm:mask ∈ okM) (hs:Array Int) (hl:hs.size<=mask + 1):∃ owner,SetTable.layClean mask hs=some owner /\ OwnOk mask hs.toList owner:=by
 obtain ⟨o,e,k⟩:=sv1 hm hs.toList [] _ (own0 mask) (by simpa using hl);refine ⟨o,?_,by simpa using k⟩;unfold SetTable.layClean;rw [<- Array.foldl_toList];rw [length_nil] at e;rw [e];rfl
theorem tu2 {mask:Nat} (hm:mask ∈ okM) (hs:Array Int) (hl:hs.size<=mask + 1) (fi mo:Nat) (le pl:Bool) :
    ∃ t' order,SetTable.laid mask fi mo le pl hs=some (t',order) /\ t'.mask=mask /\ t'.dummies = #[] /\ t'.led=le /\ t'.plain=pl /\ t'.finger=fi /\ t'.moves=mo /\ order.toList.Perm (List.range hs.size) /\ TOk t' (order.toList.map λ k=>hs.getD k 0):=by
 obtain ⟨o,e,k⟩:=we1 hm hs hl;unfold SetTable.laid;rw [e];refine ⟨_,_,rfl,rfl,rfl,rfl,rfl,rfl,rfl,?_,?_⟩
 ·have:(((List.range (mask + 1)).filterMap λ j=>(o.getD j none).map (j,·)).map (·.2))=(List.range (mask + 1)).filterMap λ j=>o.getD j none:=by
    rw [List.map_filterMap];refine uw0 λ j _=>?_;cases o.getD j none <;> rfl
  simp only [List.toList_toArray];rw [this];simpa using k.perm
 ·generalize hlv:((List.range (mask + 1)).filterMap λ j=>(o.getD j none).map (j,·))=live
  have lget:∀ x,x ∈ live->x.1<=mask /\ o.getD x.1 none=some x.2:=λ x hx=>by
   rw [<- hlv] at hx;obtain ⟨j,hj,ej⟩:=List.mem_filterMap.mp hx;cases hq:o.getD j none with
   | none=>rw [hq] at ej; cases ej
   | some b=>rw [hq] at ej; cases ej; exact ⟨by have:=List.mem_range.mp hj; show j<=mask; omega,hq⟩
  have lin:∀ j q,j<=mask->o.getD j none=some q->j ∈ live.map (·.1):=λ j q hj eq=>by
   rw [<- hlv];exact List.mem_map.mpr ⟨(j,q),List.mem_filterMap.mpr ⟨j,List.mem_range.mpr [1],by rw [eq]; rfl⟩,rfl⟩
  have pw:(live.map (·.1)).Pairwise (· < ·):=by
   rw [<- hlv,List.map_filterMap,List.pairwise_filterMap];refine List.pairwise_lt_range.imp_of_mem ?_
   ·intro a b ha hb hab x hx y hy;cases hq:o.getD a none with
    | none=>rw [hq] at hx; cases hx
    | some u =>
     cases hq2:o.getD b none with
     | none=>rw [hq2] at hy; cases hy
     | some v=>rw [hq] at hx; rw [hq2] at hy; cases hx; cases hy; exact hab
  refine ⟨by simpa [Rise] using pw,List.Pairwise.nil,λ j z=>by simp at z,λ j z=>?_,λ j z=>by simp at z,hm,by simp,λ i j h a b=>?_⟩
  ·have z':j ∈ live.map (·.1):=by simpa using z
   obtain ⟨x,hx,rfl⟩:=List.mem_map.mp z';exact (lget x hx).1
  ·have a':(live.map (·.1))[i]?=some j:=by simpa using a
   have b':((live.map (·.2)).map λ k=>hs.getD k 0)[i]?=some h:=by simpa using b
   rw [getElem?_map] at a' b';rw [getElem?_map] at b';cases hx:live[i]? with
   | none=>rw [hx] at a'; cases a'
   | some x =>
    rw [hx] at a' b';have a2:x.1=j:=by simpa using a'
    have b2:hs.getD x.2 0=h:=by simpa using b'
    obtain ⟨g1,g2⟩:=lget x (mem_of_getElem? hx);obtain ⟨h',c1,m,c2,c3⟩:=k.reach _ _ g2
    have hh:h'=h:=by
     rw [<- b2];rw [getElem?_toList] at c1;obtain ⟨hl1,hl2⟩:=Array.getElem?_eq_some_iff.mp c1;simp [Array.getD,hl1,hl2]
    subst hh;refine ⟨m,by rw [c2,a2],λ l hl=>.inl ?_⟩;have c4:=c3 l hl;cases hq:o.getD (tr mask h' l) none with
    | none=>exact absurd hq c4
    | some q=>simpa using lin _ q (un2 h' l) hq
theorem ym0:∀ n,n < 512->SetTable.sizeAbove (n * 4) - 1 ∈ okM /\ n * 5 < (SetTable.sizeAbove (n * 4) - 1) * 3 /\ SetTable.sizeAbove (n * 4)<=2048:=by
 have:((List.range 512).all λ n=>decide (SetTable.sizeAbove (n * 4) - 1 ∈ okM /\ n * 5 < (SetTable.sizeAbove (n * 4) - 1) * 3 /\ SetTable.sizeAbove (n * 4)<=2048))=true:=by decide +kernel
 intro n hn;exact of_decide_eq_true (List.all_eq_true.mp this n (List.mem_range.mpr hn))
end Pv
namespace Pv
open PySem PySem.Spec PySem.W PyProof.Rows L2
class TKy (α:Type) where
 kI:α->List Int
 inj:∀ {a b:α},kI a=kI b->a=b
 dd:α
instance tky3:TKy T3 where
 kI:=λ t=>[t.1,t.2.1,t.2.2]
 inj:=λ {a b} h=>by
  injection h with h1 h2
  injection h2 with h2 h3
  injection h3 with h3
  exact Prod.ext h1 (Prod.ext h2 h3)
 dd:=(0,0,0)
instance tky2:TKy (Int × Int) where
 kI:=λ t=>[t.1,t.2]
 inj:=λ {a b} h=>by
  injection h with h1 h2
  injection h2 with h2
  exact Prod.ext h1 h2
 dd:=(0,0)
section
variable {α:Type} [TKy α] {prog:Program} {w:World} {A:Around} {E:[2]} {s:Shared}
abbrev TK (prog:Program) (w:World) (h:Heap) (t:α) (a:Addr):Prop:=IsTupleKey (intKind prog w) h (TKy.kI t) a
def hT (prog:Program) (w:World) (t:α):Int:=tupleKeyHash (intKind prog w) (TKy.kI t)
theorem yv2 {k:α} {b:Addr} {Q:Int->Shared->Prop} (hu:A.units < cLine) (i:TK prog w s.heap k b) (h:∀ tk,Q (hT prog w k) { s with toks:=tk }):wpAny [4] A (pyHash (.ref b)) Q E s:=wpAny_pyHash_tuple hu i (h _)
theorem IsT3.key {h:Heap} {a:Addr} {t:T3} (i:IsT3 h (.ref a) t):TK prog w h t a:=by
 obtain ⟨a',o,t1,t2,t3,n,e1,e2,e3,e4⟩:=i;cases e1;exact ⟨o,_,n,e2,e3,e4,.cons (intKind_is ..) (.cons (intKind_is ..) (.cons (intKind_is ..) .nil))⟩
theorem xj1 {k:Int} {v:Value} (z:(intKind prog w).is k v=true):∃ tk,v=.int k tk:=by
 cases v <;> simp [intKind,Value.isInt] at z;exact ⟨_,by rw [z]⟩
theorem TK.t3 {h:Heap} {a:Addr} {t:T3} (i:TK prog w h t a):IsT3 h (.ref a) t:=by
 obtain ⟨o,items,n,e1,e2,e3,e4⟩:=i;obtain ⟨it⟩:=items;cases e4 with
 | cons a1 e4 =>
  cases e4 with
  | cons a2 e4 =>
   cases e4 with
   | cons a3 e4 =>
    cases e4;obtain ⟨t1,rfl⟩:=xj1 a1;obtain ⟨t2,rfl⟩:=xj1 a2;obtain ⟨t3,rfl⟩:=xj1 a3;exact ⟨a,o,t1,t2,t3,n,rfl,e1,e2,e3⟩
theorem TK.kept {h h':Heap} {a:Addr} {t:α} (k:∀ o,h.get? a=some o->o.cls=.type "tuple" -> h'.get? a=some o) (i:TK prog w h t a):TK prog w h' t a:=by
 obtain ⟨o,items,n,e1,e2,e3⟩:=i;exact ⟨o,items,n,k o e1 e2,e2,e3⟩
theorem wn0 {a:Addr} {Q:Bool->Shared->Prop} (h:Q true s):wpAny [4] A (isSame (.ref a) (.ref a)) Q E s:=by
 unfold isSame;dsimp only;rw [if_pos (beq_self_eq_true a)];exact wpAny_pure h
theorem TK.items {h:Heap} {a:Addr} {t:α} (i:TK prog w h t a):∃ o its n,h.get? a=some o /\ o.cls=.type "tuple" /\ o.data=.seq its n /\ ∀ v ∈ its.toList,∃ i t,v=Value.int i t:=by
 obtain ⟨o,items,n,e1,e2,e3,e4⟩:=i;refine ⟨o,items,n,e1,e2,e3,?_⟩;generalize items.toList=l at e4;generalize TKy.kI t=ks at e4
 induction e4 with
 | nil=>exact λ v h=>nomatch h
 | cons a _ ih =>
  intro v hv;rcases List.mem_cons.mp hv with e | hv
  ·subst e; obtain ⟨tk,e⟩:=xj1 a; exact ⟨_,tk,e⟩
  ·exact ih v hv
theorem tm2 {t:α} {a:Addr} {Q:Bool->Shared->Prop} (i:TK prog w s.heap t a) (h:Q false s):wpAny [4] A (ofAClassStatement 8 (.ref a)) Q E s:=by
 have ty:=i.typeIs;obtain ⟨o,its,n,e1,e2,e3,e4⟩:=i.items;unfold ofAClassStatement;refine wpAny_bind (wpAny_typeOf ty ?_);dsimp only;rw [if_pos [20]];refine wpAny_bind [29];rw [if_neg [20]];refine wpAny_bind (wpAny_seqItems e1 e3 ?_);dsimp only;refine wpAny_bind ?_;rw [<- Array.forIn_toList];refine wpAny_forIn_list _ (λ rest r s'=>r.1=none /\ s'=s /\ ∀ v ∈ rest,carriedByValue v=true) _ ?_ ?_ _ _ ⟨rfl,rfl,λ v hv=>by obtain ⟨i,t,rfl⟩:=e4 v hv; rfl⟩
 ·rintro v rest r s' ⟨hr,rfl,hall⟩;have hv:=hall v mem_cons_self
  have hq:ofAClassStatement 7 v=pure false:=by
   cases v with
   | ref a=>simp [carriedByValue] at hv
   | _=>first | rfl | simp [ofAClassStatement] | (unfold ofAClassStatement; rfl)
  rw [hq];refine wpAny_bind [29];simp only [Bool.false_eq_true,if_false];exact wpAny_pure ⟨rfl,rfl,λ u hu'=>hall u (mem_cons_of_mem _ hu')⟩
 ·rintro ⟨r1,r2⟩ s' ⟨hr,rfl,_⟩;simp only at hr;subst hr;exact wpAny_pure h
theorem xp2 {k:α} {b:Addr} {stored:[23]} {Q:Bool->Shared->Prop} (i:TK prog w s.heap k b) (hs:∀ v ∈ stored,∃ (t:α) (a:Addr),v=.ref a /\ TK prog w s.heap t a) (h:Q false s) :
    wpAny [4] A (searchCouldBeSeen (.ref b) stored) Q E s:=by
 unfold searchCouldBeSeen;refine wpAny_bind ?_;refine wpAny_forIn_list _ (λ rest r s'=>r.1=none /\ s'=s /\ ∀ v ∈ rest,∃ (t:α) (a:Addr),v=.ref a /\ TK prog w s.heap t a) _ ?_ ?_ _ _ ⟨rfl,rfl,hs⟩
 ·rintro v rest r s' ⟨hr,rfl,hall⟩;obtain ⟨t,a,rfl,hv⟩:=hall v mem_cons_self;have tl:=λ u hu'=>hall u (mem_cons_of_mem _ hu');dsimp only;split
  ·exact wpAny_pure ⟨rfl,rfl,tl⟩
  ·refine wpAny_bind (wpAny_eqIsQuiet_tuple i ?_);simp only [Bool.not_true,Bool.false_eq_true,if_false];refine wpAny_bind (wpAny_eqIsQuiet_tuple hv ?_);simp only [Bool.not_true,Bool.false_eq_true,if_false];refine wpAny_bind (tm2 i ?_);simp only [Bool.false_eq_true,if_false];refine wpAny_bind (tm2 hv ?_);simp only [Bool.false_eq_true,if_false];exact wpAny_pure ⟨rfl,rfl,tl⟩
 ·rintro ⟨r1,r2⟩ s' ⟨hr,rfl,_⟩;simp only at hr;subst hr;exact wpAny_pure h
theorem zh2 {t:α} {a:Addr} {Q:Bool->Shared->Prop} (i:TK prog w s.heap t a) (h:Q true s):wpAny [4] A (hashByValue 8 (.ref a)) Q E s:=by
 have ty:=i.typeIs;obtain ⟨o,its,n,e1,e2,e3,e4⟩:=i.items;unfold hashByValue;refine wpAny_bind (wpAny_specialOf ty F.slot_tuple_hash.lookup ?_);show wpAny _ _ (seqItems? (.ref a) >>= _) _ _ s;refine wpAny_bind (wpAny_seqItems e1 e3 ?_);refine wpAny_bind ?_;show wpAny _ _ (forIn its _ _) _ _ s;rw [<- Array.forIn_toList];refine wpAny_forIn_list _ (λ rest r s'=>r.1=none /\ s'=s /\ ∀ v ∈ rest,∃ i t,v=Value.int i t) _ ?_ ?_ _ _ ⟨rfl,rfl,e4⟩
 ·rintro v rest r s' ⟨hr,rfl,hall⟩;obtain ⟨j,tk,rfl⟩:=hall v mem_cons_self;have hq:hashByValue 7 (.int j tk)=pure true:=by unfold hashByValue; rfl
  rw [hq];refine wpAny_bind [29];simp only [Bool.not_true,Bool.false_eq_true,if_false];exact wpAny_pure ⟨rfl,rfl,λ u hu'=>hall u (mem_cons_of_mem _ hu')⟩
 ·rintro ⟨r1,r2⟩ s' ⟨hr,rfl,_⟩;simp only at hr;subst hr;exact wpAny_pure h
end
def bT (prog:Program) (w:World):Bool:=[4].w.params.followText "set-order"
abbrev ent {α:Type} (hf:α->Int) (x:α × Addr):Int × Value:=(hf x.1,.ref x.2)
structure SetIs {α:Type} [TKy α] (prog:Program) (w:World) (hf:α->Int) (h:Heap) (a:Addr) (o:Obj) (es:Array (Int × Value)) (ep:Nat) (t:SetTable) (xs:List (α × Addr)):Prop where
 ho:h.get? a=some o
 ex:o.ExactSet
 hd:o.data=.set es ep t
 el:es.toList=xs.map (ent hf)
 ks:∀ x ∈ xs,TK prog w h x.1 x.2
 nd:(xs.map (·.1)).Nodup
 ok:TOk t (xs.map λ x=>hf x.1)
 rm:t.fill<=t.mask
 pl:t.plain=true
 le:t.led = !bT prog w
section
variable {α:Type} [TKy α] {prog:Program} {w:World} {A:Around} {E:[2]} {s:Shared} {a:Addr} {o:Obj} {es:Array (Int × Value)} {ep:Nat} {t:SetTable} {xs:List (α × Addr)} {hf:α->Int}
theorem SetIs.at {h:Heap} (S:SetIs prog w hf h a o es ep t xs) (i:Nat):es[i]?=(xs[i]?).map (ent hf):=by rw [<- getElem?_toList,S.el,getElem?_map]
theorem SetIs.size {h:Heap} (S:SetIs prog w hf h a o es ep t xs):es.size=xs.length:=by rw [<- length_toList,S.el,length_map]
theorem SetIs.fits {h:Heap} (S:SetIs prog w hf h a o es ep t xs):t.fits es.size=true:=by
 have h1:=S.ok.sz;have h2:=S.size;have h3:=S.rm;rw [length_map] at h1;simp [SetTable.fits,h1,h2,h3]
theorem SetIs.odd {h:Heap} (S:SetIs prog w hf h a o es ep t xs):t.gaveWay=false:=by
 have:∀ m ∈ okM,(m % 2 == 0)=false:=by decide
 exact this _ S.ok.msk
theorem uy0 {f:Nat->Int} {h:Int} {n:Nat} {d:Option Nat} {hs:List Int} {r:Option SetTable.Met} (k:TOk t hs) (rm:t.fill<=t.mask) (kd:DumOk t h d n) (e:t.probe f h { trS t.mask h n with dummy:=d }=r) :
    (∃ m d',r=some (.empty (tr t.mask h m) d') /\ n<=m /\ t.slot (tr t.mask h m)=.empty /\ Sk t f h n m /\ DumOk t h d' m) ∨
    (∃ m i d',r=some (.candidate (tr t.mask h m) i { trS t.mask h (m + 1) with dummy:=d' }) /\ n<=m /\ t.slot (tr t.mask h m)=.live i /\ f i=h /\ Sk t f h n m /\ DumOk t h d' m):=by
 subst e;exact k.probe rm f h n d kd
def Hist (hf:α->Int) (t:SetTable) (xs:List (α × Addr)) (k:α) (n:Nat):Prop:=∀ l,l < n->t.slot (tr t.mask (hf k) l) ≠ .empty /\ ∀ i,t.slot (tr t.mask (hf k) l)=.live i->∀ x,xs[i]?=some x->x.1 ≠ k
theorem xd1 {k:α} {b:Addr} {adding:Bool} {Q:SetFound->Shared->Prop} (hu:A.units < cLine) (S:SetIs prog w hf s.heap a o es ep t xs) (hk:TK prog w s.heap k b)
    (found:∀ i b',xs[i]?=some (k,b')->Q (.there (if adding then none else some i)) s)
    (free:[31])
    {fuel n:Nat} {d:Option Nat} {stand:Option SetTable.Probe} (kd:DumOk t (hf k) d n) (hist:Hist hf t xs k n) (st:stand.getD (t.probeStart (hf k))={ trS t.mask (hf k) n with dummy:=d })
    (ih:∀ (n':Nat) (d':Option Nat) (stand':Option SetTable.Probe),n < n'->DumOk t (hf k) d' n'->Hist hf t xs k n'->stand'.getD (t.probeStart (hf k))={ trS t.mask (hf k) n' with dummy:=d' } ->
     wpAny [4] A (setSearchFrom a (.ref b) (hf k) adding fuel stand') Q E s) :
    wpAny [4] A (setSearchFrom a (.ref b) (hf k) adding (fuel + 1) stand) Q E s:=by
 have hist':∀ {f:Nat->Int} {m:Nat},(∀ i,f i=((es[i]?).map (·.1)).getD 0)->Sk t f (hf k) n m->∀ l,l < m->t.slot (tr t.mask (hf k) l) ≠ .empty /\ ∀ i,t.slot (tr t.mask (hf k) l)=.live i->∀ x,xs[i]?=some x->x.1 ≠ k:=λ {f m} hf sk l hl=>by
  by_cases c:l < n
  ·exact hist l c
  ·obtain ⟨b1,b2⟩:=sk l [1] hl;refine ⟨b1,λ i e x hx z=>b2 i e ?_⟩;rw [hf,S.at,hx,Option.map_some,Option.map_some,Option.getD_some,<- z]
 unfold setSearchFrom;refine wpAny_bind [37];dsimp only;rw [S.odd,st];simp only [Bool.false_eq_true,if_false];split
 ·next met heq =>
  rcases uy0 S.ok S.rm kd heq with ⟨m,d',e,a1,a2,a3,a4⟩ | ⟨m,i,d',e,a1,a2,a3,a4,a5⟩
  ·cases e;have H:=hist' (λ _=>rfl) a3
   have nk:k ∉ xs.map (·.1):=λ z=>by
    obtain ⟨x,hx,ek⟩:=List.mem_map.mp z;obtain ⟨i,hi⟩:=List.mem_iff_getElem?.mp hx;have hlt:i < t.place.size:=by rw [S.ok.sz,length_map]; exact (List.getElem?_eq_some_iff.mp hi).1
    have hp:t.place[i]?=some t.place[i]:=Array.getElem?_eq_getElem hlt;obtain ⟨m',q1,q2⟩:=S.ok.reach i _ (hf k) hp (by rw [getElem?_map,hi]; show some (hf x.1)=_; rw [ek]);have hl:=(sx0 S.ok.ris).mpr hp;rw [<- q1] at hl;by_cases c:m' < m
    ·exact (H m' c).2 i hl x hi ek
    ·by_cases c2:m=m'
     ·subst c2; rw [a2] at hl; cases hl
     ·exact (S.ok.occ _).mp (q2 m [1]) a2
   have oc:∀ l,l < m->Occ t (tr t.mask (hf k) l):=λ l hl=>(S.ok.occ _).mpr (H l hl).1;cases d' with
   | none=>exact wpAny_pure (free _ false nk ((zl0 S.ok.ris S.ok.rid).mp a2).1 ⟨m,rfl,oc⟩ (λ z=>by cases z))
   | some x =>
    obtain ⟨l,b1,b2,b3⟩:=a4 x rfl;dsimp only;rw [b3];simp only [bne_self_eq_false,Bool.and_false,Bool.false_eq_true,if_false];refine wpAny_pure (free x true nk (S.ok.dj x ((wl0 S.ok.ris S.ok.rid (S.ok.dj x)).mp b3)) ⟨l,b2,λ l' hl=>oc l' [1]⟩ (λ _=>b3))
  ·cases e;have H:=hist' (λ _=>rfl) a4;have hp:=(sx0 S.ok.ris).mp a2;have hlt:i < xs.length:=by have:=(Array.getElem?_eq_some_iff.mp hp).1; rw [S.ok.sz,length_map] at this; exact this
   obtain ⟨x,hx⟩:∃ x,xs[i]?=some x:=⟨_,getElem?_eq_getElem hlt⟩;have he:es[i]?=some (ent hf x):=by rw [S.at,hx]; rfl
   have hkx:=S.ks x (mem_of_getElem? hx);have sm:t.sameMemory t.moves t.mask=some true:=by unfold SetTable.sameMemory; simp
   have sto:∀ v ∈ List.map (λ x=>x.snd) (Array.filter (λ x=>x.fst == hf k) es).toList,∃ (t:α) (a:Addr),v=.ref a /\ TK prog w s.heap t a:=λ v hv=>by
    obtain ⟨y,hy,rfl⟩:=List.mem_map.mp hv
    have hy':y ∈ es.toList:=by
     rw [Array.toList_filter] at hy;exact (List.mem_filter.mp hy).1
    rw [S.el] at hy';obtain ⟨z,hz,rfl⟩:=List.mem_map.mp hy';exact ⟨z.1,z.2,rfl,S.ks z hz⟩
   dsimp only;split
   ·refine wpAny_bind (xp2 hk sto ?_);simp only [Bool.false_eq_true,if_false];rw [he];dsimp only;refine wpAny_bind (wpAny_holding (wpAny_eqBool_tuple hu hkx hk ?_));refine wpAny_bind [37];dsimp only;by_cases c:x.1=k
    ·rw [decide_eq_true (congrArg TKy.kI c)];have fd:=found i x.2 (by rw [hx,<- c]);cases adding
     ·rw [sm];simp only [Bool.false_and,Bool.false_eq_true,if_false,if_true];rw [a2];dsimp only;rw [he];dsimp only;refine wpAny_bind (wn0 (wpAny_bind [29]));exact wpAny_pure fd
     ·exact wpAny_pure fd
    ·rw [decide_eq_false (λ z=>c (TKy.inj z)),sm];simp only [Bool.and_false,Bool.false_eq_true,if_false,if_true];rw [a2];dsimp only;rw [he];dsimp only;refine wpAny_bind (wn0 (wpAny_bind [29]));refine ih (m + 1) d' _ [1] (a5.up (Nat.le_succ _)) (λ l hl=>?_) rfl;by_cases c2:l < m
     ·exact H l c2
     ·have:l=m:=by omega
      subst this;refine ⟨(by rw [a2]; intro z; cases z),λ i' z y hy=>?_⟩;rw [a2] at z;cases z;rw [hx] at hy;cases hy;exact c
   ·rw [he];dsimp only;refine wpAny_bind (wpAny_holding (wpAny_eqBool_tuple hu hkx hk ?_));refine wpAny_bind [37];dsimp only;by_cases c:x.1=k
    ·rw [decide_eq_true (congrArg TKy.kI c)];have fd:=found i x.2 (by rw [hx,<- c]);cases adding
     ·rw [sm];simp only [Bool.false_and,Bool.false_eq_true,if_false,if_true];rw [a2];dsimp only;rw [he];dsimp only;refine wpAny_bind (wn0 (wpAny_bind [29]));exact wpAny_pure fd
     ·exact wpAny_pure fd
    ·rw [decide_eq_false (λ z=>c (TKy.inj z)),sm];simp only [Bool.and_false,Bool.false_eq_true,if_false,if_true];rw [a2];dsimp only;rw [he];dsimp only;refine wpAny_bind (wn0 (wpAny_bind [29]));refine ih (m + 1) d' _ [1] (a5.up (Nat.le_succ _)) (λ l hl=>?_) rfl;by_cases c2:l < m
     ·exact H l c2
     ·have:l=m:=by omega
      subst this;refine ⟨(by rw [a2]; intro z; cases z),λ i' z y hy=>?_⟩;rw [a2] at z;cases z;rw [hx] at hy;cases hy;exact c
 ·next hne =>
  rcases uy0 S.ok S.rm kd rfl with ⟨m,d',e,a1,a2,a3,a4⟩ | ⟨m,i,d',e,a1,a2,a3,a4,a5⟩
  ·exact (hne _ e).elim
  ·exact (hne _ e).elim
theorem uo1 {k:α} {b:Addr} {adding:Bool} {Q:SetFound->Shared->Prop} (hu:A.units < cLine) (S:SetIs prog w hf s.heap a o es ep t xs) (hk:TK prog w s.heap k b)
    (found:∀ i b',xs[i]?=some (k,b')->Q (.there (if adding then none else some i)) s)
    (free:[31])
    (N:Nat) (hN:t.slot (tr t.mask (hf k) N)=.empty) (r:Nat):∀ (fuel n:Nat) (d:Option Nat) (stand:Option SetTable.Probe),N < n + r->r<=fuel->DumOk t (hf k) d n->Hist hf t xs k n ->
    stand.getD (t.probeStart (hf k))={ trS t.mask (hf k) n with dummy:=d } ->
    wpAny [4] A (setSearchFrom a (.ref b) (hf k) adding fuel stand) Q E s:=by
 induction r with
 | zero =>
  intro fuel n d stand h1 h2 kd hist st;exact absurd hN (hist N [1]).1
 | succ r ih =>
  intro fuel n d stand h1 h2 kd hist st;cases fuel with
  | zero=>omega
  | succ fuel=>exact xd1 hu S hk found free kd hist st λ n' d' stand' a1 a2 a3 a4=>ih fuel n' d' stand' [1] [1] a2 a3 a4
end
section
variable {α:Type} [TKy α] {prog:Program} {w:World} {A:Around} {E:[2]} {s:Shared} {a:Addr} {o:Obj} {es:Array (Int × Value)} {ep:Nat} {t:SetTable} {xs:List (α × Addr)} {hf:α->Int}
theorem sl0:∀ m ∈ okM,7<=m /\ m<=4095:=by decide
theorem xy0 {k:α} {b:Addr} {adding:Bool} {Q:SetFound->Shared->Prop} (hu:A.units < cLine) (S:SetIs prog w hf s.heap a o es ep t xs) (hk:TK prog w s.heap k b)
    (found:∀ i b',xs[i]?=some (k,b')->Q (.there (if adding then none else some i)) s)
    (free:[31]) :
    wpAny [4] A (setSearch a (.ref b) (hf k) adding) Q E s:=by
 obtain ⟨e,he,ee⟩:=S.ok.hole S.rm;obtain ⟨N,_,h2,h3⟩:=xg1 S.ok.msk (hf k) 0 he;have hm:=sl0 _ S.ok.msk;unfold SetTable.turns at h2;unfold setSearch;refine uo1 hu S hk found free N (by rw [h3]; exact ee) (N + 1) _ 0 none none [1] [1] (λ x z=>by cases z) (λ l hl=>absurd hl (Nat.not_lt_zero _)) ?_;rfl
theorem yp2 (b:Addr) (es:Array (Int × Value)):byScan (.ref b) es=false:=by simp [byScan,Value.scannable]
theorem SetIs.store {h:Heap} (S:SetIs prog w hf h a o es ep t xs) {xs':List (α × Addr)} {es':Array (Int × Value)} {t':SetTable} (el:es'.toList=xs'.map (ent hf)) (ks:∀ x ∈ xs',TK prog w h x.1 x.2) (nd:(xs'.map (·.1)).Nodup)
    (ok:TOk t' (xs'.map λ x=>hf x.1)) (rm:t'.fill<=t'.mask) (pl:t'.plain=true) (le:t'.led = !bT prog w) :
    SetIs prog w hf (h.update a (Obj.putSet es' t')) a { o with data:=.set es' (ep + 1) t' } es' (ep + 1) t' xs':=by
 have hg:(h.update a (Obj.putSet es' t')).get? a=some { o with data:=.set es' (ep + 1) t' }:=by
  have:=Heap.get?_update_self (Obj.putSet es' t') S.ho (by rw [putSet_of es' t' S.hd]; rfl);rw [putSet_of es' t' S.hd] at this; exact this
 refine ⟨hg,S.ex,rfl,el,λ x hx=>(ks x hx).kept λ o' e1 e2=>?_,nd,ok,rm,pl,le⟩;rw [Heap.get?_update_ne _ _ _ _ (λ z=>?_)]
 ·exact e1
 ·rw [z,S.ho] at e1;cases e1;rw [S.ex.1] at e2;injection e2 with e
  exact absurd e [20]
theorem to3 {α β:Type} {m m':Sem α} {g:α->Sem β} {Q:β->Shared->Prop} (e:m=m') (h:wpAny [4] A (m' >>= g) Q E s):wpAny [4] A (m >>= g) Q E s:=by rw [e]; exact h
theorem sk2 {α:Type} {fe:α->Int × Value} {xs:List α} {es:Array (Int × Value)} (d:α) {mk fi mo:Nat} {le pl:Bool} (m1:mk ∈ okM) (hl:xs.length<=mk + 1) (eel:es.toList=xs.map (fe)) :
    ∃ t' order,∃ xs':List α,SetTable.laid mk fi mo le pl (es.map (·.1))=some (t',order) /\ (order.filterMap λ k=>es[k]?).toList=xs'.map (fe) /\ xs'.Perm xs /\ (order.filterMap λ k=>es[k]?).size=es.size /\ TOk t' (xs'.map λ x=>(fe x).1) /\ t'.mask=mk /\ t'.dummies = #[] /\ t'.led=le /\ t'.plain=pl /\ order.toList.Perm (List.range xs.length):=by
 have sz:es.size=xs.length:=by rw [<- length_toList,eel,length_map]
 have hat:∀ i:Nat,es[i]?=(xs[i]?).map (fe):=λ i=>by rw [<- getElem?_toList,eel,getElem?_map]
 obtain ⟨t',order,e1,e2,e3,e4,e5,e6,e7,e8,e9⟩:=tu2 m1 (es.map (·.1)) (by rw [size_map,sz]; omega) fi mo le pl;rw [size_map,sz] at e8;have olt:∀ k ∈ order.toList,k < xs.length:=λ k hk=>List.mem_range.mp (e8.mem_iff.mp hk)
 have fm:∀ (l:List Nat),(∀ k ∈ l,k < xs.length)->l.filterMap (λ k=>es[k]?)=(l.map λ k=>xs.getD k d).map (fe):=λ l=>by
  induction l with
  | nil=>intro _; rfl
  | cons k l ih =>
   intro hl;have hk:=hl k (mem_cons_self ..);rw [List.filterMap_cons_some (b:=fe (xs.getD k d)),ih λ j hj=>hl j (mem_cons_of_mem _ hj),map_cons,map_cons];rw [hat,getD_eq_getElem?_getD,getElem?_eq_getElem hk];simp only [Option.map_some,Option.getD_some]
 have fm':(order.filterMap λ k=>es[k]?).toList=(order.toList.map λ k=>xs.getD k d).map (fe):=by rw [Array.toList_filterMap]; exact fm _ olt
 have pm:(order.toList.map λ k=>xs.getD k d).Perm xs:=by
  refine (e8.map _).trans (List.Perm.of_eq ?_);apply List.ext_getElem
  ·simp
  ·intro i h1 h2;simp [getD_eq_getElem?_getD,getElem?_eq_getElem h2]
 have hz:(order.filterMap λ k=>es[k]?).size=es.size:=by rw [<- length_toList,fm',length_map,pm.length_eq,sz]
 have hok:TOk t' ((order.toList.map λ k=>xs.getD k d).map λ x=>(fe x).1):=by
  have:(order.toList.map λ k=>(es.map (·.1)).getD k 0)=(order.toList.map λ k=>xs.getD k d).map λ x=>(fe x).1:=by
   rw [map_map];refine List.map_congr_left λ k hk=>?_;have hl:=olt k hk;have hl2:k < es.size:=by omega
   have q:es[k]?=some (fe (xs.getD k d)):=by
    rw [hat,getD_eq_getElem?_getD,getElem?_eq_getElem hl];simp only [Option.map_some,Option.getD_some]
   rw [Array.getElem?_eq_getElem hl2] at q;injection q with q
   simp only [Array.getD,size_map,hl2,dite_true,Array.getInternal_eq_getElem,Array.getElem_map,q,Function.comp]
  rw [<- this];exact e9
 exact ⟨t',order,_,e1,fm',pm,hz,hok,e2,e3,e4,e5,e8⟩
theorem vp1 {Q:Unit->Shared->Prop} {wd:Nat} (S:SetIs prog w hf s.heap a o es ep t xs) (m1:SetTable.sizeAbove wd - 1 ∈ okM) (m2:xs.length * 5 < (SetTable.sizeAbove wd - 1) * 3) (m3:SetTable.sizeAbove wd<=2048)
    (h:∀ h' o' es' ep' t' xs',Heap.SameBut a s.heap h'->SetIs prog w hf h' a o' es' ep' t' xs'->xs'.Perm xs->t'.fill * 5 < t'.mask * 3->t'.mask=SetTable.sizeAbove wd - 1->t'.dummies = #[]->Q () { s with heap:=h' }) :
    wpAny [4] A (setRelay a wd) Q E s:=by
 have sz:=S.size;have mm:=sl0 _ m1;have sl:SetTable.sizeAbove wd<=sizeLine:=by rw [sizeLine_eq]; omega
 obtain ⟨t',order,xs',e1,fm',pm,hz,hok,e2,e3,e4,e5,_⟩:=sk2 (fe:=ent hf) (TKy.dd,0) (fi:=t.finger) (mo:=t.movedTo (SetTable.sizeAbove wd - 1)) (le:=t.led) (pl:=t.plain) m1 [1] S.el;have el:t.relaid (es.map (·.1)) wd=some (t',order):=e1
 have rm:t'.fill * 5 < t'.mask * 3:=by
  have h1:=hok.sz;rw [length_map,pm.length_eq] at h1;unfold SetTable.fill;rw [h1,e3,e2];simpa using m2
 have hm:=sl0 _ hok.msk;unfold setRelay;refine wpAny_bind [37];dsimp only;rw [if_neg [1],el];refine to3 (m':=if ((order.filterMap λ k=>es[k]?).size != es.size)=true then (unsupported "internal:set-table-lost-an-element" >>= λ (_:PUnit)=>pure ((order.filterMap λ k=>es[k]?),t')) else pure ((order.filterMap λ k=>es[k]?),t')) rfl ?_;rw [hz];simp only [bne_self_eq_false,Bool.false_eq_true,if_false];refine wpAny_bind (wpAny_pure (wpAny_storeSet_of S.ho S.hd ?_ (by rw [hz,sz,sizeLine_eq]; omega)));exact h _ _ _ _ _ _ (Heap.SameBut.update _ a _) (S.store fm' (λ x hx=>S.ks x (pm.mem_iff.mp hx)) ((pm.map _).nodup_iff.mpr S.nd) hok (show t'.fill<=t'.mask by omega) (by rw [e5]; exact S.pl) (by rw [e4]; exact S.le)) pm rm e2 e3
theorem vc2 {Q:Unit->Shared->Prop} {n:Nat} (S:SetIs prog w hf s.heap a o es ep t xs) (hn:xs.length < 512) (en:n=xs.length)
    (h:∀ h' o' es' ep' t' xs',Heap.SameBut a s.heap h'->SetIs prog w hf h' a o' es' ep' t' xs'->xs'.Perm xs->t'.fill * 5 < t'.mask * 3->Q () { s with heap:=h' }) :
    wpAny [4] A (setRelay a (n * 4)) Q E s:=by
 subst en;obtain ⟨m1,m2,m3⟩:=ym0 _ hn;exact vp1 S m1 m2 m3 λ h' o' es' ep' t' xs' q1 q2 q3 q4 _ _=>h h' o' es' ep' t' xs' q1 q2 q3 q4
def SetG {α:Type} [TKy α] (prog:Program) (w:World) (hf:α->Int) (h:Heap) (a:Addr) (xs:List (α × Addr)):Prop:=∃ o es ep t,SetIs prog w hf h a o es ep t xs /\ t.fill * 5 < t.mask * 3
theorem uo3 {k:α} {b:Addr} {Q:Bool->Shared->Prop} (hu:A.units < cLine) (S:SetG prog w hf s.heap a xs) (hk:TK prog w s.heap k b) (hn:xs.length + 1 < 512)
    (old:k ∈ xs.map (·.1)->Q false s)
    (new:k ∉ xs.map (·.1)->∀ h' xs',Heap.SameBut a s.heap h'->SetG prog w hf h' a xs'->xs'.Perm ((k,b) :: xs)->Q true { s with heap:=h' }):wpAny [4] A (setAddHashed a (.ref b) (hf k)) Q E s:=by
 obtain ⟨o,es,ep,t,S,rm5⟩:=S;have hm:=sl0 _ S.ok.msk;have sz:=S.size;unfold setAddHashed setAddHashedIn;refine wpAny_holding (wpAny_bind [37]);dsimp only;rw [yp2];simp only [Bool.false_eq_true,if_false];refine wpAny_bind (xy0 hu S hk (λ i b' e=>?_) λ sl wd nk ns rc wdd=>?_)
 ·exact wpAny_pure (old (List.mem_map.mpr ⟨_,mem_of_getElem? e,rfl⟩))
 ·dsimp only;refine wpAny_bind [37];dsimp only;have ok':=S.ok.put ns rc;have f1:=uh1 S.ok (x:=sl);have pl':(t.put sl).1.plain=true:=S.pl;have mk':(t.put sl).1.mask=t.mask:=rfl;rw [pl'];simp only [if_true];refine wpAny_bind (zh2 hk ?_);simp only [if_true]
  have el':(SetTable.insertAt es (t.put sl).2 (hf k,Value.ref b)).toList=(insL xs (SetTable.below t.place sl) (k,b)).map (ent hf):=by
   rw [SetTable.toList_insertAt,sn0,S.el];rfl
  have pm:(insL xs (SetTable.below t.place sl) (k,b)).Perm ((k,b) :: xs):=by
   unfold insL;exact List.perm_middle.trans (List.Perm.cons _ (List.Perm.of_eq (take_append_drop _ _)))
  have sz':(SetTable.insertAt es (t.put sl).2 (hf k,Value.ref b)).size=xs.length + 1:=by rw [<- length_toList,el',length_map,ue0]
  have S':=S.store el' (λ x hx=>by
   rcases (tn0 _ _ _ _).mp hx with rfl | hx
   ·exact hk
   ·exact S.ks x hx) ((pm.map _).nodup_iff.mpr (List.nodup_cons.mpr ⟨nk,S.nd⟩)) (by rw [sn0]; exact ok') (by rw [mk']; omega) pl' S.le
  refine wpAny_bind (wpAny_storeSet_of S.ho S.hd ?_ (by rw [sz',sizeLine_eq]; omega));have sb:=Heap.SameBut.update s.heap a (Obj.putSet (SetTable.insertAt es (t.put sl).2 (hf k,Value.ref b)) (t.put sl).1);split
  ·next c =>
   have gr:SetTable.grown (es.size + 1)=(xs.length + 1) * 4:=by unfold SetTable.grown; rw [if_neg [1],sz]
   rw [gr];refine wpAny_bind (vc2 S' (by rw [ue0]; omega) (by rw [ue0]) λ h' o' es' ep' t' xs' q1 q2 q3 q4=>wpAny_pure ?_);exact new nk h' xs' (sb.trans q1) ⟨_,_,_,_,q2,q4⟩ (q3.trans pm)
  ·next c =>
   refine wpAny_pure (new nk _ _ sb ⟨_,_,_,_,S',?_⟩ pm);cases wd with
   | true =>
    have f2:=sl1 S.ok (wdd rfl);rw [mk'];omega
   | false =>
    simp only [Bool.not_false,Bool.true_and,SetTable.tooFull,decide_eq_true_eq] at c;omega
end
def Got {α:Type} (P:Nat->Value->Prop) (ks:Nat->α) (i:Nat) (xs:List (α × Addr)):Prop:=(∀ x ∈ xs,∃ j,j < i /\ P j (.ref x.2) /\ ks j=x.1) /\ ∀ j,j < i->ks j ∈ xs.map (·.1)
def KpH (h h':Heap):Prop:=∀ b o,h.get? b=some o->h'.get? b=some o
section
variable {α:Type} [TKy α] {prog:Program} {w:World} {A:Around} {E:[2]} {R:Result->Shared->Prop} {s:Shared} {hf:α->Int}
theorem SetG.nd {h:Heap} {a:Addr} {xs:List (α × Addr)} (S:SetG prog w hf h a xs):(xs.map (·.1)).Nodup:=by
 obtain ⟨o,es,ep,t,S,_⟩:=S;exact S.nd
theorem SetG.keep {h h':Heap} {a:Addr} {xs:List (α × Addr)} (S:SetG prog w hf h a xs) (k1:∀ o,h.get? a=some o->h'.get? a=some o) (k2:∀ x ∈ xs,TK prog w h' x.1 x.2):SetG prog w hf h' a xs:=by
 obtain ⟨o,es,ep,t,S,q⟩:=S;exact ⟨o,es,ep,t,⟨k1 o S.ho,S.ex,S.hd,S.el,k2,S.nd,S.ok,S.rm,S.pl,S.le⟩,q⟩
theorem Got.len {P:Nat->Value->Prop} {ks:Nat->α} {i n:Nat} {xs:List (α × Addr)} (g:Got P ks i xs) (hi:i<=n) (nd:(xs.map (·.1)).Nodup) (B:∀ l:List α,l.Nodup->(∀ x ∈ l,∃ j,j < n /\ ks j=x)->l.length < 511):xs.length < 511:=by
 have:=B _ nd λ x hx=>by
  obtain ⟨y,hy,rfl⟩:=List.mem_map.mp hx;obtain ⟨j,h1,_,h2⟩:=g.1 y hy;exact ⟨j,by omega,h2⟩
 rwa [length_map] at this
theorem yp3 {I S:Addr} {fp wr:List Addr} {n:Nat} {P:Nat->Value->Prop} {St:Nat->Heap->Prop} {h0:Heap} {J:Nat->Heap->Prop} (W:Walks prog w A.in1 I fp wr n P St) (hS:S ∉ fp)
    (low:∀ b ∈ S :: wr,h0.objs.size<=b) (kj:∀ i h h',i<=n->J i h->KpH h0 h'->(∀ o,h.get? S=some o->h'.get? S=some o)->J i h')
    (ad:∀ i v (s:Shared) (Q:Bool->Shared->Prop) (E:[2]),i < n->P i v->KpH h0 s.heap->J i s.heap->(∀ b h' tk,Heap.SameBut S s.heap h'->J (i + 1) h'->Q b [32])->wpAny [4] A.in1 (setAdd S v) Q E s) :
    ∀ (k i:Nat) (s:Shared),n - i=k->i<=n->St i s.heap->KpH h0 s.heap->J i s.heap->(∀ h' tk,KpH h0 h'->J n h'->R (.ok (.ret .none)) [32]) ->
     codeAny [4] A (.builtin "set.update.loop" ⟨[.ref S,.ref I],[]⟩) R s:=by
 have nw:S ∉ wr:=λ h=>hS (W.sub _ h)
 have nl:∀ {b:Addr} {o:Obj},h0.get? b=some o->b ∉ wr /\ b ≠ S:=λ {b o} e =>
  ⟨λ z=>absurd (Heap.lt_size e) (Nat.not_lt.mpr (low b (mem_cons_of_mem _ z))),λ z=>absurd (Heap.lt_size e) (Nat.not_lt.mpr (low b (by rw [z]; exact mem_cons_self ..)))⟩
 intro k
 induction k with
 | zero =>
  intro i s hk hi st kp sg q;have:i=n:=by omega
  subst this;refine codeAny_builtin F.entry_set_update_loop ?_;rw [Around.under_plainId F.plain_set_update_loop _];show wpAny _ A.in1 (pyNext (.ref I) >>= _) _ _ s;refine wpAny_bind (W.done s _ _ st λ h1 tk km=>?_);show wpAny _ A.in1 (ret Value.none) _ _ _;have kp1:KpH h0 h1:=λ b o e=>km b o (nl e).1 (kp b o e);exact wpAny_pure (q h1 tk kp1 (kj _ _ _ hi sg kp1 λ o e=>km S o nw e))
 | succ k ih =>
  intro i s hk hi st kp sg q;have lt:i < n:=by omega
  refine codeAny_builtin F.entry_set_update_loop ?_;rw [Around.under_plainId F.plain_set_update_loop _];show wpAny _ A.in1 (pyNext (.ref I) >>= _) _ _ s;refine wpAny_bind (W.item i s _ _ lt st λ v h1 tk hP st1 km=>?_);have kp1:KpH h0 h1:=λ b o e=>km b o (nl e).1 (kp b o e);show wpAny _ A.in1 (holding [v] (setAdd S v) >>= _) _ _ _;refine wpAny_bind (wpAny_holding (ad i v { s with heap:=h1,toks:=tk } _ _ lt hP kp1 (kj _ _ _ hi sg kp1 λ o e=>km S o nw e) λ b h2 tk2 sb sg2=>?_));have kp2:KpH h0 h2:=λ b o e=>by rw [sb.2 b (nl e).2]; exact kp1 b o e
  refine wpAny_pure ⟨plainId_quiet F.plain_set_update_loop _,ih (i + 1) { s with heap:=h2,toks:=tk2 } [1] lt (W.frame _ h1 _ st1 λ b hb o e=>?_) kp2 sg2 λ h' tk' a b=>q h' tk' a b⟩;rw [sb.2 b (λ z=>hS (by rw [<- z]; exact hb))]; exact e
def nset (b:Bool):Obj:={ cls:=.type "set",dict:=none,data:=.set #[] 0 (.fresh 0 0 b) }
theorem to2 (v:Value) {Q1:[2]} (h:Q1 (.ref s.heap.objs.size) { s with heap:=s.heap.push (nset (!bT prog w)) }):codeAny [4] A (.call (.builtin "set.__new__") ⟨[.type "set",v],[]⟩) (wants Q1 E) s:=by
 refine codeAny_of_tree ?_;show wpAny _ A.in1 (do checkBuiltinCall "set.__new__" ⟨[.type "set",v],[]⟩; again (.builtin "set.__new__" ⟨[.type "set",v],[]⟩)) _ _ s;refine wpAny_bind (wpAny_of_eq (F.newCall_set_1 v) (wpAny_pure ⟨plainId_quiet F.plain_set_new _,codeAny_builtin F.entry_set_new ?_⟩));rw [Around.under_plainId F.plain_set_new _]; unfold Builtin.«set.__new__» Builtin.Frozenset.newClass;have ss:=sub_set_self;obtain ⟨hp,g,d,tk,os⟩:=s;dsimp only; wp_walk;refine wpAny_askSetting [29]; dsimp only; simp only [newObj];refine wpAny_bind (wpAny_alloc [29]); exact wpAny_pure h
theorem set0 {h:Heap} {a:Addr} (e:h.get? a=some (nset (!bT prog w))):SetG prog w hf h a []:=by
 refine ⟨_,#[],0,.fresh 0 0 (!bT prog w),⟨e,?_,rfl,rfl,(λ x hx=>nomatch hx),nodup_nil,?_,(show 0<=7 by decide),rfl,rfl⟩,(show 0 * 5 < 7 * 3 by decide)⟩
 ·exact ⟨rfl,rfl,rfl⟩
 ·refine ⟨by simp [Rise,SetTable.fresh],by simp [Rise,SetTable.fresh],(λ j h=>by simp [SetTable.fresh] at h),(λ j h=>by simp [SetTable.fresh] at h),(λ j h=>by simp [SetTable.fresh] at h),(show 7 ∈ okM by decide),rfl,(λ i j h z=>by simp [SetTable.fresh] at z)⟩
theorem xb3 {l:Addr} {items:Array Value} {J:Nat->Heap->Prop} {Q:[2]} (hh:A.handled=none) (hl:s.heap.IsList l items)
    (kj:∀ i h h',i<=items.size->J i h->KpH s.heap h'->(∀ o,h.get? s.heap.objs.size=some o->h'.get? s.heap.objs.size=some o)->J i h')
    (ad:∀ i v (s':Shared) (Q:Bool->Shared->Prop) (E:[2]),i < items.size->items[i]?=some v->KpH s.heap s'.heap->J i s'.heap->(∀ b h' tk,Heap.SameBut s.heap.objs.size s'.heap h'->J (i + 1) h'->Q b { s' with heap:=h',toks:=tk })->wpAny [4] A.in1.in1.in1 (setAdd s.heap.objs.size v) Q E s')
    (j0:∀ h:Heap,h.get? s.heap.objs.size=some (nset (!bT prog w))->J 0 h)
    (h:∀ (h':Heap) (tk:Nat),KpH s.heap h'->J items.size h'->Q (.ref s.heap.objs.size) [32]) :
    wpAny [4] A (call (.type "set") [.ref l]) Q E s:=by
 obtain ⟨c,tl,emro⟩:=F.called_set.mro;have e0:=F.called_set.made;have e1:=F.called_set.sub;refine wpAny_call (codeAny_of_tree ?_); show wpAny _ _ (callAny (.type "set") _) _ _ _;refine wpAny_pure ⟨Code.quiet_builtin _ [13],codeAny_builtin F.entry_type_call ?_⟩; rw [Around.under_plain (weight_type_call_type "set" [.ref l] []) rfl];have e2:=F.called_set.notType;have e3:=F.called_set.canCreate;have e4:=F.typeCall_set_1 (.ref l)
 repeat (any_goals (first | assumption | wp_step))
 refine codeAny_mono (to2 (.ref l) (E:=E) (Q1:=λ obj s1=>obj=.ref s.heap.objs.size /\ s1={ s with heap:=s.heap.push (nset (!bT prog w)) }) ⟨rfl,rfl⟩) λ r s1 hr=>?_;cases r with
 | error e=>exact hr
 | ok fl =>
  cases fl with
  | ret obj =>
   obtain ⟨rfl,rfl⟩:=hr;have gS:(s.heap.push (nset (!bT prog w))).get? s.heap.objs.size=some (nset (!bT prog w)):=Heap.get?_push_size _ rfl;have tS:Shared.TypeIs { s with heap:=s.heap.push (nset (!bT prog w)) } (.ref s.heap.objs.size) "set" := ⟨_,gS,rfl⟩;have e5:=F.called_set.init.lookup;have e6:=F.called_set.init.bind (.ref s.heap.objs.size)
   repeat (any_goals (first | assumption | wp_step))
   refine codeAny_mono (codeAny_call_builtin (R:=wants (λ r s2=>r=.none /\ ∃ h' tk,s2=[32] /\ KpH s.heap h' /\ J items.size h') E) F.called_set.init.plain F.entry_set_init (check_set_init_1 tS ?_)) λ r2 s2 hr2=>?_
   ·obtain ⟨ol,gl,cl,nl,dl⟩:=hl;obtain ⟨ocls,odict,odata,oslots⟩:=ol;simp only at cl dl;subst cl; subst dl;have gl':(s.heap.push (nset (!bT prog w))).get? l=some { cls:=.type "list",dict:=odict,data:=.seq items nl,slots:=oslots }:=Heap.get?_push_of_some _ gl;have f1:=F.sub_list_set;have f2:=F.sub_list_frozenset;have f3:(Value.type "list" == Value.type "dict")=false:=by decide
    have il:(s.heap.push (nset (!bT prog w))).IsList l items:=⟨_,gl',rfl,nl,rfl⟩;unfold Builtin.«set.__init__» noKeywords Builtin.Frozenset.updateFrom;generalize hPI:pyIter=PI
    wp_walk
    subst hPI; refine wpAny_pyIter_list il ?_; refine wpAny_bind (wpAny_runValue ?_);have ls:l < s.heap.objs.size:=Heap.lt_size gl;have z1:(s.heap.push (nset (!bT prog w))).objs.size=s.heap.objs.size + 1:=Heap.size_push ..;have ni:l ≠ (s.heap.push (nset (!bT prog w))).objs.size:=by rw [z1]; exact Nat.ne_of_lt (Nat.lt_succ_of_lt ls)
    refine yp3 (A:=A.in1.in1) (h0:=s.heap) (J:=J) (Walks.list (show A.in1.in1.in1.handled=none by simp [hh]) _ l ni items) (S:=s.heap.objs.size) ?_ ?_ kj (λ i v s' Q E lt e=>ad i v s' Q E lt e) (items.size - 0) 0 _ [1] (Nat.zero_le _) ?_ ?_ ?_ ?_
    ·rw [z1];intro z;rcases List.mem_cons.mp z with z | z
     ·exact Nat.ne_of_lt (Nat.lt_succ_self _) z
     ·rcases List.mem_cons.mp z with z | z
      ·exact Nat.ne_of_gt ls z
      ·cases z
    ·intro b hb;rcases List.mem_cons.mp hb with rfl | hb
     ·exact Nat.le_refl _
     ·rcases List.mem_cons.mp hb with rfl | hb
      ·rw [z1]; exact Nat.le_succ _
      ·cases hb
    ·exact ⟨⟨_,Heap.get?_push_size _ rfl,rfl,rfl⟩,il.push _⟩
    ·exact λ b o e=>Heap.get?_push_of_some _ (Heap.get?_push_of_some _ e)
    ·exact j0 _ (Heap.get?_push_of_some _ gS)
    ·intro h' tk kp sg;show wpAny _ _ _ _ _ _;refine wpAny_pure ?_;show wpAny _ _ (ret Value.none) _ _ _;exact wpAny_pure ⟨rfl,h',tk,rfl,kp,sg⟩
   ·cases r2 with
    | error e=>exact hr2
    | ok fl2 =>
     cases fl2 with
     | ret r =>
      obtain ⟨rfl,h',tk,rfl,kp,sg⟩:=hr2
      repeat (any_goals (first | assumption | wp_step))
      exact h _ _ kp sg
     | _=>exact hr2.elim
  | _=>exact hr.elim
theorem yn0 {l:Addr} {items:Array Value} {ks:Nat->α} {Q:[2]} (hh:A.handled=none) (hu:A.units + 16 < cLine) (hl:s.heap.IsList l items)
    (hi:∀ i v,i < items.size->items[i]?=some v->∃ b,v=.ref b /\ TK prog w s.heap (ks i) b) (B:∀ l:List α,l.Nodup->(∀ x ∈ l,∃ j,j < items.size /\ ks j=x)->l.length < 511)
    (h:∀ (h':Heap) (tk:Nat) xs,KpH s.heap h'->SetG prog w (hT prog w) h' s.heap.objs.size xs->Got (λ i v=>items[i]?=some v) ks items.size xs->Q (.ref s.heap.objs.size) [32]) :
    wpAny [4] A (call (.type "set") [.ref l]) Q E s:=by
 have tkk:∀ {i:Nat} {xs:List (α × Addr)} {h:Heap},i<=items.size->Got (λ i v=>items[i]?=some v) ks i xs->KpH s.heap h->∀ x ∈ xs,TK prog w h x.1 x.2:=λ {i xs h} hn g k x hx=>by
  obtain ⟨j,a1,a2,a3⟩:=g.1 x hx;obtain ⟨b,e,t⟩:=hi j _ [1] a2;cases e;rw [<- a3];exact t.kept λ o e _=>k _ o e
 refine xb3 (J:=λ i h=>∃ xs,SetG prog w (hT prog w) h s.heap.objs.size xs /\ Got (λ i v=>items[i]?=some v) ks i xs) hh hl (λ i h h' hn ⟨xs,sg,g⟩ kp ks'=>⟨xs,sg.keep ks' (tkk hn g kp),g⟩) (λ i v s' Q E lt hP kp ⟨xs,sg,g⟩ q=>?_) (λ h e=>⟨[],set0 e,(λ x hx=>nomatch hx),λ j hj=>absurd hj (Nat.not_lt_zero _)⟩) λ h' tk kp ⟨xs,sg,g⟩=>h h' tk xs kp sg g;obtain ⟨b,rfl,tb0⟩:=hi i v lt hP;have tb:TK prog w s'.heap (ks i) b:=tb0.kept λ o e _=>kp b o e;have ln:=g.len (Nat.le_of_lt lt) sg.nd B;have ua:A.in1.in1.in1.units < cLine:=by show A.units + 1 + 1 + 1 < cLine; omega
 unfold setAdd;refine wpAny_holding (wpAny_bind (yv2 ua tb λ tk2=>?_));refine uo3 (hf:=hT prog w) (s:={ s' with toks:=tk2 }) ua sg tb [1] (λ old=>?_) (λ new h2 xs2 sb sg2 pm=>?_)
 ·refine q _ s'.heap tk2 (Heap.SameBut.refl _ _) ⟨xs,sg,λ x hx=>?_,λ j hj=>?_⟩
  ·obtain ⟨j,a1,a2⟩:=g.1 x hx;exact ⟨j,by omega,a2⟩
  ·by_cases c:j < i
   ·exact g.2 j c
   ·rw [show j=i by omega]; exact old
 ·refine q _ h2 tk2 sb ⟨xs2,sg2,λ x hx=>?_,λ j hj=>?_⟩
  ·rcases List.mem_cons.mp (pm.mem_iff.mp hx) with rfl | hx
   ·exact ⟨i,by omega,hP,rfl⟩
   ·obtain ⟨j,a1,a2⟩:=g.1 x hx;exact ⟨j,by omega,a2⟩
  ·refine (pm.map (·.1)).mem_iff.mpr ?_;by_cases c:j < i
   ·exact mem_cons_of_mem _ (g.2 j c)
   ·rw [show j=i by omega]; exact mem_cons_self ..
end
theorem zd2 {α β:Type} {f:α->β} {l m:List β} (p:l.Perm m):∀ xs:List α,m=xs.map f->∃ ys:List α,ys.Perm xs /\ l=ys.map f:=by
 induction p with
 | nil=>intro xs e; cases xs with
  | nil=>exact ⟨[],.nil,rfl⟩
  | cons _ _=>cases e
 | cons a _ ih =>
  intro xs e;cases xs with
  | nil=>cases e
  | cons x xs =>
   rw [map_cons] at e;injection e with e1 e2
   obtain ⟨ys,p,q⟩:=ih xs e2;exact ⟨x :: ys,p.cons x,by rw [map_cons,e1,q]⟩
 | swap a b l =>
  intro xs e
  match xs,e with
  | x :: y :: xs,e =>
   simp only [map_cons,List.cons.injEq] at e;obtain ⟨e1,e2,e3⟩:=e;exact ⟨y :: x :: xs,.swap x y xs,by rw [map_cons,map_cons,e1,e2,e3]⟩
 | trans _ _ i1 i2 =>
  intro xs e;obtain ⟨ys,p,q⟩:=i2 xs e;obtain ⟨zs,p',q'⟩:=i1 ys q;exact ⟨zs,p'.trans p,q'⟩
theorem tj1 {α:Type}:∀ {l:List α} {i:Nat} (h:i < l.length),(l[i] :: l.eraseIdx i).Perm l
 | x :: l,0,_=>List.Perm.refl _
 | x :: l,i + 1,h=>(List.Perm.swap _ _ _).trans ((tj1 (l:=l) (i:=i) (by simpa using h)).cons x)
theorem vq1 {α:Type} (next:Nat->Nat):∀ (fuel k:Nat) (left:List α) (out:Array α),left.length<=fuel->(pickOrder.go next fuel k left out).toList.Perm (out.toList ++ left)
 | 0,k,left,out,h=>by
  have:left=[]:=List.length_eq_zero_iff.mp [1];subst this;unfold pickOrder.go;rw [append_nil]
 | fuel + 1,k,left,out,h=>by
  unfold pickOrder.go;by_cases c:left=[]
  ·subst c;simp
  ·have lt:next k % left.length < left.length:=Nat.mod_lt _ (List.length_pos_iff.mpr c)
   rw [getElem?_eq_getElem lt];dsimp only;refine (vq1 next fuel (k + 1) _ _ (by rw [List.length_eraseIdx_of_lt lt]; omega)).trans ?_;rw [toList_push,append_assoc];refine List.Perm.append_left _ ?_;exact tj1 lt
theorem wq1 {α:Type} (next:Nat->Nat) (xs:Array α):(pickOrder next xs).toList.Perm xs.toList:=by
 have:=vq1 next xs.size 0 xs.toList #[] [24]
 simpa [pickOrder] using this
theorem xo3 {xs:Array Nat} (h:Rise xs):SetTable.below xs 0=0:=by
 by_cases c:SetTable.below xs 0=0
 ·exact c
 ·have hl:=xl0 h 0;have hz:0 < xs.size:=by omega
  have q:xs[0]?=some xs[0]:=Array.getElem?_eq_getElem hz;have:=(vj0 h 0 q).mp [1];omega
theorem sn3 {xs:Array Nat} (h:Rise xs) {i j:Nat} (q:xs[i]?=some j):SetTable.below xs (j + 1)=i + 1:=by
 have h1:=(vj0 h (j + 1) q).mpr [1];have hl:=xl0 h (j + 1);by_cases c:i + 1 < SetTable.below xs (j + 1)
 ·have hz:i + 1 < xs.size:=by omega
  have q2:xs[i + 1]?=some xs[i + 1]:=Array.getElem?_eq_getElem hz;have a:=(vj0 h (j + 1) q2).mp c;have b:=vl0 h q q2 [1];omega
 ·omega
theorem zr1:Manifest.owners.lookup (String.ofList "set_iterator".toList.reverse.reverse)=some Manifest.sig_set_iterator:=by kernel_rfl
theorem slot_sit:Slot "set_iterator" "__next__" "set_iterator.__next__" := by
 refine .of (owner := "set_iterator") (n := "__next__") ?_ ?_ ?_ ?_ ?_ ?_
 ·rw [typeLookup_type,builtinLookup_eq_fast]; kernel_rfl
 ·decide +kernel
 ·decide +kernel
 ·decide +kernel
 ·first | exact .inl [13] | exact .inr [13]
 ·rw [isSubtype_type]; kernel_rfl
theorem ug1:Slot "set_iterator" "__iter__" "set_iterator.__iter__" := by
 refine .of (owner := "set_iterator") (n := "__iter__") ?_ ?_ ?_ ?_ ?_ ?_
 ·rw [typeLookup_type,builtinLookup_eq_fast]; kernel_rfl
 ·decide +kernel
 ·decide +kernel
 ·decide +kernel
 ·first | exact .inl [13] | exact .inr [13]
 ·rw [isSubtype_type]; kernel_rfl
theorem zb1:entryFor table "set_iterator.__next__" = some Builtin.«set_iterator.__next__» := by exact entryFor_of_tree (by kernel_rfl)
theorem vw1:entryFor table "set_iterator.__iter__" = some Builtin.«dict_keyiterator.__iter__» := by refine entryFor_alias (id' := "dict_keyiterator.__iter__") (by kernel_rfl) ?_ [13] (by kernel_rfl); first | rfl | decide +kernel | (unfold String.splitOn; simp +decide [String.splitOnAux])
theorem zk1 (a:Value):argsOk "set_iterator.__next__" ⟨[a],[]⟩:=by
 unfold argsOk;rw [signature?_of (id := "set_iterator.__next__") (n := "__next__".toList.reverse) (o := "set_iterator".toList.reverse) (by kernel_rfl) zr1]
 kernel_rfl
theorem vh2 (a:Value):argsOk "set_iterator.__iter__" ⟨[a],[]⟩:=by
 unfold argsOk;rw [signature?_of (id := "set_iterator.__iter__") (n := "__iter__".toList.reverse) (o := "set_iterator".toList.reverse) (by kernel_rfl) zr1]
 kernel_rfl
theorem zn1:entryFor table "set.__iter__" = some Builtin.«frozenset.__iter__» := by exact entryFor_alias (id' := "frozenset.__iter__") (by kernel_rfl) rfl [13] (by kernel_rfl)
def SIt (h:Heap) (it a:Addr) (sl i n ep:Nat):Prop:=∃ o,h.get? it=some o /\ o.cls=.type "set_iterator" /\ o.data=.fields #[rawInt sl,rawInt i,.ref a,rawInt n,rawInt ep]
theorem SIt.keep {h h':Heap} {it a:Addr} {sl i n ep:Nat} (x:SIt h it a sl i n ep) (k:∀ o,h.get? it=some o->h'.get? it=some o):SIt h' it a sl i n ep:=by
 obtain ⟨o,e1,e2⟩:=x;exact ⟨o,k o e1,e2⟩
theorem SIt.ty {s:Shared} {it a:Addr} {sl i n ep:Nat} (x:SIt s.heap it a sl i n ep):s.TypeIs (.ref it) "set_iterator" := by
 obtain ⟨o,e1,e2,_⟩:=x;exact ⟨o,e1,e2⟩
theorem zw1 {h:Heap} {it:Addr} {o:Obj} {vs:Array Value} {c:Value} (e1:h.get? it=some o) (e2:o.cls=c) (e3:o.data=.fields vs) (j:Nat) (x:Value) :
    ∃ o',(h.update it (Obj.mapFields (·.setIfInBounds j x))).get? it=some o' /\ o'.cls=c /\ o'.data=.fields (vs.setIfInBounds j x) :=
 ⟨_,Heap.get?_update_self _ e1 (Obj.isFreed_of_fields (Obj.data_mapFields e3 _)),(Obj.cls_mapFields ..).trans e2,Obj.data_mapFields e3 _⟩
structure SObj (prog:Program) (w:World) (h:Heap) (a:Addr) (o:Obj) (es:Array (Int × Value)) (ep:Nat) (t:SetTable):Prop where
 ho:h.get? a=some o
 ex:o.ExactSet
 hd:o.data=.set es ep t
 fits:t.fits es.size=true
 ris:Rise t.place
 sz:t.place.size=es.size
 pl:t.plain=true
 le:t.led = !bT prog w
theorem SObj.keep {prog:Program} {w:World} {h h':Heap} {a:Addr} {o:Obj} {es:Array (Int × Value)} {ep:Nat} {t:SetTable} (S:SObj prog w h a o es ep t) (k:∀ o,h.get? a=some o->h'.get? a=some o):SObj prog w h' a o es ep t :=
 ⟨k o S.ho,S.ex,S.hd,S.fits,S.ris,S.sz,S.pl,S.le⟩
theorem SetIs.obj {prog:Program} {w:World} {hf:T3->Int} {h:Heap} {a:Addr} {o:Obj} {es:Array (Int × Value)} {ep:Nat} {t:SetTable} {xs:List (T3 × Addr)} (S:SetIs prog w hf h a o es ep t xs):SObj prog w h a o es ep t :=
 ⟨S.ho,S.ex,S.hd,S.fits,S.ok.ris,by have h1:=S.ok.sz; have h2:=S.size; rw [length_map] at h1; omega,S.pl,S.le⟩
section
variable {prog:Program} {w:World} {A:Around} {E:[2]} {s:Shared} {a it:Addr} {o:Obj} {es:Array (Int × Value)} {ep:Nat} {t:SetTable}
theorem vb2 {Q:[2]} (S:SObj prog w s.heap a o es ep t)
    (q:Q (.ref s.heap.objs.size) { s with heap:=s.heap.push { cls:=.type "set_iterator",data:=.fields #[rawInt (0:Nat),rawInt (0:Nat),.ref a,rawInt es.size,rawInt ep] } }):wpAny [4] A (pyIter (.ref a)) Q E s:=by
 have ty:s.TypeIs (.ref a) "set" := ⟨o,S.ho,S.ex.1⟩;refine wpAny_pyIter_slot ty F.slot_set_iter (wpAny_call_entry F.slot_set_iter ty zn1 ?_ (F.args_set_iter_1 _));unfold Builtin.«frozenset.__iter__» Builtin.Frozenset.slot0 slotArgs;simp only [List.isEmpty_nil,Bool.not_true,Bool.false_eq_true,↓reduceIte,bind_assoc,length_nil,bne_self_eq_false];unfold Builtin.Frozenset.addrOf Builtin.Frozenset.sizeOf;refine wpAny_bind [29]
 try dsimp only
 refine wpAny_bind [29];refine wpAny_bind (wpAny_bind (wpAny_setEntries_of S.ho S.hd S.fits [29]))
 have dr:wpAny [4] A.in1 (setDrawn a) (λ b s'=>b=false /\ s'=s) E s:=by
  unfold setDrawn setsByText;refine wpAny_bind [37];dsimp only;refine wpAny_bind (wpAny_bind (wpAny_askSetting (wpAny_pure (wpAny_pure ⟨?_,rfl⟩))));show (!_ && (!t.plain && _))=false;rw [S.pl];simp
 refine wpAny_bind (wpAny_mono dr (λ b s' h=>?_) λ _ _ h=>h);obtain ⟨rfl,rfl⟩:=h;simp only [Bool.false_eq_true,if_false];refine wpAny_bind [29];refine wpAny_bind (wpAny_setEpoch_of S.ho S.hd S.fits ?_);refine wpAny_bind (wpAny_newObj_type (wpAny_pure ⟨_,rfl, "set_iterator",_,⟨_,Heap.get?_push_size _ rfl,rfl⟩,slot_sit.lookup,q⟩))
def ordS (prog:Program) (w:World) (a:Addr) (ep:Nat) (es:Array (Int × Value)):Array (Int × Value):=if bT prog w=true then pickOrder ([4].w.params.setOrder a ep) es else es
theorem th1:(ordS prog w a ep es).toList.Perm es.toList:=by
 unfold ordS;split
 ·exact wq1 _ _
 ·exact List.Perm.refl _
theorem xw0:(ordS prog w a ep es).size=es.size:=by
 have:=(th1 (prog:=prog) (w:=w) (a:=a) (ep:=ep) (es:=es)).length_eq;simpa using this
theorem sr0 {Q:Option (Value × Nat)->Shared->Prop} (S:SObj prog w s.heap a o es ep t) {sl i:Nat} (hb:bT prog w=false->SetTable.below t.place sl=i)
    (some':∀ e nx,(ordS prog w a ep es)[i]?=some e->(bT prog w=false->SetTable.below t.place nx=i + 1)->Q (some (e.2,nx)) s) (none':(ordS prog w a ep es)[i]?=none->Q none s) :
    wpAny [4] A (setNext a sl i ep) Q E s:=by
 unfold setNext setsByText;refine wpAny_bind [37];dsimp only;refine wpAny_bind (wpAny_bind (wpAny_askSetting [29]));unfold ordS at some' none';by_cases c:bT prog w=true
 ·rw [if_pos (show [4].w.params.followText "set-order" = true from c)];rw [if_pos c] at some' none';rw [if_neg [24]];refine wpAny_bind ?_;unfold setWalk setsByText;refine wpAny_bind [37];dsimp only;refine wpAny_bind (wpAny_bind (wpAny_askSetting [29]));rw [if_pos (show [4].w.params.followText "set-order" = true from c)];refine wpAny_bind (wpAny_askSetting (wpAny_pure [29]));show Q (Option.map _ (pickOrder ([4].w.params.setOrder a ep) es)[i]?) s;cases e:(pickOrder ([4].w.params.setOrder a ep) es)[i]? with
  | none=>exact none' e
  | some v=>exact some' v sl e (λ z=>by rw [c] at z; cases z)
 ·have cf:bT prog w=false:=by simpa using c
  rw [if_neg (show ¬ [4].w.params.followText "set-order" = true from c)];rw [if_neg c] at some' none';split
  ·next dr =>
   have:(!t.plain && decide (es.size > 1))=true:=dr;rw [S.pl] at this;cases this
  ·refine wpAny_bind ?_;show wpAny _ _ (ite (_=true) _ (pure PUnit.unit)) _ _ _;rw [if_neg (by rw [S.le,cf]; simp)];refine wpAny_pure [29];rw [hb cf];cases e:es[i]? with
   | none=>exact none' e
   | some v =>
    have hlt:i < t.place.size:=by
     have h1:=S.sz;have:=(Array.getElem?_eq_some_iff.mp e).1;omega
    have q:t.place[i]?=some t.place[i]:=Array.getElem?_eq_getElem hlt;rw [q];exact some' v _ e (λ _=>sn3 S.ris q)
theorem wb2 {Q:Option Value->Shared->Prop} (S:SObj prog w s.heap a o es ep t) {sl i:Nat} (hi:SIt s.heap it a sl i es.size ep) (hb:bT prog w=false->SetTable.below t.place sl=i) (lt:i < es.size)
    (q:∀ h' e nx,(ordS prog w a ep es)[i]?=some e->SIt h' it a nx (i + 1) es.size ep->(bT prog w=false->SetTable.below t.place nx=i + 1)->Heap.SameBut it s.heap h'->Q (some e.2) { s with heap:=h' }):wpAny [4] A (pyNext (.ref it)) Q E s:=by
 obtain ⟨oi,a1,a2,a3⟩:=id hi;have ty:=hi.ty;unfold pyNext;refine wpAny_bind (wpAny_attempt (wpAny_callSpecial?_slot (name:=Str.ofString "__next__") ty slot_sit (wpAny_call_entry slot_sit ty zb1 ?a (zk1 _))))
 case a =>
  unfold Builtin.«set_iterator.__next__»;refine wpAny_bind (m:=slotArgs "__next__" 0 _) [29];refine wpAny_bind (wpAny_fieldsOf a1 a3 ?_);show wpAny _ _ (setEntries a >>= _) _ _ s;refine wpAny_bind (wpAny_setEntries_of S.ho S.hd S.fits ?_);rw [if_neg [24]];show wpAny _ _ (setNext a sl i ep >>= _) _ _ s;refine wpAny_bind (sr0 S hb (λ e nx e1 e2=>?_) λ e=>?_)
  ·show wpAny _ _ (setField (.ref it) 0 (rawInt nx) >>= _) _ _ s;refine wpAny_bind (wpAny_setField a1 a3 [24] ?_);obtain ⟨o1,b1,b2,b3⟩:=zw1 a1 a2 a3 0 (rawInt nx);show wpAny _ _ (setField (.ref it) 1 (rawInt ((i:Int) + 1)) >>= _) _ _ _;refine wpAny_bind (wpAny_setField b1 b3 [24] ?_);obtain ⟨o2,c1,c2,c3⟩:=zw1 b1 b2 b3 1 (rawInt ((i:Int) + 1));show wpAny _ _ (ret e.2) _ _ _;exact wpAny_pure ⟨_,rfl,wpAny_pure (q _ e nx e1 ⟨o2,c1,c2,c3⟩ e2 ((Heap.SameBut.update ..).trans (Heap.SameBut.update ..)))⟩
  ·rw [Array.getElem?_eq_getElem (by rw [xw0]; exact lt)] at e;cases e
theorem vo2 {Q:Option Value->Shared->Prop} (hh:A.handled=none) (S:SObj prog w s.heap a o es ep t) {sl:Nat} (hi:SIt s.heap it a sl es.size es.size ep) (hb:bT prog w=false->SetTable.below t.place sl=es.size)
    (q:∀ h',Heap.ExtBut it s.heap h'->Q none { s with heap:=h' }):wpAny [4] A (pyNext (.ref it)) Q E s:=by
 obtain ⟨oi,a1,a2,a3⟩:=id hi;have ty:=hi.ty;unfold pyNext;refine wpAny_bind (wpAny_attempt (wpAny_callSpecial?_slot (name:=Str.ofString "__next__") ty slot_sit (wpAny_call_entry slot_sit ty zb1 ?a (zk1 _))))
 case a =>
  unfold Builtin.«set_iterator.__next__»;refine wpAny_bind (m:=slotArgs "__next__" 0 _) [29];refine wpAny_bind (wpAny_fieldsOf a1 a3 ?_);show wpAny _ _ (setEntries a >>= _) _ _ s;refine wpAny_bind (wpAny_setEntries_of S.ho S.hd S.fits ?_);rw [if_neg [24]];show wpAny _ _ (setNext a sl es.size ep >>= _) _ _ s;refine wpAny_bind (sr0 S hb (λ e nx e1 e2=>?_) λ e=>?_)
  ·rw [getElem?_eq_none (by rw [xw0]; exact Nat.le_refl _)] at e1;cases e1
  ·show wpAny _ _ (setField (.ref it) 2 .none >>= _) _ _ s; refine wpAny_bind (wpAny_setField a1 a3 [24] ?_);show wpAny _ _ (newExc (.type "StopIteration") [] >>= _) _ _ _; refine wpAny_bind ?_; simp only [newExc,newTuple];refine wpAny_bind (wpAny_newObj_type (wpAny_bind (m:=firstArgMember _ _) (wpAny_of_eq (a:=Value.none) (by first | rfl | (simp only [firstArgMember]; rfl)) (wpAny_newObj_type ?_ (by size_fits)))) (by size_fits));simp only [raiseNew]; refine wpAny_bind (wpAny_handled ?_); rw [show A.in1.handled=none from hh];refine wpAny_bind (wpAny_pure (wpAny_throw ?_)); refine wpAny_bind (wpAny_isInstance (T := "StopIteration") (b:=true) ⟨_,Heap.get?_push_size _ rfl,rfl⟩ isSubtype_stop ?_);exact wpAny_pure (q _ (((Heap.SameBut.update ..).extBut.push _).push _))
theorem zb2 {Q:[2]} {sl i n:Nat} (hi:SIt s.heap it a sl i n ep) (h:Q (.ref it) s):wpAny [4] A (pyIter (.ref it)) Q E s:=by
 have ty:=hi.ty;refine wpAny_pyIter_slot ty ug1 (wpAny_call_entry ug1 ty vw1 ?_ (vh2 _));show wpAny _ _ (ret (.ref it)) _ _ s;exact wpAny_pure ⟨_,rfl, "set_iterator",_,ty,slot_sit.lookup,h⟩
theorem wf2 {Q:Bool->Shared->Prop} (ty:s.TypeIs (.ref a) "set") (h:Q false s):wpAny [4] A (Builtin.List.listLengthHint (.ref a)) Q E s:=by
 unfold Builtin.List.listLengthHint;refine wpAny_bind (wpAny_specialOf ty PySem.F.slot_set_len.lookup ?_); generalize hid:("set.__len__" : String)=id0; wp_delta;rw [show splitId id0=some ("set", "__len__") from by subst hid; decide +kernel]; subst hid;refine wpAny_bind (wpAny_isInstance (T := "set") (b:=true) ty (by rw [isSubtype_type]; kernel_rfl) ?_);refine wpAny_ite_split (λ c=>absurd c [20]) (λ _=>?_); refine wpAny_ite_split (λ _=>?_) (λ c=>absurd [13] c);exact wpAny_bind (wpAny_typeOf ty (wpAny_pure h))
theorem vo1 (hh:A.handled=none) (I a:Addr) (ne:a ≠ I):Walks prog w A I [I,a] [I] es.size (λ i v=>∃ e,(ordS prog w a ep es)[i]?=some e /\ v=e.2)
    (λ i h=>∃ sl,SIt h I a sl i es.size ep /\ (bT prog w=false->SetTable.below t.place sl=i) /\ SObj prog w h a o es ep t) where
 sub:=λ b hb=>by simp at hb; simp [hb]
 frame:=λ _ _ _ z hk=>by
  obtain ⟨sl,z1,z2,z3⟩:=z;exact ⟨sl,z1.keep λ o e=>hk I [24] o e,z2,z3.keep λ o e=>hk a [24] o e⟩
 item:=λ i s Q E hi z q=>by
  obtain ⟨sl,z1,z2,z3⟩:=z;refine wb2 z3 z1 z2 hi λ h' e nx a1 a2 a3 a4=>?_;exact q _ h' s.toks ⟨e,a1,rfl⟩ ⟨nx,a2,a3,z3.keep λ o e=>a4.extBut a o ne e⟩ λ b o hb e=>a4.extBut b o (λ y=>hb (by simp [y])) e
 done:=λ s Q E z q=>by
  obtain ⟨sl,z1,z2,z3⟩:=z;exact vo2 hh z3 z1 z2 λ h' k=>q h' s.toks λ b o hb e=>k b o (λ y=>hb (by simp [y])) e
 self:=λ _ _ _ _ z q=>by
  obtain ⟨sl,z1,_⟩:=z;exact zb2 z1 q
theorem uo2:KdlSrc prog w "set" a a es.size (λ i v=>∃ e,(ordS prog w a ep es)[i]?=some e /\ v=e.2) (λ h=>SObj prog w h a o es ep t) where
 type:=λ _ x=>⟨o,x.ho,x.ex.1⟩
 there:=λ _ x=>⟨Heap.lt_size x.ho,Heap.lt_size x.ho⟩
 keep:=λ _ _ x k=>x.keep λ o e=>k a (.inl rfl) o e
 notList:=by decide
 notTuple:=by decide
 hint:=λ _ _ _ _ x q=>wf2 ⟨o,x.ho,x.ex.1⟩ q
 iter:=λ _ s hh x=>by
  have hl:=Heap.lt_size x.ho;exact ⟨_,_,(λ _ _ q=>vb2 x q),vo1 hh _ a (Nat.ne_of_lt hl),⟨0,⟨_,Heap.get?_push_size _ rfl,rfl,rfl⟩,(λ _=>xo3 x.ris),x.keep λ o e=>Heap.get?_push_of_some _ e⟩⟩
theorem ut1 {acc:Array Value} (h:ItemsOf (λ i v=>∃ e,(ordS prog w a ep es)[i]?=some e /\ v=e.2) acc es.size):acc.toList=(ordS prog w a ep es).toList.map (·.2):=by
 obtain ⟨h1,h2⟩:=h;have h3:=xw0 (prog:=prog) (w:=w) (a:=a) (ep:=ep) (es:=es);apply ext_getElem?;intro i;rw [getElem?_map,getElem?_toList,getElem?_toList];by_cases c:i < es.size
 ·obtain ⟨e,e1,e2⟩:=h2 i (acc[i]'(by omega)) [24];rw [e1,Array.getElem?_eq_getElem [1],e2];rfl
 ·rw [getElem?_eq_none [1],getElem?_eq_none [1]];rfl
theorem wi2:∀ {h:Heap} {ys:List (T3 × Addr)},(∀ x ∈ ys,TK prog w h x.1 x.2)->T3s h (ys.map λ x=>Value.ref x.2) (ys.map (·.1))
 | _,[],_=>trivial
 | _,x :: ys,k=>⟨(k x (mem_cons_self ..)).t3,wi2 λ y hy=>k y (mem_cons_of_mem _ hy)⟩
theorem xl1 {xs:List (T3 × Addr)} {hf:T3->Int} {Q:[2]} (hh:A.handled=none) (S:SetG prog w hf s.heap a xs) (h64:xs.length < 512)
    (h:∀ (ys:List (T3 × Addr)) (p:Array Nat) (h1 h':Heap) (c tk:Nat),ys.Perm xs->p.Perm (List.toArray (List.range ys.length))->Ms.Up (ltI (ys.map (·.1))) p ys.length->(∀ b o,s.heap.get? b=some o->h1.get? b=some o)->(∀ b o,h1.get? b=some o->h'.get? b=some o) ->
     h'.get? h1.objs.size=some (seqObj "list" (outV (ys.map λ x=>Value.ref x.2) p).toArray c)->Q (.ref h1.objs.size) [32]) :
    wpAny [4] A (call (.builtin "sorted") [.ref a]) Q E s:=by
 obtain ⟨o,es,ep,t,S,_⟩:=S;have zs:=S.size;have hz:es.size<=sizeLine:=by rw [sizeLine_eq]; omega
 obtain ⟨ys,py,ey⟩:=zd2 (f:=ent hf) (th1 (prog:=prog) (w:=w) (a:=a) (ep:=ep) (es:=es)) xs S.el;refine Calls.call_function_entry kind_sorted plain_sorted entry_sorted (args_sorted1 _) ?_;unfold Builtin.«sorted»;refine wpAny_bind (m:=checkCount "sorted" 1 1 _) (wpAny_pure (wpAny_bind (kdu_collect (uo2 (o:=o) (t:=t)) hh S.obj hz λ h1 tk acc k1 ia=>?_)));rw [ut1 ia,ey,map_map,show ((λ x:Int × Value=>x.2) ∘ ent hf)=(λ x:T3 × Addr=>Value.ref x.2) from rfl];have l0:=py.length_eq;have l1:(ys.map λ x=>Value.ref x.2).length=ys.length:=length_map _;refine wpAny_bind (wpAny_newList ?_ (by rw [l1,l0,<- zs]; exact hz));have k2:∀ b o,s.heap.get? b=some o->(h1.push (seqObj "list" (ys.map λ x=>Value.ref x.2).toArray 0)).get? b=some o:=λ b o q=>Heap.get?_push_of_some _ (k1 b o q);have zo:(h1.push (seqObj "list" (ys.map λ x=>Value.ref x.2).toArray 0)).get? h1.objs.size=some (seqObj "list" (ys.map λ x=>Value.ref x.2).toArray 0):=Heap.get?_push_size _ rfl;have tt:=Lw.mono (λ _ _=>ti3.kept λ b o e _=>k2 b o e) (wi2 (prog:=prog) (w:=w) (h:=s.heap) (ys:=ys) λ x hx=>S.ks x (py.mem_iff.mp hx));show wpAny _ _ _ _ _ { s with heap:=h1.push (seqObj "list" (ys.map λ x=>Value.ref x.2).toArray 0),toks:=tk };refine wpAny_bind (wpAny_holding (wpAny_call_entry slot_list_sort ⟨_,zo,rfl⟩ entry_list_sort (xe1 (s:={ s with heap:=h1.push (seqObj "list" (ys.map λ x=>Value.ref x.2).toArray 0),toks:=tk }) (ti3.sk tt) [18] zo (λ h' g=>ti3.keep zo g tt) (by rw [l1,l0,sizeLine_eq]; omega) λ p h' c a1 a2 a3 a4=>⟨_,rfl,?_⟩) (args_list_sort _)));rw [l1] at a1 a2;exact wpAny_pure ⟨_,rfl,h ys p h1 h' c tk py a1 a2 k1 (λ b o q=>a3 b o (Nat.ne_of_lt (Heap.lt_size q)) (Heap.get?_push_of_some _ q)) a4⟩
end
abbrev vT (t:T3):List V:=[.int t.1,.int t.2.1,.int t.2.2]
def SB (ts:List T3):Prop:=∀ l:List T3,l.Nodup->(∀ x ∈ l,x ∈ ts)->l.length < 511
abbrev TSt:=L2.St->Hp->(List (T3 × Addr)->Hp->Prop)->Prop
def SE (X:Cx) (pins:[6]) (σ:L2.St) (R:List (T3 × Addr)->Hp->Prop) (u:Value) (s':Shared):Prop :=
 ∃ a xs H',u=.ref a /\ Inv X pins σ H' s' /\ FpOk X pins H' a /\ SetG X.prog X.w (hT X.prog X.w) s'.heap a xs /\ (∀ x ∈ xs,H' x.2=some (.tup (vT x.1))) /\ xs.length < 511 /\ R xs H'
def PSt (X:Cx) (e:Expr) (t:TSt):Prop :=
 ∀ (pins:[6]) (s:Shared) (σ:L2.St) (H:Hp) (R:List (T3 × Addr)->Hp->Prop),Inv X pins σ H s->t σ H R->wpAny [8] X.A (eval e X.env) (SE X pins σ R) X.xe s
theorem vi2 {prog:Program} {w:World} {h:Heap}:∀ {us:[23]} {ts:List T3} {i:Nat} {v:Value},T3s h us ts->us[i]?=some v->i < ts.length /\ ∃ b,v=.ref b /\ TK prog w h (ts.getD i (0,0,0)) b
 | [],[],i,v,_,e=>by simp at e
 | [],_ :: _,_,_,z,_=>z.elim
 | _ :: _,[],_,_,z,_=>z.elim
 | u :: us,t :: ts,0,v,z,e=>by
  simp only [List.getElem?_cons_zero,Option.some.injEq] at e;subst e;obtain ⟨a,o,t1,t2,t3,n,rfl,e2⟩:=id z.1;exact ⟨by simp,a,rfl,(show TK prog w h t a from IsT3.key z.1)⟩
 | u :: us,t :: ts,i + 1,v,z,e=>by
  simp only [getElem?_cons_succ] at e;obtain ⟨h1,b,h2,h3⟩:=vi2 (prog:=prog) (w:=w) z.2 e;exact ⟨by simp only [length_cons]; omega,b,h2,h3⟩
theorem zi2 {K:Fg} {H:Hp}:∀ {vs:List V} {ts:List T3} {us:[23]} {i:Nat} {b:Addr},V3s K H vs ts->Vals vs us->us[i]?=some (.ref b)->H b=some (.tup (vT (ts.getD i (0,0,0))))
 | [],[],_,i,b,_,.nil,e=>by simp at e
 | [],_ :: _,_,_,_,z,_,_=>z.elim
 | _ :: _,[],_,_,_,z,_,_=>z.elim
 | v :: vs,t :: ts,_,0,b,z,.cons r rs,e=>by
  simp only [List.getElem?_cons_zero,Option.some.injEq] at e;subst e;obtain ⟨⟨a,rfl,hq⟩,_⟩:=z;cases r;exact hq
 | v :: vs,t :: ts,_,i + 1,b,z,.cons r rs,e=>by
  simp only [getElem?_cons_succ] at e;exact (show H b=some (.tup (vT (ts.getD i (0,0,0)))) from zi2 (K:=K) z.2 rs e)
section
variable {X:Cx} {e:Expr} {p p2 pos pos2:Pos}
def up3 (K:Fg) (ta:TA):TSt:=λ σ H R=>ta σ H λ xs H1=>∃ p vs ts,xs=[.ref p] /\ SqL K H1 p vs /\ V3s K H1 vs ts /\ SB ts ∧
 ∀ ys:List (T3 × Addr),(ys.map (·.1)).Nodup->(∀ t,t ∈ ys.map (·.1) ↔ t ∈ ts)->(∀ y ∈ ys,H1 y.2=some (.tup (vT y.1)))->R ys H1
theorem wv2 {items:[23]} {ts:List T3} {ys:List (T3 × Addr)} {Pr:Nat->Value->Prop} (hl:items.length=ts.length) (g:Got Pr (λ i=>ts.getD i (0,0,0)) items.length ys) (t:T3):t ∈ ys.map (·.1) ↔ t ∈ ts:=by
 constructor
 ·intro h;obtain ⟨y,hy,rfl⟩:=List.mem_map.mp h;obtain ⟨j,h1,_,h2⟩:=g.1 y hy;have h2:ts.getD j (0,0,0)=y.1:=h2;rw [<- h2,getD_eq_getElem?_getD,getElem?_eq_getElem [1]];exact getElem_mem _
 ·intro h;obtain ⟨j,hj,e⟩:=List.getElem_of_mem h;have:ts.getD j (0,0,0) ∈ _:=g.2 j [1]
  rwa [getD_eq_getElem?_getD,getElem?_eq_getElem hj,Option.getD_some,e] at this
theorem xq1 {ta:TA} (hc:X.calm=true) (hu:X.A.units + 64 < cLine) (hg:Gl X "set") (hm:X.mg "set" = none) (ha:PA X [e] ta) (hs:starEach [e] X.env=[[30]]:=by rfl) :
    PSt X (.Call (.Name "set" p) [e] [] pos) (up3 X.K ta):=by
 intro pins s σ H R I h;refine Call_ (zm0 I hg hm xn2 (PyProof.Rows.callWith_type1 (thn (ha pos pins s σ H _ I h) λ us s1 ⟨vs,H1,I1,r1,q1⟩=>?_) hs rfl));obtain ⟨a,ws,ts,e1,hq,h3,hB,k⟩:=q1;subst e1;cases r1 with
 | cons r rr =>
  cases rr;cases r
  have key:∀ {its:[23]},Vals ws its->(∀ l:List T3,l.Nodup->(∀ x ∈ l,∃ j,j < its.toArray.size /\ ts.getD j (0,0,0)=x)->l.length < 511) ∧
      (∀ i v,i < its.toArray.size->its.toArray[i]?=some v->∃ b,v=.ref b /\ TK X.prog X.w s1.heap (ts.getD i (0,0,0)) b) ∧
      ∀ (h':Heap) (tk:Nat) xs,KpH s1.heap h'->SetG X.prog X.w (hT X.prog X.w) h' s1.heap.objs.size xs->Got (λ i v=>its.toArray[i]?=some v) (λ i=>ts.getD i (0,0,0)) its.toArray.size xs->SE X pins σ R (.ref s1.heap.objs.size) { s1 with heap:=h',toks:=tk }:=λ {its} rv=>by
   have l1:=h3.len;have l2:=rv.length;have l3:its.toArray.size=its.length:=size_toArray
   have B:∀ l:List T3,l.Nodup->(∀ x ∈ l,∃ j,j < its.toArray.size /\ ts.getD j (0,0,0)=x)->l.length < 511:=λ l nd hl=>hB l nd λ x hx=>by
    obtain ⟨j,h1,h2⟩:=hl x hx;rw [<- h2,getD_eq_getElem?_getD,getElem?_eq_getElem [1]];exact getElem_mem _
   refine ⟨B,λ i v lt e=>(vi2 (tf1 I1 h3 rv) (by simpa using e)).2,λ h' tk xs kp sg g=>?_⟩;have sq:∀ x ∈ xs,H1 x.2=some (.tup (vT x.1)):=λ x hx=>?_
   ·exact ⟨_,xs,H1,rfl,I1.kept kp,I1.fpOk [18] (I1.hok.fresh [18]),sg,sq,g.len [18] sg.nd B,k xs sg.nd (wv2 (items:=its) [1] (by rw [<- l3]; exact g)) sq⟩
   obtain ⟨j,_,h2,h3'⟩:=g.1 x hx;have h3':ts.getD j (0,0,0)=x.1:=h3';have:=zi2 h3 rv (i:=j) (b:=x.2) (by simpa using h2)
   rwa [h3'] at this
  obtain ⟨its,rv,pl,hz⟩:=I1.list hq;obtain ⟨k1,k2,k3⟩:=key rv;exact yn0 (I1.ok.hd hc) [1] pl.isList k2 k1 k3
def vp3 (K:Fg) (ts:TSt):TE:=λ σ H Q=>ts σ H λ xs H1=>∀ (ys:List (T3 × Addr)),ys.Perm xs->∀ q:Array Nat,q.Perm (List.toArray (List.range ys.length))->Ms.Up (ltI (ys.map (·.1))) q ys.length->V3s K H1 (ys.map λ x=>V.ref x.2) (ys.map (·.1)) ->
 ∀ r,H1 r=none->Q (.ref r) (upd H1 r (.lst (q.toList.map λ i=>(ys.map λ x=>V.ref x.2).getD i .non)))
theorem xi2 {K:Fg} {H:Hp}:∀ {ys:List (T3 × Addr)},(∀ x ∈ ys,H x.2=some (.tup (vT x.1)))->V3s K H (ys.map λ x=>V.ref x.2) (ys.map (·.1))
 | [],_=>trivial
 | y :: ys,h=>⟨⟨_,rfl,h y (mem_cons_self ..)⟩,xi2 (K:=K) λ x hx=>h x (mem_cons_of_mem _ hx)⟩
theorem wn1:∀ (ys:List (T3 × Addr)),Vals (ys.map λ x=>V.ref x.2) (ys.map λ x=>Value.ref x.2)
 | []=>.nil
 | y :: ys=>.cons rfl (wn1 ys)
theorem ws2 {ts:TSt} (hc:X.calm=true) (hg:Gl X "sorted") (hm:X.mg "sorted" = none) (hp:PSt X e ts) (hs:starEach [e] X.env=[[30]]:=by rfl):PE X (.Call (.Name "sorted" p) [e] [] pos) (vp3 X.K ts):=by
 intro pins s σ H Q I h;refine Call_ (zm0 I hg hm sq0 (PyProof.Rows.callWith_builtin1 ?_ hs rfl));rw [hs];show wpAny _ _ (spliced ([30] :: backTo pos (starEach [] X.env))) _ _ s;refine Calls.spliced_cons ?_;refine thn (hp pins s σ H _ I h) λ u s1 q=>?_;obtain ⟨a,xs,H1,rfl,I1,fp,sg,sq,ln,k⟩:=q;refine Calls.spliced_nil ?_;refine xl1 (I1.ok.hd hc) sg [1] λ ys q h1 h' c tk py a1 a2 a3 a4 a5=>?_;have I2:Inv X pins σ H1 { s1 with heap:=h1,toks:=tk }:=I1.kept a3;have sz:q.toList.length=ys.length:=by have:=a1.size_eq; simpa using this
 have l0:=py.length_eq
 have lt':∀ i ∈ q.toList,i < (ys.map λ x=>V.ref x.2).length:=λ i hi=>by
  have e:i ∈ List.toArray (List.range ys.length):=a1.mem_iff.mp (by simpa using hi);rw [length_map];simpa using e
 refine ⟨.ref _,_,I2.laid (t':=tk) a4 [18] (show ObjOk X.prog X.w _ h' _ (.lst (q.toList.map λ i=>(ys.map λ x=>V.ref x.2).getD i .non)) from ⟨by rw [length_map,sz,sizeLine_eq]; omega,_,c,wk0 (wn1 ys) _ lt',a5⟩),rfl,?_⟩;exact k ys py q a1 a2 (xi2 λ x hx=>sq x (py.mem_iff.mp hx)) _ (I2.hok.fresh [18])
end
abbrev TSt3:=St3->Mu->(List T3->Mu->Prop)->Prop
def RdSt (K:Fg) (tv:TSt) (t:TSt3):Prop:=∀ σ H R ρ μ R3,RSt K H ρ σ->RelM K μ H->t ρ μ R3->(∀ xs μ' H',R3 (xs.map (·.1)) μ'->(xs.map (·.1)).Nodup->(∀ x ∈ xs,H' x.2=some (.tup (vT x.1)))->Kp H H'->RelM K μ' H'->R xs H')->tv σ H R
def REs (X:Cx) (e:Expr) (t:TSt3):Prop:=∃ tv,PSt X e tv /\ RdSt X.K tv t
def wa3 (t:TA3):TSt3:=λ ρ μ R=>t ρ μ λ ds μ1=>∃ ts,(match ds with
 | [.ref p]=>μ1 p=some (.lst (ts.map encT))
 | _=>False) /\ SB ts /\ ∀ ks:List T3,ks.Nodup->(∀ x,x ∈ ks ↔ x ∈ ts)->R ks μ1
def va3 (t:TSt3):TE3:=λ ρ μ Q=>t ρ μ λ ks μ1=>∀ us:List T3,us.Perm ks->us.Pairwise le3->∀ r,μ1 r=none->Q (.ref r) (updM μ1 r (.lst (us.map encT)))
section
variable {X:Cx} {e:Expr} {p p2 pos pos2:Pos} {t:TE3}
theorem vp2 (he:RE X e t) (hm:X.mg "set" = none) (hu:X.A.units + 64 < cLine) (hc:X.calm=true:=by rfl) (hg:Gl X "set" := by rfl) (hs:starEach [e] X.env=[[30]]:=by rfl):REs X (.Call (.Name "set" p) [e] [] pos) (wa3 (za0 t nil3)):=by
 obtain ⟨va,pa,ra⟩:=xa0 he ta0 hs;refine ⟨_,xq1 hc hu hg hm pa hs,λ σ H R ρ μ R3 s m h k=>ra σ H _ ρ μ _ s m h λ ds μ1 vs H1 h1 k1 r1 m1=>?_⟩;obtain ⟨ts,hd,hB,q⟩:=h1;cases r1 with
 | nil=>exact hd.elim
 | cons r1 r2 =>
  cases r2 with
  | cons _ _=>cases r1 <;> exact hd.elim
  | nil =>
   cases r1 with
   | ref a =>
    obtain ⟨us,hv,rv⟩:=m1 a _ hd;exact ⟨a,us,ts,rfl,SqL.of hv,yi2 rv,hB,λ ys nd al sq=>k ys μ1 H1 (q _ nd al) nd sq k1 m1⟩
   | _=>exact hd.elim
theorem tp2 {ts:TSt3} (he:REs X e ts) (hm:X.mg "sorted" = none) (hc:X.calm=true:=by rfl) (hg:Gl X "sorted" := by rfl) (hs:starEach [e] X.env=[[30]]:=by rfl):RE X (.Call (.Name "sorted" p) [e] [] pos) (va3 ts):=by
 obtain ⟨va,pa,ra⟩:=he;refine ⟨_,ws2 hc hg hm pa hs,λ σ H Q ρ μ Q3 s m h k=>ra σ H _ ρ μ _ s m h λ xs μ1 H1 h1 nd1 sq1 k1 m1=>?_⟩;intro ys py q a1 a2 v3 r hr;have l1:(ys.map (·.1)).length=ys.length:=length_map _;rw [<- l1] at a1 a2
 have lt':∀ i ∈ q.toList,i < (ys.map λ x=>V.ref x.2).length:=λ i hi=>by
  have e:i ∈ List.toArray (List.range (ys.map (·.1)).length):=a1.mem_iff.mp (by simpa using hi);rw [length_map] at e ⊢;simpa using e
 exact k _ _ _ _ (h1 _ ((so0 a1).trans (py.map _)) (sc1 a1 a2) r (m1.free hr)) (k1.trans (Kp.new hr)) (.ref r) (m1.newL hr (zj0 (wh1 v3) _ lt'))
end
section
variable {X:Cx}
theorem sj3 {prog:Program} {w:World} {A:Around} {E:[2]} {s:Shared} {d:Addr} {es:Array DictEntry} {ep:Nat} {Q:[2]} (lo:(d == sysModules)=false) (x:DG s.heap d es ep) (hz:(es.size:Int) < 2 ^ 63) (q:∀ t k,Q (.int es.size t) { s with toks:=k }):wpAny [4] A (call (.builtin "len") [.ref d]) Q E s:=by
 have ty:=x.ty;obtain ⟨o,e1,e2,e3⟩:=x;refine Calls.call_function_entry kind_len plain_len entry_len (args_len1 _) ?_;unfold Builtin.«len»;refine wpAny_bind (m:=oneArg "len" _) (wpAny_pure (wpAny_bind (m:=callSpecial? (.ref d) (Str.ofString "__len__")) (wpAny_callSpecial?_slot (name:=Str.ofString "__len__") ty F.slot_dict_len (wpAny_call_entry F.slot_dict_len ty F.entry_dict_len ?a (F.args_dict_len_1 _)))))
 case a =>
  show wpAny _ _ (dictSize d >>= _) _ _ s; unfold dictSize;refine wpAny_bind (wpAny_bind (wpAny_dictEntries e1 e3 [29])); show wpAny _ _ (Builtin.Dict.pendingCount d >>= _) _ _ s;refine wpAny_bind (wpAny_pendingCount_other lo (wpAny_bind (wpAny_mkInt (wpAny_pure ⟨_,rfl,?_⟩)))); rw [Nat.add_zero];refine wpAny_bind (wpAny_holding (wpAny_pure (wpAny_bind (wpAny_letGo ?_))));show wpAny _ _ (if (es.size:Int) < 0 then _ else _) _ _ _; rw [if_neg [1]];show wpAny _ _ (if (es.size:Int) ≥ 2 ^ 63 then _ else _) _ _ _; rw [if_neg [1]];exact wpAny_bind (wpAny_mkInt (wpAny_pure ⟨_,rfl,q _ _⟩))
theorem xz1:CallR X (.builtin "len") (λ xs H Q=>∃ a kvs,xs=[.ref a] /\ H a=some (.dT kvs) /\ Q (.int kvs.length) H):=by
 intro pins s σ H xs us Q I r h;obtain ⟨a,kvs,rfl,e,q⟩:=h;obtain ⟨u,rfl,rx⟩:=wk1 r;cases rx;obtain ⟨z,hd,xs,rel,o,es,ho,hc1,hd1,he,_⟩:=xf1 I.hok (.inl e);have l2:es.size=kvs.length:=by rw [<- length_toList,he,length_map]; exact (Paired.length rel).symm
 have hn:=zs0;refine sj3 hd ⟨o,ho,hc1,hd1⟩ [1] λ t k=>⟨.int kvs.length,H,I.tok _,⟨t,by rw [l2]⟩,q⟩
def vz0:C3:=λ ds μ Q=>match ds with
 | [.ref p]=>match μ p with
  | some (.dcl l)=>Q (.int l.length) μ
  | _=>False
 | _=>False
theorem tp1:RC X (.builtin "len") vz0:=by
 refine ⟨_,xz1,λ xs vs H Q μ Q3 m rx h k=>?_⟩;unfold vz0 at h;split at h
 ·next p =>
  split at h
  ·next l e =>
   cases rx with
   | cons r rr =>
   cases rr;cases r;obtain ⟨us,hq,rl⟩:=m.dcl p l e;refine ⟨p,us,rfl,hq,?_⟩;rw [<- rl.len];exact k _ _ _ _ h (Kp.refl _) (.int _) m
  ·exact h.elim
 ·exact h.elim
end
abbrev enI (x:Int × Tok):Int × Value:=(hashInt x.1,.int x.1 x.2)
structure SIs (prog:Program) (w:World) (h:Heap) (a:Addr) (o:Obj) (es:Array (Int × Value)) (ep:Nat) (t:SetTable) (xs:List (Int × Tok)):Prop where
 ho:h.get? a=some o
 ex:o.ExactSet
 hd:o.data=.set es ep t
 el:es.toList=xs.map enI
 nd:(xs.map (·.1)).Nodup
 ok:TOk t (xs.map λ x=>(enI x).1)
 rm:t.fill * 5 < t.mask * 3
 du:t.dummies = #[]
 pl:t.plain=true
 le:t.led = !bT prog w
def SIG (prog:Program) (w:World) (h:Heap) (a:Addr) (xs:List (Int × Tok)):Prop:=∃ o es ep t,SIs prog w h a o es ep t xs
section
variable {prog:Program} {w:World} {A:Around} {E:[2]} {s:Shared} {a:Addr} {o:Obj} {es:Array (Int × Value)} {ep:Nat} {t:SetTable} {xs:List (Int × Tok)} {h:Heap}
theorem SIs.size (S:SIs prog w h a o es ep t xs):es.size=xs.length:=by rw [<- length_toList,S.el,length_map]
theorem SIs.fits (S:SIs prog w h a o es ep t xs):t.fits es.size=true:=by
 have h1:=S.ok.sz;have h2:=S.size;have h3:=S.rm;rw [length_map] at h1;simp only [SetTable.fits,h1,h2,beq_self_eq_true,Bool.true_and,decide_eq_true_eq];omega
theorem SIs.els (S:SIs prog w h a o es ep t xs):ElemsOf (intKind prog w) es.toList:=λ e he=>by
 rw [S.el] at he;obtain ⟨x,_,rfl⟩:=List.mem_map.mp he;exact ⟨⟨x.1,by simp [intKind,Value.isInt],rfl⟩,rfl⟩
theorem SIs.store (S:SIs prog w h a o es ep t xs) {xs':List (Int × Tok)} {es':Array (Int × Value)} {t':SetTable} (el:es'.toList=xs'.map enI) (nd:(xs'.map (·.1)).Nodup) (ok:TOk t' (xs'.map λ x=>(enI x).1)) (rm:t'.fill * 5 < t'.mask * 3) (du:t'.dummies = #[]) (pl:t'.plain=true) (le:t'.led = !bT prog w) :
    SIG prog w (h.update a (Obj.putSet es' t')) a xs':=by
 have hg:(h.update a (Obj.putSet es' t')).get? a=some { o with data:=.set es' (ep + 1) t' }:=by
  have:=Heap.get?_update_self (Obj.putSet es' t') S.ho (by rw [putSet_of es' t' S.hd]; rfl);rw [putSet_of es' t' S.hd] at this; exact this
 exact ⟨_,_,_,_,hg,S.ex,rfl,el,nd,ok,rm,du,pl,le⟩
theorem SIG.keep {h':Heap} (S:SIG prog w h a xs) (k:∀ o,h.get? a=some o->h'.get? a=some o):SIG prog w h' a xs:=by
 obtain ⟨o,es,ep,t,S⟩:=S;exact ⟨o,es,ep,t,k o S.ho,S.ex,S.hd,S.el,S.nd,S.ok,S.rm,S.du,S.pl,S.le⟩
theorem sig0 (e:h.get? a=some (nset (!bT prog w))):SIG prog w h a []:=by
 refine ⟨_,#[],0,.fresh 0 0 (!bT prog w),e,⟨rfl,rfl,rfl⟩,rfl,rfl,nodup_nil,?_,(show 0 * 5 < 7 * 3 by decide),rfl,rfl,rfl⟩;exact ⟨by simp [Rise,SetTable.fresh],by simp [Rise,SetTable.fresh],(λ j h=>by simp [SetTable.fresh] at h),(λ j h=>by simp [SetTable.fresh] at h),(λ j h=>by simp [SetTable.fresh] at h),(show 7 ∈ okM by decide),rfl,(λ i j h z=>by simp [SetTable.fresh] at z)⟩
theorem wl3 (S:SIs prog w h a o es ep t xs) (k:Int):∃ sl,t.freeSlot k=some (sl,false) /\ sl ∉ t.place.toList /\ ∃ m,tr t.mask k m=sl /\ ∀ l,l < m->Occ t (tr t.mask k l):=by
 have rm:=S.rm;rcases S.ok.probe [1] (λ _=>k + 1) k 0 none (λ x e=>by cases e) with ⟨m,d',e,_,a2,a3,a4⟩ | ⟨m,i,d',e,_,_,a3,_⟩
 ·have d0:d'=none:=by
    cases d' with
    | none=>rfl
    | some x =>
     obtain ⟨l,_,_,e2⟩:=a4 x rfl;have:=(wl0 S.ok.ris S.ok.rid (S.ok.dj x)).mp e2;rw [S.du] at this;cases this
  subst d0;refine ⟨tr t.mask k m,?_,((zl0 S.ok.ris S.ok.rid).mp a2).1,m,rfl,λ l hl=>(S.ok.occ _).mpr (a3 l (Nat.zero_le _) hl).1⟩;unfold SetTable.freeSlot;rw [wo2];have e:t.probe (λ _=>k + 1) k (trS t.mask k 0)=some (.empty (tr t.mask k m) none):=e;rw [e];rfl
 ·exact absurd a3 [1]
theorem vy3 {k:Int} {tk:Tok} {Q:Bool->Shared->Prop} (S:SIG prog w s.heap a xs) (hn:xs.length + 1 < 512) (old:k ∈ xs.map (·.1)->Q false s)
    (new:k ∉ xs.map (·.1)->∀ h' xs',Heap.SameBut a s.heap h'->SIG prog w h' a xs'->xs'.Perm ((k,tk) :: xs)->Q true { s with heap:=h' }):wpAny [4] A (setAddHashed a (.int k tk) (hashInt k)) Q E s:=by
 obtain ⟨o,es,ep,t,S⟩:=S;have hm:=sl0 _ S.ok.msk;have sz:=S.size
 have ik:∀ x:Int × Tok,(intKind prog w).is k (enI x).2=decide (x.1=k):=λ x=>by
  show Value.isInt k (.int x.1 x.2)=_;simp only [Value.isInt];rfl
 unfold setAddHashed setAddHashedIn;refine wpAny_holding (wpAny_bind [37]);dsimp only;rw [byScan_of (knd:=intKind prog w) rfl (by show es.size < 4096; omega) S.els];simp only [if_true];unfold setAddByScan;refine wpAny_bind (wpAny_bind (wpAny_rule (wpAny_bind (wpAny_setScan_of (knd:=intKind prog w) (k:=k) (by simp [intKind,Value.isInt]) S.ho S.hd S.fits S.els ?_))));cases hr:List.findIdx? (λ e=>(intKind prog w).is k e.2) es.toList with
 | some j =>
  dsimp only;obtain ⟨hj,hpj,_⟩:=List.findIdx?_eq_some_iff_getElem.mp hr;refine wpAny_pure (wpAny_pure (old ?_));have q:∀ y,y ∈ es.toList->y ∈ xs.map enI:=λ y hy=>by rw [S.el] at hy; exact hy
  obtain ⟨x,hx,e⟩:=List.mem_map.mp (q _ (getElem_mem hj));have hp:(intKind prog w).is k (enI x).2=true:=by rw [e]; exact hpj
  rw [ik] at hp;exact List.mem_map.mpr ⟨x,hx,of_decide_eq_true hp⟩
 | none =>
  dsimp only
  have nk:k ∉ xs.map (·.1):=λ z=>by
   obtain ⟨x,hx,e⟩:=List.mem_map.mp z;have:=List.findIdx?_eq_none_iff.mp hr (enI x) (by rw [S.el]; exact mem_map_of_mem hx);rw [ik,decide_eq_true e] at this;cases this
  obtain ⟨sl,fs,ns,rc⟩:=wl3 S (hashInt k);have ok':=S.ok.put ns rc;have f1:=uh1 S.ok (x:=sl);have mk':(t.put sl).1.mask=t.mask:=rfl;have pl':(t.put sl).1.plain=true:=S.pl
  have du':(t.put sl).1.dummies = #[]:=by
   have:∀ x,x ∉ (t.put sl).1.dummies.toList:=λ x hx=>by
    have:=((vh0 S.ok.rid sl x).mp hx).1;rw [S.du] at this;cases this
   exact Array.toList_eq_nil_iff.mp (List.eq_nil_iff_forall_not_mem.mpr this)
  have el':[7].toList=(insL xs (SetTable.below t.place sl) (k,tk)).map enI:=by
   rw [SetTable.toList_insertAt,sn0,S.el];rfl
  have pm:(insL xs (SetTable.below t.place sl) (k,tk)).Perm ((k,tk) :: xs):=by
   unfold insL;exact List.perm_middle.trans (List.Perm.cons _ (List.Perm.of_eq (take_append_drop _ _)))
  have nd':((insL xs (SetTable.below t.place sl) (k,tk)).map (·.1)).Nodup:=(pm.map _).nodup_iff.mpr (List.nodup_cons.mpr ⟨nk,S.nd⟩);have sz':[7].size=xs.length + 1:=by rw [<- length_toList,el',length_map,ue0]
  have ok2:TOk (t.put sl).1 ((insL xs (SetTable.below t.place sl) (k,tk)).map λ x=>(enI x).1):=by rw [sn0]; exact ok'
  have rm:=S.rm
  have fi':(t.put sl).1.fits [7].size=true:=by
   have h1:=ok2.sz;rw [length_map,ue0] at h1;simp only [SetTable.fits,h1,sz',beq_self_eq_true,Bool.true_and,decide_eq_true_eq,mk'];omega
  have ln:layNew t es (hashInt k) (Value.int k tk)=(SetTable.insertAt es (t.put sl).2 (hashInt k,Value.int k tk),(t.put sl).1,false,false):=by
   unfold layNew;rw [fs];dsimp only;unfold SetTable.orStandIn;rw [fi'];rfl
  rw [ln];dsimp only;refine wpAny_bind (m:=pure ()) [29];rw [pl'];simp only [if_true];refine wpAny_bind ?_;rw [hashByValue_scannable 8 (x:=.int k tk) rfl];refine wpAny_pure ?_;simp only [plainKind,if_true];refine wpAny_bind (wpAny_storeSet_of S.ho S.hd ?_ (by rw [sz',sizeLine_eq]; omega));have sb:=Heap.SameBut.update s.heap a (Obj.putSet [7] (t.put sl).1);by_cases c:(t.put sl).1.tooFull=true
  ·rw [if_pos (by rw [c]; rfl)];have gr:SetTable.grown [7].size=(xs.length + 1) * 4:=by unfold SetTable.grown; rw [sz',if_neg [1]]
   obtain ⟨m1,m2,m3⟩:=ym0 (xs.length + 1) hn;have mm:=sl0 _ m1;obtain ⟨t',order,xs',e1,fm',pm',hz,hok,e2,e3,e4,e5,e8⟩:=sk2 (fe:=enI) (0,0) (xs:=insL xs (SetTable.below t.place sl) (k,tk)) (fi:=(t.put sl).1.finger) (mo:=(t.put sl).1.movedTo (SetTable.sizeAbove ((xs.length + 1) * 4) - 1)) (le:=(t.put sl).1.led) (pl:=(t.put sl).1.plain) m1 (by rw [ue0]; omega) el';have er:(t.put sl).1.relaid ([7].map (·.1)) ((xs.length + 1) * 4)=some (t',order):=e1;have h1:=hok.sz;rw [length_map,pm'.length_eq,ue0] at h1
   have rm2:t'.fill * 5 < t'.mask * 3:=by
    unfold SetTable.fill;rw [h1,e3,e2];simpa using m2
   have fi2:t'.fits (order.filterMap λ k'=>[7][k']?).size=true:=by
    simp only [SetTable.fits,h1,hz,sz',beq_self_eq_true,Bool.true_and,decide_eq_true_eq];omega
   have cv:coversAll order [7].size=true:=by
    unfold coversAll;rw [sz',List.isPerm_iff];rw [ue0] at e8;exact e8
   have ra:relayAll (t.put sl).1 [7] (SetTable.grown [7].size)=(order.filterMap λ k'=>[7][k']?,t',false):=by
    unfold relayAll;rw [gr,er];dsimp only;rw [cv,fi2];rfl
   rw [ra];dsimp only;refine wpAny_bind (m:=pure ()) [29]
   have hg:(s.heap.update a (Obj.putSet [7] (t.put sl).1)).get? a=some { o with data:=.set [7] (ep + 1) (t.put sl).1 }:=by
    have:=Heap.get?_update_self (Obj.putSet [7] (t.put sl).1) S.ho (by rw [putSet_of _ _ S.hd]; rfl);rw [putSet_of _ _ S.hd] at this; exact this
   refine wpAny_bind (wpAny_storeSet_of hg rfl ?_ (by rw [hz,sz',sizeLine_eq]; omega));refine wpAny_pure (wpAny_pure (new nk _ xs' (sb.trans (Heap.SameBut.update _ a _)) ⟨_,_,ep + 1 + 1,t',Heap.get?_update_self _ hg (by rw [putSet_of _ _ rfl]; rfl),?_,?_,fm',((pm'.trans pm).map _).nodup_iff.mpr (List.nodup_cons.mpr ⟨nk,S.nd⟩),hok,rm2,e3,by rw [e5]; exact pl',by rw [e4]; exact S.le⟩ (pm'.trans pm)))
   ·rw [putSet_of _ _ rfl]; exact S.ex
   ·rw [putSet_of _ _ rfl]
  ·rw [if_neg (by simpa using c)];refine wpAny_pure (wpAny_pure (new nk _ _ sb (S.store el' nd' ok2 ?_ du' pl' S.le) pm));unfold SetTable.tooFull at c;simpa using c
theorem xu1:∀ {vs:[23]} {ns:List Int},IntsAre vs ns->∀ (i:Nat) v,vs[i]?=some v->∃ tk,v=.int (ns.getD i 0) tk /\ ns[i]?=some (ns.getD i 0)
 | _,_,.nil,i,v,e=>by simp at e
 | _,_,.cons n t h,0,v,e=>by cases e; exact ⟨t,rfl,rfl⟩
 | _,_,.cons n t h,i + 1,v,e=>by
  obtain ⟨tk,a,b⟩:=xu1 h i v (by simpa using e);exact ⟨tk,by simpa using a,by simpa using b⟩
theorem ui1:∀ {vs:[23]} {ns:List Int},IntsAre vs ns->vs.length=ns.length
 | _,_,.nil=>rfl
 | _,_,.cons n t h=>by rw [length_cons,length_cons,ui1 h]
def JI (prog:Program) (w:World) (a:Addr) (ns:List Int) (i:Nat) (h:Heap):Prop:=∃ xs:List (Int × Tok),SIG prog w h a xs /\ ∀ n:Int,n ∈ xs.map (λ x=>x.1) ↔ n ∈ ns.take i
theorem tq3 {l:Addr} {vs:[23]} {ns:List Int} {Q:[2]} (hh:A.handled=none) (hl:s.heap.IsList l vs.toArray) (hi:IntsAre vs ns) (B:∀ l:List Int,l.Nodup->(∀ x ∈ l,x ∈ ns)->l.length < 511)
    (h:∀ (h':Heap) (tk:Nat) xs,KpH s.heap h'->SIG prog w h' s.heap.objs.size xs->(∀ n,n ∈ xs.map (·.1) ↔ n ∈ ns)->Q (.ref s.heap.objs.size) [32]) :
    wpAny [4] A (call (.type "set") [.ref l]) Q E s:=by
 have ll:=ui1 hi;refine xb3 (J:=JI prog w s.heap.objs.size ns) hh hl (λ i h h' hn ⟨xs,sg,g⟩ kp ks'=>⟨xs,sg.keep ks',g⟩) (λ i v s' Q E lt hP kp ⟨xs,sg,g⟩ q=>?_) (λ h e=>⟨[],sig0 e,λ n=>by simp⟩) λ h' tk kp ⟨xs,sg,g⟩=>h h' tk xs kp sg λ n=>by rw [g n,take_of_length_le (by simp; omega)]
 obtain ⟨tk,rfl,en⟩:=xu1 hi i v (by simpa using hP)
 have ln:xs.length < 511:=by
  obtain ⟨o,es,ep,t,S⟩:=id sg;have:=B _ S.nd λ x hx=>mem_of_mem_take ((g x).mp hx)
  rwa [length_map] at this
 have tk1:ns.take (i + 1)=ns.take i ++ [ns.getD i 0]:=by rw [List.take_succ,en]; rfl
 unfold setAdd;refine wpAny_holding (wpAny_bind (wpAny_pyHash_int ?_));refine vy3 sg [1] (λ old=>?_) (λ new h2 xs2 sb sg2 pm=>?_)
 ·refine q _ s'.heap _ (Heap.SameBut.refl _ _) ⟨xs,sg,λ n=>?_⟩;rw [tk1,mem_append,mem_singleton,<- g n];exact ⟨.inl,λ z=>z.elim id λ z=>by rw [z]; exact old⟩
 ·refine q _ h2 _ sb ⟨xs2,sg2,λ n=>?_⟩;rw [tk1,mem_append,mem_singleton,<- g n,(pm.map (·.1)).mem_iff,map_cons,mem_cons];exact Or.comm
end
def BI (ns:List Int):Prop:=∀ l:List Int,l.Nodup->(∀ x ∈ l,x ∈ ns)->l.length < 511
section
variable {X:Cx} {e:Expr} {p p2 pos pos2:Pos}
theorem si1:∀ {ns:List Int} {us:[23]},Vals (ns.map V.int) us->IntsAre us ns
 | [],_,.nil=>.nil
 | n :: ns,_,.cons r t=>by
  obtain ⟨u,rfl⟩:=r;exact .cons n u (si1 t)
theorem vu1 {K:Fg} {H:Hp}:∀ {ms:List Int} {vs:List V},RelDs K H (ms.map D.int) vs->vs=ms.map V.int
 | [],_,.nil=>rfl
 | n :: r,_,.cons x y=>by cases x; rw [vu1 y]; rfl
end
abbrev T2:=Int × Int
def lt2 (a b:T2):Bool:=decide (a.1 < b.1) || (a.1 == b.1 && decide (a.2 < b.2))
def IsT2 (h:Heap) (v:Value) (t:T2):Prop:=∃ a o t1 t2 n,v=.ref a /\ h.get? a=some o /\ o.cls=.type "tuple" /\ o.data=.seq #[.int t.1 t1,.int t.2 t2] n
theorem IsT2.one {h:Heap} {v:Value} {t u:T2} (i:IsT2 h v t) (k:IsT2 h v u):t=u:=by
 obtain ⟨a,o,t1,t2,n,rfl,e2,_,e4⟩:=i;obtain ⟨b,q,u1,u2,m,f1,f2,_,f4⟩:=k;cases f1;rw [e2] at f2;cases f2;rw [e4] at f4;obtain ⟨x,y⟩:=t;obtain ⟨x',y'⟩:=u;simp only [Data.seq.injEq,Array.mk.injEq,List.cons.injEq,Value.int.injEq] at f4;obtain ⟨⟨⟨h1,_⟩,⟨h2,_⟩,_⟩,_⟩:=f4;rw [h1,h2]
theorem wu2 (ts:List T2):Ms.Ord λ i j=>lt2 (ts.getD i (0,0)) (ts.getD j (0,0)) where
 ir:=λ a=>by simp [lt2]
 tr:=λ a b c h k=>by
  simp only [lt2,Bool.or_eq_true,Bool.and_eq_true,decide_eq_true_eq,beq_iff_eq] at h k ⊢;omega
 ng:=λ a b c h=>by
  simp only [lt2,Bool.or_eq_true,Bool.and_eq_true,decide_eq_true_eq,beq_iff_eq] at h ⊢;omega
section
variable {prog:Program} {w:World} {A:Around} {E:[2]} {s:Shared}
theorem uq3 {x y:Value} {a b:T2} {Q:Bool->Shared->Prop} (hx:IsT2 s.heap x a) (hy:IsT2 s.heap y b) (h:Q (lt2 a b) s):wpAny [4] A (keyLt' (tuples' true) x y) Q E s:=by
 obtain ⟨x,ox,t1,t2,n,rfl,ex,_,dx⟩:=hx;obtain ⟨y,oy,u1,u2,m,rfl,ey,_,dy⟩:=hy;obtain ⟨a1,a2⟩:=a;obtain ⟨b1,b2⟩:=b;refine kat_lt ex dx ey dy ?_;refine kat_cons (wpAny_eqBool_int ?_);by_cases c1:a1=b1
 ·rw [show (a1 == b1)=true from beq_iff_eq.mpr c1];refine kat_yes (kat_cons (wpAny_eqBool_int ?_));by_cases c2:a2=b2
  ·rw [show (a2 == b2)=true from beq_iff_eq.mpr c2];refine kat_yes (kat_nil ?_);have e:lt2 (a1,a2) (b1,b2)=false:=by subst c1 c2; simp [lt2]
   rw [e] at h;exact h
  ·rw [show (a2 == b2)=false from by simpa using c2];have e:lt2 (a1,a2) (b1,b2)=decide (a2 < b2):=by subst c1; simp [lt2]
   rw [e] at h;exact kat_no (kat_one _ _ (lt_int h))
 ·rw [show (a1 == b1)=false from by simpa using c1];have e:lt2 (a1,a2) (b1,b2)=decide (a1 < b1):=by simp [lt2,c1]
  rw [e] at h;exact kat_no (oneLt_int h)
end
abbrev ltI2 (ts:List T2):Nat->Nat->Bool:=λ i j=>lt2 (ts.getD i (0,0)) (ts.getD j (0,0))
theorem ti2:TupI IsT2 lt2 (0,0) where
 kept:=λ k ⟨a,o,t1,t2,n,e1,e2,e3,e4⟩=>⟨a,o,t1,t2,n,e1,k _ _ e2 e3,e3,e4⟩
 one:=IsT2.one
 ord:=wu2
 fst:=λ ⟨a,o,t1,t2,n,e1,e2,e3,e4⟩=>⟨a,o,_,t1,_,n,e1,e2,e3,e4⟩
 lt':=uq3
def sm0 (t:T2):D:=.tup [.int t.1,.int t.2]
def t2?:D->Option T2
 | .tup [.int a,.int b]=>some (a,b)
 | _=>none
def t2s?:List D->Option (List T2)
 | []=>some []
 | d :: r=>match t2? d with
  | some t=>match t2s? r with
   | some ts=>some (t :: ts)
   | none=>none
  | none=>none
theorem xo1:∀ ts:List T2,t2s? (ts.map sm0)=some ts
 | []=>rfl
 | t :: ts=>by simp only [map_cons,t2s?,sm0,t2?,xo1 ts]
theorem vq3 {d:D} {t:T2} (h:t2? d=some t):d=sm0 t:=by
 unfold t2? at h;split at h
 ·cases h; rfl
 ·cases h
theorem ui2:∀ {l:List D} {ts:List T2},t2s? l=some ts->l=ts.map sm0
 | [],ts,h=>by cases h; rfl
 | d :: r,ts,h=>by
  unfold t2s? at h;split at h
  ·next t e =>
   split at h
   ·next us e2=>cases h; rw [vq3 e,ui2 e2]; rfl
   ·cases h
  ·cases h
def le2 (a b:T2):Prop:=lt2 b a=false
def sk1:C3:=λ ds μ Q=>match ds with
 | [.ref p]=>match μ p with
  | some (.lst l)=>match t2s? l with
   | some ts=>ts.length<=sizeLine /\ ∀ us:List T2,us.Perm ts->us.Pairwise le2->∀ r,μ r=none->Q (.ref r) (updM μ r (.lst (us.map sm0)))
   | none=>False
  | _=>False
 | _=>False
section
variable {X:Cx}
theorem up1:RC X (.builtin "sorted") sk1:=by
 refine vq2 (enc:=sm0) ti2 (λ {_ _ _ _} I {t v u} a b=>?_) λ {ds μ Q} h=>?_
 ·cases a with
  | tup hq r2 =>
   cases r2 with
   | cons x r2 =>
    cases r2 with
    | cons y r2 =>
     cases r2;cases x;cases y;cases b;obtain ⟨its,rv,⟨o,p1,p2,n,p3⟩,_⟩:=I.tuple (SqT.of hq);cases rv with
     | cons r1 rv =>
      cases rv with
      | cons r2 rv =>
       cases rv;obtain ⟨t1,rfl⟩:=r1;obtain ⟨t2,rfl⟩:=r2;exact ⟨_,o,t1,t2,n,rfl,p1,p2,p3⟩
 ·unfold sk1 at h;split at h
  ·next p =>
   split at h
   ·next l e =>
    split at h
    ·next ts e2=>exact ⟨p,ts,rfl,by rw [e,ui2 e2],h.1,h.2⟩
    ·exact h.elim
   ·exact h.elim
  ·exact h.elim
end
section
variable {prog:Program} {w:World} {A:Around} {E:[2]} {s:Shared} {d:Addr} {es:Array DictEntry} {ep:Nat}
theorem sm1 {acc:Array Value} (h:ItemsOf (λ i v=>∃ e,es[i]?=some e /\ v=e.key) acc es.size):acc.toList=es.toList.map (·.key):=by
 obtain ⟨h1,h2⟩:=h;apply ext_getElem?;intro i;rw [getElem?_map,getElem?_toList,getElem?_toList];by_cases c:i < es.size
 ·obtain ⟨e,e1,e2⟩:=h2 i (acc[i]'(by omega)) [24];rw [e1,Array.getElem?_eq_getElem [1],e2];rfl
 ·rw [getElem?_eq_none [1],getElem?_eq_none [1]];rfl
theorem wo1 {ts:List T2} {Q:[2]} (hh:A.handled=none) (lo:(d == sysModules)=false) (x:DG s.heap d es ep) (ht:Lw (IsT2 s.heap) (es.toList.map (·.key)) ts) (hz:es.size<=sizeLine)
    (h:∀ (p:Array Nat) (h1 h':Heap) (c tk:Nat),p.Perm (List.toArray (List.range es.size))->Ms.Up (ltI2 ts) p es.size->(∀ b o,s.heap.get? b=some o->h1.get? b=some o)->(∀ b o,h1.get? b=some o->h'.get? b=some o) ->
     h'.get? h1.objs.size=some (seqObj "list" (outV (es.toList.map (·.key)) p).toArray c)->Q (.ref h1.objs.size) [32]) :
    wpAny [4] A (call (.builtin "sorted") [.ref d]) Q E s:=by
 refine Calls.call_function_entry kind_sorted plain_sorted entry_sorted (args_sorted1 _) ?_;unfold Builtin.«sorted»;refine wpAny_bind (m:=checkCount "sorted" 1 1 _) (wpAny_pure (wpAny_bind (kdu_collect (sm3 lo) hh x hz λ h1 tk acc k1 ia=>?_)));rw [sm1 ia];have l1:(es.toList.map (·.key)).length=es.size:=by simp
 refine wpAny_bind (wpAny_newList ?_ (by rw [l1]; exact hz));have k2:∀ b o,s.heap.get? b=some o->(h1.push (seqObj "list" (es.toList.map (·.key)).toArray 0)).get? b=some o:=λ b o q=>Heap.get?_push_of_some _ (k1 b o q);have zo:(h1.push (seqObj "list" (es.toList.map (·.key)).toArray 0)).get? h1.objs.size=some (seqObj "list" (es.toList.map (·.key)).toArray 0):=Heap.get?_push_size _ rfl;have tt:=Lw.mono (λ _ _=>ti2.kept λ b o e _=>k2 b o e) ht;show wpAny _ _ _ _ _ { s with heap:=h1.push (seqObj "list" (es.toList.map (·.key)).toArray 0),toks:=tk };refine wpAny_bind (wpAny_holding (wpAny_call_entry slot_list_sort ⟨_,zo,rfl⟩ entry_list_sort (xe1 (s:={ s with heap:=h1.push (seqObj "list" (es.toList.map (·.key)).toArray 0),toks:=tk }) (ti2.sk tt) [18] zo (λ h' g=>ti2.keep zo g tt) (by rw [l1]; exact hz) λ p h' c a1 a2 a3 a4=>⟨_,rfl,?_⟩) (args_list_sort _)));rw [l1] at a1 a2;exact wpAny_pure ⟨_,rfl,h p h1 h' c tk a1 a2 k1 (λ b o q=>a3 b o (Nat.ne_of_lt (Heap.lt_size q)) (Heap.get?_push_of_some _ q)) a4⟩
end
section
variable {X:Cx}
theorem zl2 {pins:[6]} {σ:L2.St} {H:Hp} {s:Shared} (I:[5]) {t:T2} {a:Addr} (hq:H a=some (.tup [.int t.1,.int t.2])):IsT2 s.heap (.ref a) t:=by
 obtain ⟨its,rv,⟨o,p1,p2,n,p3⟩,_⟩:=I.tuple (SqT.of hq);cases rv with
 | cons r1 rv =>
  cases rv with
  | cons r2 rv =>
   cases rv;obtain ⟨t1,rfl⟩:=r1;obtain ⟨t2,rfl⟩:=r2;exact ⟨_,o,t1,t2,n,rfl,p1,p2,p3⟩
def kP (p:T2):List Int:=[p.1,p.2]
theorem sw1 {pins:[6]} {σ:L2.St} {H:Hp} {s:Shared} (I:[5]):∀ {kvs:[15]} {xs:List (List Key × Addr × Value)} {ts:List T2},KT H kvs xs->kvs.map (·.1)=ts.map (λ t=>kL (kP t)) ->
    Lw (IsT2 s.heap) (xs.map λ q=>Value.ref q.2.1) ts /\ RelDs X.K H (ts.map sm0) (xs.map λ q=>V.ref q.2.1) /\ Vals (xs.map λ q=>V.ref q.2.1) (xs.map λ q=>Value.ref q.2.1)
 | [],_,ts,.nil,e=>by
  cases ts with
  | nil=>exact ⟨trivial,.nil,.nil⟩
  | cons _ _=>cases e
 | p :: kvs,q :: xs,ts,.cons r rs,e=>by
  cases ts with
  | nil=>cases e
  | cons t ts =>
   rw [map_cons,map_cons] at e;injection e with e1 e2
   obtain ⟨a,b,c⟩:=sw1 I rs e2;have hq:=r.2.1;rw [e1] at hq;exact ⟨⟨zl2 I hq,a⟩,.cons (.tup hq (.cons (.int _) (.cons (.int _) .nil))) b,.cons rfl c⟩
def rSdP (K:Fg):List V->Hp->VK->Prop:=λ xs H Q=>∃ d kvs ts,xs=[.ref d] /\ H d=some (.dT kvs) /\ kvs.map (·.1)=ts.map (λ t=>kL (kP t)) ∧
 ∀ vs,RelDs K H (ts.map sm0) vs->∀ q:Array Nat,q.Perm (List.toArray (List.range ts.length))->Ms.Up (ltI2 ts) q ts.length->∀ r,H r=none->Q (.ref r) (upd H r (.lst (q.toList.map λ i=>vs.getD i .non)))
theorem zx2 (hc:X.calm=true):CallR X (.builtin "sorted") (rSdP X.K):=by
 intro pins s σ H xs us Q I r h;obtain ⟨d,kvs,ts,rfl,hd,ek,k⟩:=h;cases r with
 | cons r rr =>
  cases rr;cases r;obtain ⟨hz,lo,ys,pr,o,es,o1,o2,o3,o4,_⟩:=xf1 I.hok (.inl hd);obtain ⟨v2,rd,vv⟩:=sw1 I pr ek;have ekey:es.toList.map (·.key)=ys.map λ q=>Value.ref q.2.1:=by rw [o4,map_map]; rfl
  have l1:kvs.length=ys.length:=Paired.length pr;have l2:ts.length=kvs.length:=by have:=congrArg List.length ek; simpa using this.symm
  have l3:es.size=ys.length:=by rw [<- length_toList,o4,length_map]
  refine wo1 (I.ok.hd hc) lo ⟨o,o1,o2,o3⟩ (by rw [ekey]; exact v2) [1] λ p h1 h' c tk a1 a2 a3 a4 a5=>?_;rw [ekey] at a5;have e0:es.size=ts.length:=by omega
  rw [e0] at a1 a2
  have lt':∀ i ∈ p.toList,i < (ys.map λ q=>V.ref q.2.1).length:=λ i hi=>by
   have e:i ∈ List.toArray (List.range ts.length):=a1.mem_iff.mp (by simpa using hi);have e':i < ts.length:=by simpa using e
   rw [length_map];omega
  have sz:p.toList.length=ts.length:=by have:=a1.size_eq; simpa using this
  have I1:Inv X pins σ H { s with heap:=h1,toks:=tk }:=I.kept a3;refine ⟨.ref _,_,I1.laid (t':=tk) a4 [18] (show ObjOk X.prog X.w _ h' _ (.lst (p.toList.map λ i=>(ys.map λ q=>V.ref q.2.1).getD i .non)) from ⟨by rw [length_map,sz]; omega,_,c,wk0 vv _ lt',a5⟩),rfl,k _ rd p a1 a2 _ (I1.hok.fresh [18])⟩
theorem RelKl.keys {K:Fg} {H:Hp} {l:[16]} {vs:[15]} (r:RelKl K H l vs):vs.map (·.1)=(l.map (·.1)).map kL:=by
 induction r with
 | nil=>rfl
 | cons _ _ ih=>rw [map_cons,ih]; rfl
def yo1:C3:=λ ds μ Q=>match ds with
 | [.ref p]=>match μ p with
  | some (.dcl kvs)=>∃ ts:List T2,kvs.map (·.1)=ts.map kP /\ ∀ us:List T2,us.Perm ts->us.Pairwise le2->∀ r,μ r=none->Q (.ref r) (updM μ r (.lst (us.map sm0)))
  | _=>False
 | _=>False
theorem wq2 (hc:X.calm=true:=by rfl):RC X (.builtin "sorted") yo1:=by
 refine ⟨_,zx2 hc,λ xs vs H Q μ Q3 m r h k=>?_⟩;unfold yo1 at h;split at h
 ·next p =>
  split at h
  ·next kvs e =>
   cases r with
   | cons r1 r2 =>
    cases r2;cases r1;obtain ⟨ts,et,h⟩:=h;obtain ⟨ws,hv,rk⟩:=m.dcl p kvs e;refine ⟨p,ws,ts,rfl,hv,by rw [rk.keys,et,map_map]; rfl,λ vs rd q a1 a2 r hr=>?_⟩;have hl:=rd.length;rw [length_map] at hl
    have lt':∀ i ∈ q.toList,i < vs.length:=λ i hi=>by
     have e:i ∈ List.toArray (List.range ts.length):=a1.mem_iff.mp (by simpa using hi);have e':i < ts.length:=by simpa using e
     omega
    exact k _ _ _ _ (h _ (so0 (d0:=((0,0):T2)) a1) (sc1 a1 a2) r (m.free hr)) (Kp.new hr) (.ref r) (m.newL hr (zj0 rd _ lt'))
  ·exact h.elim
 ·exact h.elim
variable {e:Expr} {p p2 pos pos2:Pos}
theorem tg3 {ta:TA} {R:List V->Hp->VK->Prop} (hg:Gl X "len") (hm:X.mg "len" = none) (hg2:Gl X "set") (hm2:X.mg "set" = none) (ha:PA X [e] ta) (hs2:starEach [e] X.env=[[30]]) (hs:starEach [.Call (.Name "set" p2) [e] [] pos2] X.env=[(false,eval (.Call (.Name "set" p2) [e] [] pos2) X.env)])
    (st:∀ {pins s σ H vs us} {Q:VK},Inv X pins σ H s->Vals vs us->R vs H Q->∀ {K:[2]},(∀ a o es ep t s',s'.heap.get? a=some o->o.ExactSet->o.data=.set es ep t->t.fits es.size=true->es.size < 512->Inv X pins σ H s'->Q (.int es.size) H->K (.ref a) s')->wpAny [8] X.A (call (.type "set") us) K X.xe s) :
    PE X (.Call (.Name "len" p) [.Call (.Name "set" p2) [e] [] pos2] [] pos) (λ σ H Q=>ta σ H λ xs H1=>R xs H1 Q):=by
 intro pins s σ H Q I h;refine Call_ (zm0 I hg hm wi0 (PyProof.Rows.callWith_builtin1 ?_ hs rfl));rw [hs];show wpAny _ _ (spliced ((false,eval (.Call (.Name "set" p2) [e] [] pos2) X.env) :: backTo pos (starEach [] X.env))) _ _ s;refine Calls.spliced_cons ?_;refine Call_ (zm0 I hg2 hm2 xn2 (PyProof.Rows.callWith_type1 (thn (ha pos2 pins s σ H _ I h) λ us s1 ⟨vs,H1,I1,r1,q1⟩=>?_) hs2 rfl));refine st I1 r1 q1 λ a o es ep t s2 h1 h2 h3 h4 h5 I2 k=>?_;refine Calls.spliced_nil ?_;refine PySem.call_len_set h1 h2 h3 h4 [1] ?_;exact ⟨.int _,H1,I2.kept (t':=s2.toks + 1 + 1) λ b ob q=>q,⟨_,rfl⟩,k⟩
def rLsI (K:Fg):List V->Hp->VK->Prop:=λ xs H Q=>∃ p ns,xs=[.ref p] /\ SqL K H p (ns.map V.int) /\ BI ns /\ ∀ D:List Int,D.Nodup->(∀ n,n ∈ D ↔ n ∈ ns)->Q (.int D.length) H
def lsI3 (t:TA3):TE3:=λ ρ μ Q=>t ρ μ λ ds μ1=>∃ ns:List Int,(match ds with
 | [.ref p]=>μ1 p=some (.lst (ns.map D.int))
 | _=>False) /\ BI ns /\ ∀ ms:List Int,ms.Nodup->(∀ n,n ∈ ms ↔ n ∈ ns)->Q (.int ms.length) μ1
theorem xd3 {t:TE3} (he:RE X e t) (hm2:X.mg "set" = none) (hm:X.mg "len" = none) (hc:X.calm=true:=by rfl) (hg:Gl X "len" := by rfl) (hg2:Gl X "set" := by rfl) (hs2:starEach [e] X.env=[[30]]:=by rfl) (hs:starEach [.Call (.Name "set" p2) [e] [] pos2] X.env=[(false,eval (.Call (.Name "set" p2) [e] [] pos2) X.env)]:=by rfl) :
    RE X (.Call (.Name "len" p) [.Call (.Name "set" p2) [e] [] pos2] [] pos) (lsI3 (za0 t nil3)):=by
 obtain ⟨va,pa,ra⟩:=xa0 he ta0 hs2;refine ⟨_,tg3 (R:=rLsI X.K) hg hm hg2 hm2 pa hs2 hs ?_,λ σ H Q ρ μ Q3 s m h k=>ra σ H _ ρ μ _ s m h λ ds μ1 vs H1 h1 k1 r1 m1=>?_⟩
 ·intro pins s σ H vs us Q I rv q K k;obtain ⟨a,ns,rfl,hq,hB,q⟩:=q;cases rv with
  | cons r rr =>
  cases rr;cases r;obtain ⟨its,rv,pl,hz⟩:=I.list hq;refine tq3 (I.ok.hd hc) pl.isList (si1 rv) hB λ h1 tk1 xs kp sg g=>?_;obtain ⟨o,es,ep,t,S⟩:=sg;have ln:=hB _ S.nd λ x hx=>(g x).mp hx;have sz:=S.size;rw [length_map] at ln;have q':=q _ S.nd g;rw [length_map,<- sz] at q';exact k _ o es ep t _ S.ho S.ex S.hd S.fits [1] (I.kept λ b o e=>kp b o e) q'
 ·obtain ⟨ns,hd,hB,q⟩:=h1;cases r1 with
  | nil=>exact hd.elim
  | cons r1 r2 =>
   cases r2 with
   | cons _ _=>cases r1 <;> exact hd.elim
   | nil =>
    cases r1 with
    | ref a =>
     obtain ⟨us,hv,rv⟩:=m1 a _ hd;have:=vu1 rv;subst this;exact ⟨a,ns,rfl,SqL.of hv,hB,λ ms so al=>k _ _ _ _ (q ms so al) k1 (.int _) m1⟩
    | _=>exact hd.elim
def BP (ps:List T2):Prop:=∀ l:List T2,l.Nodup->(∀ x ∈ l,x ∈ ps)->l.length < 511
theorem IsT2.key {prog:Program} {w:World} {h:Heap} {a:Addr} {t:T2} (i:IsT2 h (.ref a) t):TK prog w h t a:=by
 obtain ⟨a',o,t1,t2,n,e1,e2,e3,e4⟩:=i;cases e1;exact ⟨o,_,n,e2,e3,e4,.cons (intKind_is ..) (.cons (intKind_is ..) .nil)⟩
theorem sj2 {pins:[6]} {σ:L2.St} {H:Hp} {s:Shared} (I:[5]):∀ {ps:List T2} {vs:List V} {us:[23]},RelDs X.K H (ps.map sm0) vs->Vals vs us->∀ (i:Nat) v,us[i]?=some v->∃ b,v=.ref b /\ i < ps.length /\ TK X.prog X.w s.heap (ps.getD i (0,0)) b
 | [],_,_,.nil,.nil,i,v,e=>by simp at e
 | t :: ps,_,_,.cons a a2,.cons b b2,0,v,e=>by
  cases e;cases a with
  | tup hq r2 =>
   cases r2 with
   | cons x r2 =>
    cases r2 with
    | cons y r2 =>
     cases r2;cases x;cases y;cases b;exact ⟨_,rfl,Nat.zero_lt_succ _,(zl2 I hq).key⟩
 | t :: ps,_,_,.cons a a2,.cons b b2,i + 1,v,e=>by
  obtain ⟨b,h1,h2,h3⟩:=sj2 I a2 b2 i v (by simpa using e);exact ⟨b,h1,by rw [length_cons]; omega,by simpa using h3⟩
def rLsP (K:Fg):List V->Hp->VK->Prop:=λ xs H Q=>∃ p ps vs,xs=[.ref p] /\ SqL K H p vs /\ RelDs K H (ps.map sm0) vs /\ BP ps /\ ∀ D:List T2,D.Nodup->(∀ n,n ∈ D ↔ n ∈ ps)->Q (.int D.length) H
def lsP3 (t:TA3):TE3:=λ ρ μ Q=>t ρ μ λ ds μ1=>∃ ps:List T2,(match ds with
 | [.ref p]=>μ1 p=some (.lst (ps.map sm0))
 | _=>False) /\ BP ps /\ ∀ ms:List T2,ms.Nodup->(∀ n,n ∈ ms ↔ n ∈ ps)->Q (.int ms.length) μ1
theorem sc3 {t:TE3} (hu:X.A.units + 64 < cLine) (he:RE X e t) (hm2:X.mg "set" = none) (hm:X.mg "len" = none) (hc:X.calm=true:=by rfl) (hg:Gl X "len" := by rfl) (hg2:Gl X "set" := by rfl) (hs2:starEach [e] X.env=[[30]]:=by rfl) (hs:starEach [.Call (.Name "set" p2) [e] [] pos2] X.env=[(false,eval (.Call (.Name "set" p2) [e] [] pos2) X.env)]:=by rfl) :
    RE X (.Call (.Name "len" p) [.Call (.Name "set" p2) [e] [] pos2] [] pos) (lsP3 (za0 t nil3)):=by
 obtain ⟨va,pa,ra⟩:=xa0 he ta0 hs2;refine ⟨_,tg3 (R:=rLsP X.K) hg hm hg2 hm2 pa hs2 hs ?_,λ σ H Q ρ μ Q3 s m h k=>ra σ H _ ρ μ _ s m h λ ds μ1 vs H1 h1 k1 r1 m1=>?_⟩
 ·intro pins s σ H vs us Q I rv q K k;obtain ⟨a,ps,ws,rfl,hq,rd,hB,q⟩:=q;cases rv with
  | cons r rr =>
  cases rr;cases r;obtain ⟨its,rv,pl,hz⟩:=I.list hq;have l1:=rd.length;rw [length_map] at l1;have l2:=rv.length;have at':=sj2 I rd rv;refine yn0 (ks:=λ i=>ps.getD i (0,0)) (I.ok.hd hc) [1] pl.isList (λ i v lt e=>?_) (λ l nd hl=>hB l nd λ x hx=>?_) λ h1 tk1 xs kp sg g=>?_
  ·obtain ⟨b,h1,_,h3⟩:=at' i v (by simpa using e);exact ⟨b,h1,h3⟩
  ·obtain ⟨j,hj,e⟩:=hl x hx;have hj':j < ps.length:=by simp at hj; omega
   rw [<- e,getD_eq_getElem?_getD,getElem?_eq_getElem hj'];exact getElem_mem hj'
  obtain ⟨o,es,ep,t,S,_⟩:=sg
  have mm:∀ n,n ∈ xs.map (·.1) ↔ n ∈ ps:=λ n=>by
   constructor
   ·intro h;obtain ⟨x,hx,rfl⟩:=List.mem_map.mp h;obtain ⟨j,hj,_,e⟩:=g.1 x hx;have hj':j < ps.length:=by simp at hj; omega
    rw [<- e];dsimp only;rw [getD_eq_getElem?_getD,getElem?_eq_getElem hj'];exact getElem_mem hj'
   ·intro h;obtain ⟨j,hj,rfl⟩:=List.getElem_of_mem h;have:=g.2 j (by simp; omega);dsimp only at this
    rwa [getD_eq_getElem?_getD,getElem?_eq_getElem hj] at this
  have ln:=hB _ S.nd λ x hx=>(mm x).mp hx;have sz:=S.size;rw [length_map] at ln;have q':=q _ S.nd mm;rw [length_map,<- sz] at q';exact k _ o es ep t _ S.ho S.ex S.hd S.fits [1] (I.kept λ b o e=>kp b o e) q'
 ·obtain ⟨ps,hd,hB,q⟩:=h1;cases r1 with
  | nil=>exact hd.elim
  | cons r1 r2 =>
   cases r2 with
   | cons _ _=>cases r1 <;> exact hd.elim
   | nil =>
    cases r1 with
    | ref a =>
     obtain ⟨us,hv,rv⟩:=m1 a _ hd;exact ⟨a,ps,us,rfl,SqL.of hv,rv,hB,λ ms so al=>k _ _ _ _ (q ms so al) k1 (.int _) m1⟩
    | _=>exact hd.elim
end
end Pv
namespace Pv
open PySem PySem.Spec PyProof.Rows L2
def wb1 (kvs:[16]) (k:List Int):List (List Int × D):=kvs.filter λ kv=>decide (kv.1 ≠ k)
def dOf:Bool->Option MO->Option (List (List Int × D))
 | true,some (.dcp kvs)=>some kvs
 | false,some (.dcl kvs)=>some kvs
 | _,_=>none
def dm3 (pp:Bool) (to:TE3) (t:TA3):TE3:=λ ρ μ Q=>to ρ μ λ x μ1=>match x with
 | .ref p=>match dOf pp (μ1 p) with
  | some _=>t ρ μ1 λ ds μ2=>match ds with
   | [y]=>match keyI y,dOf pp (μ2 p) with
    | some k,some kvs=>match pp,valL kvs k with
     | true,some v=>Q v (updM μ2 p (.dcp (wb1 kvs k)))
     | true,none=>False
     | false,o=>Q (o.getD .non) μ2
    | _,_=>False
   | _=>False
  | _=>False
 | _=>False
theorem yb1 {K β:Type} [DecidableEq K]:∀ {xs:List (K × β)} {j:Nat} {k:K} {p:β},(xs.map (·.1)).Nodup->xs[j]?=some (k,p)->xs.eraseIdx j=xs.filter λ x=>decide (x.1 ≠ k)
 | [],_,_,_,_,h=>by simp at h
 | x :: r,0,k,p,nd,h=>by
  simp only [List.getElem?_cons_zero,Option.some.injEq] at h;subst h;rw [map_cons,nodup_cons] at nd;rw [List.eraseIdx_cons_zero,filter_cons,if_neg [24]];refine (List.filter_eq_self.mpr λ y hy=>decide_eq_true ?_).symm;exact λ e=>nd.1 (by rw [<- show y.1=k from e]; exact mem_map_of_mem (f:=(·.1)) hy)
 | x :: r,j + 1,k,p,nd,h=>by
  rw [getElem?_cons_succ] at h;rw [map_cons,nodup_cons] at nd;have hk:x.1 ≠ k:=λ e=>nd.1 (by rw [e]; exact List.mem_map.mpr ⟨_,mem_of_getElem? h,rfl⟩);rw [List.eraseIdx_cons_succ,filter_cons,if_pos (by simpa using hk),yb1 nd.2 h]
theorem wz0 {α β:Type} (f:α->β):∀ (l:List α) (j:Nat),(l.map f).eraseIdx j=(l.eraseIdx j).map f
 | [],_=>rfl
 | _ :: _,0=>rfl
 | _ :: l,j + 1=>congrArg _ (wz0 f l j)
theorem KT.dropK {H:Hp} {kvs:[15]} {xs:List (List Key × Addr × Value)} (r:KT H kvs xs) (k:List Key):KT H (dropK kvs k) (xs.filter λ x=>decide (x.1 ≠ k)):=by
 unfold L2.dropK
 induction r with
 | nil=>exact .nil
 | @cons p q ps qs h t ih =>
  rw [filter_cons,filter_cons];by_cases e:p.1=k
  ·rw [if_neg (by simp [e]),if_neg (by simp [h.1.symm.trans e])]; exact ih
  ·rw [if_pos (by simp [e]),if_pos (by simp [show ¬ q.1=k from λ z=>e (h.1.trans z)])]; exact .cons h ih
theorem RelKl.drop {K:Fg} {H:Hp} {l:[16]} {vs:[15]} (r:RelKl K H l vs) (t:List Int):RelKl K H (wb1 l t) (L2.dropK vs (kL t)):=by
 unfold wb1 L2.dropK
 induction r with
 | nil=>exact .nil
 | cons h _ ih =>
  rename_i t' d' v' l' vs' _;rw [filter_cons,filter_cons];by_cases e:t'=t
  ·rw [if_neg (by simp [e]),if_neg (by simp [e])]; exact ih
  ·rw [if_pos (by simp [e]),if_pos (by simp [show ¬ kL t'=kL t from λ z=>e (tz0 z)])]; exact .cons h ih
def hOf (pp:Bool) (kvs:[15]):HO:=match pp with
 | true=>.dK kvs
 | false=>.dT kvs
def rDm (pp:Bool):V->List V->Hp->VK->Prop:=λ x vs H Q=>∃ a kvs k b,x=.ref a /\ vs=[.ref b] /\ H a=some (hOf pp kvs) /\ H b=some (.tup (k.map kV)) ∧
 match pp,valV kvs k with
 | true,some v=>Q v (upd H a (.dK (L2.dropK kvs k)))
 | true,none=>False
 | false,o=>Q (o.getD .non) H
theorem Kp.wrK {H:Hp} {p:Addr} {o:HO} {xs:[15]} (h:H p=some (.dK xs)):Kp H (upd H p o) :=
 ⟨λ b ys q=>by rw [vb0 (sy0 q h (by intro z; cases z))]; exact q,λ b o u q=>by rw [vb0 (sy0 q h (by intro z; cases z))]; exact q⟩
theorem RelM.newP {K:Fg} {μ:Mu} {H:Hp} {p:Addr} {kvs:[16]} {vs:[15]} (h:H p=none) (r:RelKl K H kvs vs) (m:RelM K μ H):RelM K (updM μ p (.dcp kvs)) (upd H p (.dK vs)):=by
 have m':=m.newT (o:=.dK vs) h;refine ⟨λ q ys e=>?_,λ q c fs e=>?_,λ q kvs e=>?_,λ q kvs e=>?_⟩
 ·by_cases z:q=p
  ·subst z; rw [va0] at e; cases e
  ·rw [yb0 z] at e; exact m'.lst q ys e
 ·by_cases z:q=p
  ·subst z; rw [va0] at e; cases e
  ·rw [yb0 z] at e; exact m'.ins q c fs e
 ·by_cases z:q=p
  ·subst z; rw [va0] at e; cases e; exact ⟨vs,ve0,r.mono (Kp.new h)⟩
  ·rw [yb0 z] at e; exact m'.dcp q kvs e
 ·by_cases z:q=p
  ·subst z; rw [va0] at e; cases e
  ·rw [yb0 z] at e; exact m'.dcl q kvs e
theorem RelM.wrP {K:Fg} {μ:Mu} {H:Hp} {p:Addr} {kvs:[16]} {vs ws:[15]} (h:H p=some (.dK ws)) (r:RelKl K H kvs vs) (m:RelM K μ H):RelM K (updM μ p (.dcp kvs)) (upd H p (.dK vs)):=by
 refine ⟨λ q ys e=>?_,λ q c fs e=>?_,λ q ks e=>?_,λ q ks e=>?_⟩
 ·by_cases z:q=p
  ·subst z; rw [va0] at e; cases e
  ·rw [yb0 z] at e;obtain ⟨us,q1,r1⟩:=m.lst q ys e;exact ⟨us,by rw [vb0 z]; exact q1,r1.mono (Kp.wrK h)⟩
 ·by_cases z:q=p
  ·subst z; rw [va0] at e; cases e
  ·rw [yb0 z] at e;obtain ⟨C,dx,us,n,q1,q2,r1⟩:=m.ins q c fs e;refine ⟨C,dx,us,n,by rw [vb0 z]; exact q1,?_,r1.mono (Kp.wrK h)⟩;rw [vb0]
   ·exact q2
   ·intro y; subst y; rw [h] at q2; cases q2
 ·by_cases z:q=p
  ·subst z; rw [va0] at e; cases e; exact ⟨vs,ve0,r.mono (Kp.wrK h)⟩
  ·rw [yb0 z] at e;obtain ⟨us,q1,r1⟩:=m.dcp q ks e;exact ⟨us,by rw [vb0 z]; exact q1,r1.mono (Kp.wrK h)⟩
 ·by_cases z:q=p
  ·subst z; rw [va0] at e; cases e
  ·rw [yb0 z] at e;obtain ⟨us,q1,r1⟩:=m.dcl q ks e;exact ⟨us,by rw [vb0 z]; exact q1,r1.mono (Kp.wrK h)⟩
section
variable {prog:Program} {w:World} {K:Type} [DecidableEq K] {knd:HeapKind prog w K} {A:Around} {E:[2]} {s:Shared}
theorem xo2 {d a:Addr} {xs:List (K × Addr × Value)} {k:K} {ep:Nat} {p:Addr × Value} {Q:Option DictEntry->Shared->Prop} (hu:knd.room A) (hkey:knd.is s.heap k a) (hm:DHe knd s.heap d xs ep) (hsz:xs.length<=sizeLine) (hp:atKey xs k=some p)
    (h:∀ e h',e.val=p.2->DHe knd h' d (xs.filter λ x=>decide (x.1 ≠ k)) (ep + 1)->Heap.SameBut d s.heap h'->Q (some e) { s with heap:=h',toks:=s.toks + knd.draws k }) :
    wpAny [4] A (Builtin.Dict.takeOut d (.ref a)) Q E s:=by
 obtain ⟨o,es,ho,hc,hd,he,his,hn⟩:=hm;unfold Builtin.Dict.takeOut; try with_reducible refine wpAny_holding ?_
 refine wpAny_bind (knd.pyHash hu hkey (wpAny_bind (wpAny_dictFind_heap (s:={ s with toks:=s.toks + knd.draws k }) hu hkey ho hd he his hn (λ hno=>?_) λ j q hj=>?_)))
 ·rw [atKey_none_of_get hno] at hp; cases hp
 ·have hq:=atKey_of_get hn hj;rw [hp] at hq;cases hq;refine wpAny_bind (wpAny_dictEntries (s:={ s with toks:=s.toks + knd.draws k }) ho hd ?_); rw [entry_at he j,hj];refine wpAny_bind (wpAny_updateDictKeys (hz:=by have e:=size_of_entries he; omega) (s:={ s with toks:=s.toks + knd.draws k }) ho hd (wpAny_pure (h _ _ rfl ⟨_,_,Heap.get?_update_self _ ho (Obj.isFreed_of_dict (Obj.data_mapDictKeys hd _)),hc.mapDictKeys _,Obj.data_mapDictKeys hd _,?_,λ c mc=>?_,?_⟩ (Heap.SameBut.update ..))))
  ·rw [<- yb1 hn hj];obtain ⟨l⟩:=es;have he':l=xs.map (entryOfKey knd):=he;subst he';simpa using wz0 _ xs j
  ·exact knd.keeps (his c (List.mem_filter.mp mc).1) ho hd (Heap.SameBut.update ..)
  ·exact hn.sublist (List.filter_sublist.map _)
end
theorem hu1 {A:Around} {k:Nat} (hr:Room k A):A.units + 1 < cLine:=by have:=hr.un; omega
section
variable {X:Cx}
theorem mtDp (hu:X.A.units + 1 < cLine):MtM X "dict.pop" (rDm true):=by
 intro pins s σ H x vs v us Q I rx rv h;obtain ⟨d,kvs,k,b,rfl,rfl,e,eb,q⟩:=h;cases rx;cases rv with
 | cons r1 r2 =>
 cases r2;rename_i u1;cases (show u1=Value.ref b from r1);obtain ⟨z,hd,xs,ep,rel,dd⟩:=tm3 I.hok (.inl e);have hz:xs.length<=sizeLine:=by rw [<- Paired.length rel]; exact z
 cases ev:valV kvs k with
 | none=>rw [ev] at q; exact q.elim
 | some v0 =>
  rw [ev] at q;have rv:=rel.val k;rw [ev] at rv;obtain ⟨w',hw',rw'⟩:=RelO.some_of rv;obtain ⟨p,hp,hp2⟩:=Option.map_eq_some_iff.mp hw';have dd':=dd;obtain ⟨o,es,ho,hc,hdt,he,his,hn⟩:=dd'
  have ne:es.isEmpty=false:=by
   obtain ⟨x,hx,hk⟩:=Option.map_eq_some_iff.mp hp;have:=List.mem_of_find?_eq_some hx;have l:=size_of_entries he;have:0 < xs.length:=List.length_pos_of_mem this;simp only [Array.isEmpty,decide_eq_false_iff_not];omega
  refine wpAny_call_entry F.slot_dict_pop dd.of.typeIs F.entry_dict_pop ?_ (F.args_dict_pop_2 _ _);unfold Builtin.«dict.pop»; refine wpAny_bind ?_;unfold Builtin.Dict.keyAndDefault; refine wpAny_bind (wpAny_notOrdered_dict dd.of.typeIs ?_);refine (show wpAny _ _ (pure (d,Value.ref b,none)) _ _ s from wpAny_pure ?_);show wpAny _ _ (dictEntries d >>= _) _ _ s;refine wpAny_bind (wpAny_dictEntries ho hdt ?_);refine wpAny_bind [29];rw [ne];refine (show wpAny _ _ (Builtin.Dict.takeOut d (.ref b) >>= _) _ _ s from wpAny_bind ?_);refine xo2 (tupleKind_room_in1 hu) (sk0 I.hok eb) dd hz hp λ en h' ev' dd2 hs=>?_;refine (show wpAny _ _ (letGo [en.key] [en.val] >>= _) _ _ _ from wpAny_bind (wpAny_letGo (wpAny_pure ⟨en.val,rfl,?_⟩)));rw [ev',hp2];obtain ⟨ob,es2,hq,h2,h3,h4,_,h5⟩:=dd2;refine ⟨v0,upd H d (.dK (L2.dropK kvs k)),zy1 (ob:=.dK (L2.dropK kvs k)) I (by rw [e]; exact True.intro) hs ⟨ob,hq⟩ ⟨Nat.le_trans (yg2 kvs k) z,hd,_,(KT.dropK rel k).keeps λ c ys ec=>?_,ob,es2,_,hq,h2,h3,h4,h5⟩,rw',q⟩;rw [vb0 (sy0 ec e (λ z=>nomatch z))]; exact ec
variable {o e:Expr} {es:List Expr} {to:TE3} {t:TA3} {apos cpos:Pos} {nm:Str} {id:String}
theorem yd3 {pp:Bool} (sl:Slot "dict" nm id) (ty:typeOf (.builtin id)=pure (.type "method_descriptor")) (mt:MtM X id (rDm pp)) (ho:RE X o to) (ha:RA X (e :: es) t) (hpl:∀ n ∈ [nm],True:=by intros; trivial) (hbase:attributeBase o nm X.env (eval o X.env)=eval o X.env:=by rfl)
    (hfew:((backTo cpos (starEach (e :: es) X.env)).all (λ x=>!x.1) && (backToKw cpos (keywordEach [] X.env)).all (λ x=>x.1.isSome)
     && decide [17])=true:=by rfl)
    (hline:(apos.endLine == cpos.line)=true:=by rfl) (hs:starEach (e :: es) X.env=[30] :: starEach es X.env:=by rfl) (hplain:(backTo cpos (starEach es X.env)).any (·.1)=false:=by rfl) :
    RE X (.Call (.Attribute o nm apos) (e :: es) [] cpos) (dm3 pp to t):=by
 obtain ⟨va,pa,ra⟩:=ho;obtain ⟨vb,pb,rb⟩:=ha;refine ⟨_,xt2 PySem.F.plainAttrs_dict sl ty mt pa pb hbase hfew hline hs hplain,λ σ H Q ρ μ Q3 s m h k=>ra σ H _ ρ μ _ s m h λ x μ1 v H1 h1 k1 r1 m1=>?_⟩;split at h1
 ·next p =>
  cases r1
  have rel:∀ {μ:Mu} {H:Hp} {kvs:[16]},RelM X.K μ H->dOf pp (μ p)=some kvs->∃ ws,H p=some (hOf pp ws) /\ RelKl X.K H kvs ws:=λ {μ H kvs} m e=>by
   cases pp with
   | true =>
    cases e0:μ p with
    | none=>rw [e0] at e; cases e
    | some o =>
     rw [e0] at e;cases o <;> cases e;exact m.dcp p _ e0
   | false =>
    cases e0:μ p with
    | none=>rw [e0] at e; cases e
    | some o =>
     rw [e0] at e;cases o <;> cases e;exact m.dcl p _ e0
  split at h1
  ·next kvs0 e0 =>
   obtain ⟨ws0,hw0,_⟩:=rel m1 e0;refine ⟨.inr (.inr (.inl ⟨rfl,by cases pp with | true=>exact .inl ⟨ws0,hw0⟩ | false=>exact .inr ⟨ws0,hw0⟩⟩)),rb σ H1 _ ρ μ1 _ (s.mono k1) m1 h1 λ ds μ2 vs H2 h2 k2 r2 m2=>?_⟩;split at h2
   ·next y =>
    cases r2 with
    | cons ry r2 =>
    cases r2;split at h2
    ·next kk kvs ek e =>
     obtain ⟨ws,hw,rk⟩:=rel m2 e;obtain ⟨b,rfl,hb⟩:=sj0 ry ek;refine ⟨p,ws,kL kk,b,rfl,rfl,hw,hb,?_⟩;rcases rk.val (t:=kk) with ⟨z1,z2⟩ | ⟨d',w',z1,z2,rd'⟩
     ·rw [z1] at h2;rw [z2];cases pp with
      | true=>exact h2.elim
      | false=>exact k _ _ _ _ h2 (k1.trans k2) .non m2
     ·rw [z1] at h2;rw [z2];cases pp with
      | true=>exact k _ _ _ _ h2 (k1.trans (k2.trans (Kp.wrK hw))) (rd'.mono (Kp.wrK hw)) (m2.wrP hw (rk.drop kk))
      | false=>exact k _ _ _ _ h2 (k1.trans k2) rd' m2
    ·exact h2.elim
   ·exact h2.elim
  ·exact h1.elim
 ·exact h1.elim
end
end Pv
namespace Pv
open PySem PySem.Spec PySem.W PyProof.Rows L2
abbrev P3:=List Key × Addr × Value
def fst3 (ps:List P3):List P3:=ps.foldl (λ xs p=>storedH xs p.1 p.2.1 p.2.2) []
section
variable {prog:Program} {w:World} {A:Around} {E:[2]} {R:Result->Shared->Prop} {s:Shared}
theorem xl3 {h h':Heap} {k:List Key} {a:Addr} (kp:KpH h h') (i:(tupleKind (zc0 prog w)).is h k a):(tupleKind (zc0 prog w)).is h' k a:=by
 obtain ⟨o,its,n,h1,h2⟩:=i;exact ⟨o,its,n,kp _ _ h1,h2⟩
theorem ts1 {a:Addr} {xs:Array Value} {k:Nat} {sl:Array (Option Value)} {Q:Option Value->Shared->Prop} (hx:s.heap.get? a=some { cls:=.type "list",dict:=none,data:=.seq xs k,slots:=sl }) (hA:A.handled=none)
    (h:∀ h' tk,KpH s.heap h'->Q none [32]):wpAny [4] A (getAttr? (.ref a) "keys") Q E s:=by
 obtain ⟨hp,g,d,tk,os⟩:=s;have hT:∀ tk',(⟨hp,g,d,tk',os⟩:Shared).TypeIs (.ref a) "list" := λ _=>⟨_,hx,rfl⟩;have f1:=sub_AttributeError;have f3:=F.slot_list_getattribute.lookup;have f4:=F.slot_list_getattribute.bind (.ref a);have f5:=am_list_getattr_none;have hmiss:typeLookup (.type "list") "keys" = pure none:=am_miss_of_fast [13];unfold getAttr? getAttrBy? getAttrBy
 repeat (any_goals (first | assumption | exact hT _ | ((with_reducible show wpAny _ _ (call (Value.builtin "list.__getattribute__") _ _) _ _ _); refine call_meets F.slot_list_getattribute (hT _) am_entry_list_getattribute (F.args_list_getattribute_2 _ _) (meets_getattribute_miss_list a xs k sl "keys" _ hmiss [13]) ⟨hx,hA,λ h' tk' e hx'=>?_⟩) | wp_step))
 obtain ⟨t',u',he⟩:=hx'.there;show wpAny _ _ (getattributeRaised _ _ _ _ _ _ _) _ _ _;unfold getattributeRaised
 repeat (any_goals (first | assumption | wp_step))
 exact h _ _ hx'.keeps
theorem vq0:entryFor table "dict.update.loop" = some Builtin.«dict.update.loop» := entryFor_of_tree (by kernel_rfl)
theorem uh0:plainId "dict.update.loop" = true:=by decide +kernel
theorem yx1 {h h':Heap} {d:Addr} {xs:List P3} {ep:Nat} (x:DHe (tupleKind (zc0 prog w)) h d xs ep) (k1:∀ o,h.get? d=some o->h'.get? d=some o) (k2:∀ y ∈ xs,(tupleKind (zc0 prog w)).is h' y.1 y.2.1):DHe (tupleKind (zc0 prog w)) h' d xs ep:=by
 obtain ⟨o,es,h1,h2,h3,h4,_,h6⟩:=x;exact ⟨o,es,k1 _ h1,h2,h3,h4,k2,h6⟩
theorem ya3 {xs:List P3} {p y:P3} (h:y ∈ storedH xs p.1 p.2.1 p.2.2):(y.1=p.1 /\ y.2.1=p.2.1) \/ ∃ z ∈ xs,y.1=z.1 /\ y.2.1=z.2.1:=by
 unfold storedH at h;split at h
 ·obtain ⟨z,hz,rfl⟩:=List.mem_map.mp h;refine .inr ⟨z,hz,?_⟩;unfold putAt;split <;> exact ⟨rfl,rfl⟩
 ·rcases List.mem_append.mp h with h | h
  ·exact .inr ⟨y,h,rfl,rfl⟩
  ·rw [List.mem_singleton.mp h]; exact .inl ⟨rfl,rfl⟩
theorem vw0 (ps:List P3) (p:P3):fst3 (ps ++ [p])=storedH (fst3 ps) p.1 p.2.1 p.2.2:=by unfold fst3; rw [List.foldl_append]; rfl
theorem uv1:∀ {n:Nat} {ps:List P3} {y:P3},ps.length=n->y ∈ fst3 ps->∃ z ∈ ps,y.1=z.1 /\ y.2.1=z.2.1
 | 0,[],y,_,h=>nomatch h
 | n + 1,ps,y,e,h=>by
  have hn:ps ≠ []:=λ z=>by rw [z] at e; cases e
  have q:=List.dropLast_concat_getLast hn;rw [<- q,vw0] at h;rcases ya3 h with h | ⟨z,hz,h⟩
  ·exact ⟨_,List.getLast_mem hn,h⟩
  ·obtain ⟨u,hu,k⟩:=uv1 (n:=n) (ps:=ps.dropLast) (by rw [List.length_dropLast]; omega) hz;exact ⟨u,List.dropLast_subset ps hu,h.1.trans k.1,h.2.trans k.2⟩
theorem za3 (xs:List P3) (k:List Key) (a:Addr) (v:Value):(storedH xs k a v).length<=xs.length + 1:=by
 unfold storedH;split
 ·rw [length_map]; omega
 ·simp
theorem tv1:∀ {n:Nat} {ps:List P3},ps.length=n->(fst3 ps).length<=ps.length
 | 0,[],_=>Nat.le_refl _
 | n + 1,ps,e=>by
  have hn:ps ≠ []:=λ z=>by rw [z] at e; cases e
  have q:=List.dropLast_concat_getLast hn;have ih:=tv1 (n:=n) (ps:=ps.dropLast) (by rw [List.length_dropLast]; omega);have l:=za3 (fst3 ps.dropLast) (ps.getLast hn).1 (ps.getLast hn).2.1 (ps.getLast hn).2.2;rw [<- vw0,q] at l;rw [List.length_dropLast] at ih;omega
theorem wy3 {I S:Addr} {fp wr:List Addr} {P:Nat->Value->Prop} {St:Nat->Heap->Prop} {h0:Heap} {ps:List P3} (W:Walks prog w A.in1 I fp wr ps.length P St) (hS:S ∉ fp) (ua:A.units + 1 < cLine) (hl:ps.length<=sizeLine)
    (low:∀ b ∈ S :: wr,h0.objs.size<=b) (hv:∀ i v,P i v->∃ a p,v=.ref a /\ ps[i]?=some p /\ IsTup h0 a #[.ref p.2.1,p.2.2]) (hk:∀ p ∈ ps,(tupleKind (zc0 prog w)).is h0 p.1 p.2.1) :
    ∀ (k i:Nat) (j:Int) (tj:Tok) (s:Shared) (ep:Nat),ps.length - i=k->i<=ps.length->St i s.heap->KpH h0 s.heap->DHe (tupleKind (zc0 prog w)) s.heap S (fst3 (ps.take i)) ep ->
     (∀ h' tk ep',KpH h0 h'->DHe (tupleKind (zc0 prog w)) h' S (fst3 ps) ep'->R (.ok (.ret .none)) [32]) ->
     codeAny [4] A (.builtin "dict.update.loop" ⟨[.ref S,.ref I,.int j tj,.none],[]⟩) R s:=by
 have nw:S ∉ wr:=λ h=>hS (W.sub _ h)
 have nl:∀ {b:Addr} {o:Obj},h0.get? b=some o->b ∉ wr /\ b ≠ S:=λ {b o} e =>
  ⟨λ z=>absurd (Heap.lt_size e) (Nat.not_lt.mpr (low b (mem_cons_of_mem _ z))),λ z=>absurd (Heap.lt_size e) (Nat.not_lt.mpr (low b (by rw [z]; exact mem_cons_self ..)))⟩
 have isk:∀ {h:Heap} {i:Nat},KpH h0 h->∀ y ∈ fst3 (ps.take i),(tupleKind (zc0 prog w)).is h y.1 y.2.1:=λ {h i} kp y hy=>by
  obtain ⟨z,hz,e1,e2⟩:=uv1 rfl hy;rw [e1,e2];exact xl3 kp (hk z (mem_of_mem_take hz))
 intro k
 induction k with
 | zero =>
  intro i j tj s ep hi1 hi st kp dd q;have:i=ps.length:=by omega
  subst this;refine codeAny_builtin vq0 ?_;rw [Around.under_plainId uh0 _];show wpAny _ A.in1 (pyNext (.ref I) >>= _) _ _ s;refine wpAny_bind (W.done s _ _ st λ h1 tk km=>?_);have kp1:KpH h0 h1:=λ b o e=>km b o (nl e).1 (kp b o e);have dd1:=yx1 dd (λ o e=>km S o nw e) (isk kp1);rw [List.take_length] at dd1;exact wpAny_pure (q h1 tk ep kp1 dd1)
 | succ k ih =>
  intro i j tj s ep hi1 hi st kp dd q;have lt:i < ps.length:=by omega
  refine codeAny_builtin vq0 ?_;rw [Around.under_plainId uh0 _];show wpAny _ A.in1 (pyNext (.ref I) >>= _) _ _ s;refine wpAny_bind (W.item i s _ _ lt st λ v h1 tk hP st1 km=>?_);obtain ⟨a,p,rfl,ep1,tb0⟩:=hv i v hP;have kp1:KpH h0 h1:=λ b o e=>km b o (nl e).1 (kp b o e);have tb:IsTup h1 a #[.ref p.2.1,p.2.2]:=tb0.keeps kp1;have dd1:=yx1 dd (λ o e=>km S o nw e) (isk kp1);have hp:=mem_of_getElem? ep1;have et:ps.take (i + 1)=ps.take i ++ [p]:=by rw [List.take_add_one,ep1]; rfl
  obtain ⟨ot,g1,g2,n,g3⟩:=tb;have tT:Shared.TypeIs { s with heap:=h1,toks:=tk } (.ref a) "tuple" := ⟨_,g1,g2⟩;refine wpAny_bind (wpAny_holding ?_);refine wpAny_bind (wpAny_tryCatch ?_);show wpAny _ _ (Builtin.Dict.pairItems (.ref a)) _ _ _;unfold Builtin.Dict.pairItems;refine wpAny_bind (wpAny_typeOf tT ?_);rw [if_pos [20]];refine wpAny_bind (wpAny_seqItems g1 g3 [29]);refine (show wpAny _ _ (holding [Value.ref p.2.1,p.2.2] (dictSet S (.ref p.2.1) p.2.2)) _ _ _ from wpAny_holding ?_);refine uw1 (s:={ s with heap:=h1,toks:=tk }) (tupleKind_room_in1 ua) (xl3 kp1 (hk p hp)) dd1 (Nat.le_trans (tv1 rfl) (by rw [length_take]; omega)) λ h2 ep2 _ dd2 sb=>?_;have kp2:KpH h0 h2:=λ b o e=>by rw [sb.2 b (nl e).2]; exact kp1 b o e
  refine wpAny_pure ⟨plainId_quiet uh0 _,ih (i + 1) (j + 1) 0 _ ep2 [1] lt (W.frame _ h1 _ st1 λ b hb o e=>?_) kp2 ?_ λ h' tk' ep' a b=>q h' tk' ep' a b⟩
  ·rw [sb.2 b (λ z=>hS (by rw [<- z]; exact hb))]; exact e
  ·rw [et,vw0]; exact dd2
theorem xx1 {l:Addr} {items:Array Value} {ps:List P3} {Q:[2]} (hh:A.handled=none) (hu:A.units + 16 < cLine) (hl:PlainL s.heap l items) (hz:items.size=ps.length) (hps:ps.length<=sizeLine)
    (hv:∀ (i:Nat) v,items[i]?=some v->∃ a p,v=.ref a /\ ps[i]?=some p /\ IsTup s.heap a #[.ref p.2.1,p.2.2]) (hk:∀ p ∈ ps,(tupleKind (zc0 prog w)).is s.heap p.1 p.2.1)
    (h:∀ (h':Heap) (tk ep:Nat),KpH s.heap h'->DHe (tupleKind (zc0 prog w)) h' s.heap.objs.size (fst3 ps) ep->Q (.ref s.heap.objs.size) [32]) :
    wpAny [4] A (call (.type "dict") [.ref l]) Q E s:=by
 refine callType_codes (Q₁:=λ obj s₁=>obj=.ref s.heap.objs.size /\ s₁={ s with heap:=s.heap.push { cls:=.type "dict",data:=.dict #[] } }) F.kt_called_dict (F.kt_typeCall_dict_1 _) F.entry_dict_init (kt_code_dict_new _ ⟨rfl,rfl⟩) ?_;rintro obj s₁ ⟨rfl,rfl⟩;have tS:Shared.TypeIs { s with heap:=s.heap.push { cls:=.type "dict",data:=.dict #[] } } (.ref s.heap.objs.size) "dict" := ⟨_,Heap.get?_push_size _ rfl,rfl⟩;refine ⟨tS,F.args_dict_init_2 _ _,?_⟩;unfold Builtin.«dict.__init__»;refine wpAny_bind ?_;unfold Builtin.Dict.selfAndRest;refine wpAny_bind (wpAny_notOrdered_dict tS ?_);show wpAny _ _ (pure (s.heap.objs.size,[Value.ref l])) _ _ _;refine wpAny_pure ?_;show wpAny _ _ (Builtin.Dict.updateFrom "dict.__init__" s.heap.objs.size (.ref l) [] .none) _ _ _;unfold Builtin.Dict.updateFrom;obtain ⟨⟨ocls,odict,odata,oslots⟩,n,gl,cl,nl,dl⟩:=hl;dsimp only at cl nl dl;subst cl nl dl;have gl1:=Heap.get?_push_of_some { cls:=.type "dict",data:=.dict #[] } gl;refine wpAny_bind (wpAny_typeOf ⟨_,gl1,rfl⟩ ?_);rw [if_pos [20]];refine wpAny_bind (ts1 gl1 hh λ h1 tk1 kp1=>?_);rw [if_pos [20]];refine wpAny_bind (wpAny_rule ?_);have il:h1.IsList l items:=⟨_,kp1 _ _ gl1,rfl,n,rfl⟩;refine wpAny_bind (wpAny_pyIter_list (s:={ s with heap:=h1,toks:=tk1 }) il ?_);have kp0:KpH s.heap h1:=λ b o e=>kp1 b o (Heap.get?_push_of_some _ e);have gS:h1.get? s.heap.objs.size=some { cls:=.type "dict",data:=.dict #[] }:=kp1 _ _ (Heap.get?_push_size _ rfl);have lS:=Heap.lt_size gS;have ll:=Heap.lt_size (kp0 _ _ gl);have l0:=Heap.lt_size gl;refine wpAny_pure ⟨plainId_quiet uh0 _,wy3 (A:=A.in1) (h0:=s.heap) (ps:=ps) (S:=s.heap.objs.size) (I:=h1.objs.size) (fp:=[h1.objs.size,l]) (wr:=[h1.objs.size]) (P:=λ i v=>items[i]?=some v) (St:=λ i h=>h.IsListIter h1.objs.size l i /\ h.IsList l items) ?_ ?_ (show A.units + 1 + 1 < cLine by omega) hps ?_ hv hk (ps.length - 0) 0 0 0 _ 0 rfl (Nat.zero_le _) ?_ ?_ ?_ ?_⟩
 ·rw [<- hz]; exact Walks.list (by simp [hh]) _ l (Nat.ne_of_lt ll) items
 ·intro z;rcases List.mem_cons.mp z with z | z
  ·exact Nat.ne_of_lt lS z
  ·exact Nat.ne_of_gt l0 (List.mem_singleton.mp z)
 ·intro b hb;simp only [mem_cons,not_mem_nil,or_false] at hb;rcases hb with rfl | rfl
  ·exact Nat.le_refl _
  ·exact Nat.le_of_lt lS
 ·exact ⟨⟨_,Heap.get?_push_size _ rfl,rfl,rfl⟩,il.push _⟩
 ·exact λ b o e=>Heap.get?_push_of_some _ (kp0 b o e)
 ·exact ⟨_,#[],Heap.get?_push_of_some _ gS,⟨rfl,rfl,rfl⟩,rfl,rfl,λ x hx=>(nomatch hx),nodup_nil⟩
 ·intro h' tk ep a b;exact ⟨rfl,h h' tk ep a b⟩
end
def key2:D->Option (List Int × D)
 | .tup [y,v]=>(keyI y).map λ k=>(k,v)
 | _=>none
def yr0:List D->Option (List (List Int × D))
 | []=>some []
 | d :: l=>match key2 d,yr0 l with
  | some p,some r=>some (p :: r)
  | _,_=>none
def dof (l:[16]):List (List Int × D):=l.foldl (λ kvs p=>putL kvs p.1 p.2) []
def dolR:C3:=λ ds μ Q=>match ds with
 | [.ref p]=>match μ p with
  | some (.lst l)=>match yr0 l with
   | some ps=>ps.length<=sizeLine /\ ∀ r,μ r=none->Q (.ref r) (updM μ r (.dcp (dof ps)))
   | none=>False
  | _=>False
 | _=>False
def Prs (H:Hp):List V->List (List Key × Addr × V)->Prop:=Paired λ v p=>∃ a,v=.ref a /\ H a=some (.tup [.ref p.2.1,p.2.2]) /\ H p.2.1=some (.tup (p.1.map kV))
def dofV (ps:List (List Key × Addr × V)):List (List Key × V):=ps.foldl (λ kvs p=>putK kvs p.1 p.2.2) []
def rDol (K:Fg):List V->Hp->VK->Prop:=λ xs H Q=>∃ p vs ps,xs=[.ref p] /\ SqL K H p vs /\ Prs H vs ps /\ ps.length<=sizeLine /\ ∀ r,H r=none->Q (.ref r) (upd H r (.dK (dofV ps)))
theorem tf3 {K:Fg} {H:Hp}:∀ {l:List D} {vs:List V} {ps:[16]},RelDs K H l vs->yr0 l=some ps->∃ qs,Prs H vs qs /\ qs.length=ps.length /\ RelKl K H (dof ps) (dofV qs):=by
 have main:∀ {l:List D} {vs:List V} {ps:[16]},RelDs K H l vs->yr0 l=some ps->∃ qs,Prs H vs qs /\ qs.length=ps.length /\ ∀ a b,RelKl K H a b->RelKl K H (ps.foldl (λ kvs p=>putL kvs p.1 p.2) a) (qs.foldl (λ kvs p=>putK kvs p.1 p.2.2) b):=by
  intro l
  induction l with
  | nil=>intro vs ps r e; cases r; cases e; exact ⟨[],.nil,rfl,λ a b h=>h⟩
  | cons d l ih =>
   intro vs ps r e;cases r with
   | cons rd rs =>
   unfold yr0 at e;split at e
   ·next p ps' e1 e2 =>
    cases e;obtain ⟨qs,h1,h2,h3⟩:=ih rs e2;unfold key2 at e1;split at e1
    ·next y v =>
     obtain ⟨k,ek,rfl⟩:=Option.map_eq_some_iff.mp e1;cases rd with
     | tup ha rl =>
     cases rl with
     | cons ry rl =>
     cases rl with
     | cons rv rl =>
     cases rl;obtain ⟨b,rfl,hb⟩:=sj0 ry ek;exact ⟨(kL k,b,_) :: qs,.cons ⟨_,rfl,ha,hb⟩ h1,by rw [length_cons,length_cons,h2],λ a b' h=>h3 _ _ (h.put rv)⟩
    ·cases e1
   ·cases e
 intro l vs ps r e;obtain ⟨qs,h1,h2,h3⟩:=main r e;exact ⟨qs,h1,h2,h3 _ _ .nil⟩
section
variable {X:Cx}
theorem xd2 {pins:[6]} {σ:L2.St} {H:Hp} {s:Shared} (I:L2.Inv X pins σ H s) {vs:List V} {qs:List (List Key × Addr × V)} (h:Prs H vs qs):∀ {its:[23]},Vals vs its->∃ ps:List P3,ps.length=its.length /\ (∀ (i:Nat) v,its[i]?=some v->∃ a p,v=.ref a /\ ps[i]?=some p /\ IsTup s.heap a #[.ref p.2.1,p.2.2]) ∧
    (∀ p ∈ ps,(tupleKind (zc0 X.prog X.w)).is s.heap p.1 p.2.1) /\ ∀ kvs xs,KT H kvs xs->KT H (qs.foldl (λ kvs p=>putK kvs p.1 p.2.2) kvs) (ps.foldl (λ xs p=>storedH xs p.1 p.2.1 p.2.2) xs):=by
 unfold Prs at h
 induction h with
 | nil=>intro its r; cases r; exact ⟨[],rfl,λ i v e=>by simp at e,λ p hp=>(nomatch hp),λ _ _ h=>h⟩
 | @cons v q vs qs hq t ih =>
  intro its r;obtain ⟨a,rfl,h1,h2⟩:=hq;cases r with
  | cons ra rs =>
  obtain ⟨ps,p1,p2,p3,p4⟩:=ih rs;cases ra;obtain ⟨_,us,ru,tu⟩:=(show ObjOk X.prog X.w H s.heap a (.tup [.ref q.2.1,q.2.2]) from I.hok a _ h1);cases ru with
  | cons r1 ru =>
  cases ru with
  | cons r2 ru =>
  cases ru;cases r1;refine ⟨(q.1,q.2.1,_) :: ps,by rw [length_cons,length_cons,p1],λ i v e=>?_,λ p hp=>?_,λ kvs xs hk=>p4 _ _ (hk.put q.1 h2 r2)⟩
  ·cases i with
   | zero=>cases e; exact ⟨a,_,rfl,rfl,tu⟩
   | succ i=>exact p2 i v (by simpa using e)
  ·rcases List.mem_cons.mp hp with rfl | hp
   ·exact sk0 I.hok h2
   ·exact p3 p hp
theorem ye1 (qs:List (List Key × Addr × V)):(dofV qs).length<=qs.length:=by
 have:∀ (qs:List (List Key × Addr × V)) kvs,(qs.foldl (λ kvs p=>putK kvs p.1 p.2.2) kvs).length<=kvs.length + qs.length:=by
  intro qs
  induction qs with
  | nil=>intro kvs; exact Nat.le_refl _
  | cons q qs ih=>intro kvs; have:=ih (putK kvs q.1 q.2.2); have:=xq0 kvs q.1 q.2.2; rw [foldl_cons,length_cons]; omega
 have:=this qs [];simpa [dofV] using this
theorem xh2 (hc:X.calm=true) (hu:X.A.units + 64 < cLine):CallR X (.type "dict") (rDol X.K):=by
 intro pins s σ H xs us Q I r h;obtain ⟨p,vs,qs,rfl,hq,hp,hl,k⟩:=h;cases r with
 | cons r rr =>
  cases rr;cases r;obtain ⟨its,rv,pl,hz⟩:=I.list hq;obtain ⟨ps,p1,p2,p3,p4⟩:=xd2 I hp rv;have lq:=Paired.length hp;have lv:=rv.length;refine xx1 (I.ok.hd hc) [1] pl (by rw [p1,size_toArray]) [1] (λ i v e=>p2 i v (by simpa using e)) p3 λ h' tk ep kp dd=>?_;obtain ⟨o,es,h1,h2,h3,h4,_,h6⟩:=dd;have hf:=I.hok.fresh (Nat.le_refl s.heap.objs.size);refine ⟨.ref _,_,I.laid (t':=tk) kp [18] (show ObjOk X.prog X.w _ h' _ (.dK (dofV qs)) from ⟨Nat.le_trans (ye1 qs) hl,?_,_,(p4 _ _ .nil).keeps λ b ys e=>?_,o,es,ep,h1,h2,h3,h4,h6⟩),rfl,k _ hf⟩
  ·exact beq_eq_false_iff_ne.mpr (Ne.symm (Nat.ne_of_lt I.big))
  ·rw [vb0 (xf0 e hf)]; exact e
theorem ve3 (hu:X.A.units + 64 < cLine) (hc:X.calm=true:=by rfl):RC X (.type "dict") dolR:=by
 refine ⟨_,xh2 hc hu,λ xs vs H Q μ Q3 m rx h k=>?_⟩;unfold dolR at h;split at h
 ·next p =>
  split at h
  ·next l e =>
   split at h
   ·next ps ek =>
    cases rx with
    | cons r rr =>
    cases rr;cases r;obtain ⟨us,hq,rl⟩:=m.lst p l e;obtain ⟨qs,h1,h2,h3⟩:=tf3 rl ek;refine ⟨p,us,qs,rfl,SqL.of hq,h1,by omega,λ r hr=>k _ _ _ _ (h.2 r (m.free hr)) (Kp.new hr) (.ref r) ?_⟩;exact m.newP hr h3
   ·exact h.elim
  ·exact h.elim
 ·exact h.elim
end
end Pv
namespace Pv
open PySem PySem.Spec PyProof.Rows L2
def gdf3 (to:TE3) (t:TA3):TE3:=λ ρ μ Q=>to ρ μ λ x μ1=>match x with
 | .ref p=>match μ1 p with
  | some (.dcl _)=>t ρ μ1 λ ds μ2=>match ds with
   | [y,d]=>match keyI y,μ2 p with
    | some k,some (.dcl kvs)=>(match valL kvs k with
     | some v=>Q v μ2
     | none=>Q d μ2)
    | _,_=>False
   | _=>False
  | _=>False
 | _=>False
def rGd:V->List V->Hp->VK->Prop:=λ x vs H Q=>∃ a kvs k b v,x=.ref a /\ vs=[.ref b,v] /\ H a=some (.dT kvs) /\ H b=some (.tup (k.map kV)) ∧
 (∀ u,valV kvs k=some u->Q u H) /\ (valV kvs k=none->Q v H)
section
variable {X:Cx}
theorem xx3 (hu:X.A.units + 1 < cLine):MtM X "dict.get" rGd:=by
 intro pins s σ H x vs v us Q I rx rv h;obtain ⟨d,kvs,k,b,v0,rfl,rfl,e,eb,q1,q2⟩:=h;cases rx;cases rv with
 | cons r1 r2 =>
 cases r2 with
 | cons r2 r3 =>
 cases r3;rename_i u1 u2;cases (show u1=Value.ref b from r1);refine xn3 hu I (DGet.t e eb) rfl r2 λ w' s' I' rw'=>?_;cases ev:valV kvs k with
 | none=>exact ⟨v0,H,I',by rw [ev] at rw'; exact rw',q2 ev⟩
 | some w''=>exact ⟨w'',H,I',by rw [ev] at rw'; exact rw',q1 _ ev⟩
variable {o e:Expr} {es:List Expr} {to:TE3} {t:TA3} {apos cpos:Pos}
theorem ts3 (hu:X.A.units + 64 < cLine) (ho:RE X o to) (ha:RA X (e :: es) t) (hbase:attributeBase o "get" X.env (eval o X.env)=eval o X.env:=by rfl)
    (hfew:((backTo cpos (starEach (e :: es) X.env)).all (λ x=>!x.1) && (backToKw cpos (keywordEach [] X.env)).all (λ x=>x.1.isSome)
     && decide [17])=true:=by rfl)
    (hline:(apos.endLine == cpos.line)=true:=by rfl) (hs:starEach (e :: es) X.env=[30] :: starEach es X.env:=by rfl) (hplain:(backTo cpos (starEach es X.env)).any (·.1)=false:=by rfl) :
    RE X (.Call (.Attribute o "get" apos) (e :: es) [] cpos) (gdf3 to t):=by
 obtain ⟨va,pa,ra⟩:=ho;obtain ⟨vb,pb,rb⟩:=ha;refine ⟨_,xt2 PySem.F.plainAttrs_dict slot_dict_get PySem.F.type_dict_get (xx3 [1]) pa pb hbase hfew hline hs hplain,λ σ H Q ρ μ Q3 s m h k=>ra σ H _ ρ μ _ s m h λ x μ1 v H1 h1 k1 r1 m1=>?_⟩;split at h1
 ·next p =>
  split at h1
  ·next kvs0 e0 =>
   cases r1;obtain ⟨ws0,hw0,_⟩:=m1.dcl p kvs0 e0;refine ⟨.inr (.inr (.inl ⟨rfl,.inr ⟨ws0,hw0⟩⟩)),rb σ H1 _ ρ μ1 _ (s.mono k1) m1 h1 λ ds μ2 vs H2 h2 k2 r2 m2=>?_⟩;split at h2
   ·next y d =>
    cases r2 with
    | cons ry r2 =>
    cases r2 with
    | cons rd r2 =>
    cases r2;split at h2
    ·next kk kvs ek e =>
     obtain ⟨ws,hw,rk⟩:=m2.dcl p kvs e;obtain ⟨b,rfl,hb⟩:=sj0 ry ek;refine ⟨p,ws,kL kk,b,_,rfl,rfl,hw,hb,λ u eu=>?_,λ eu=>?_⟩
     ·rcases rk.val (t:=kk) with ⟨_,z2⟩ | ⟨d',w',z1,z2,rd'⟩
      ·rw [eu] at z2; cases z2
      ·rw [eu] at z2; cases z2; rw [z1] at h2; exact k _ _ _ _ h2 (k1.trans k2) rd' m2
     ·rcases rk.val (t:=kk) with ⟨z1,_⟩ | ⟨d',w',_,z2,_⟩
      ·rw [z1] at h2; exact k _ _ _ _ h2 (k1.trans k2) rd m2
      ·rw [eu] at z2; cases z2
    ·exact h2.elim
   ·exact h2.elim
  ·exact h1.elim
 ·exact h1.elim
end
def xn0 (cells:List (Str × Addr)):List (Str × NameKind)->List (Str × Addr)->List (Str × Addr)
 | [],acc=>acc
 | (n,k) :: r,acc=>if k == .free then xn0 cells r ((n,(cells.lookup n).getD 0) :: acc) else xn0 cells r acc
theorem xx0 {scope:Scope} {env:Env} (h:∀ y ∈ scope.names,y.2=.free->(env.cells.lookup y.1).isSome=true):closureFor scope env=pure (xn0 env.cells scope.names []):=by
 unfold closureFor
 have key:∀ (l:List (Str × NameKind)) (acc:List (Str × Addr)),(∀ y ∈ l,y.2=.free->(env.cells.lookup y.1).isSome=true) ->
     (forIn l acc (λ x r=>if (x.2 == NameKind.free)=true then do let c <- cellOf env x.1; pure (ForInStep.yield ((x.1,c) :: r)) else pure (ForInStep.yield r)):Sem (List (Str × Addr)))=pure (xn0 env.cells l acc):=by
  intro l
  induction l with
  | nil=>intro acc _; rfl
  | cons y r ih =>
   intro acc hl;obtain ⟨n,k⟩:=y;rw [List.forIn_cons];have ih':=λ a=>ih a λ z hz=>hl z (mem_cons_of_mem _ hz);by_cases hk:k=.free
   ·subst hk;have hs:=hl (n,.free) (mem_cons_self ..) rfl;obtain ⟨c,hc⟩:=Option.isSome_iff_exists.mp hs;have ec:cellOf env n=pure c:=by unfold cellOf; rw [hc]
    simp only [xn0,ec,pure_bind,beq_self_eq_true,if_true,hc,Option.getD_some];exact ih' _
   ·have hk':(k == NameKind.free)=false:=by simpa using hk
    simp only [xn0,hk',Bool.false_eq_true,if_false,pure_bind];exact ih' _
 have:=key scope.names [] h;refine Eq.trans ?_ this;refine Eq.trans (bind_pure (forIn scope.names ([]:List (Str × Addr)) _:Sem (List (Str × Addr)))) ?_;congr 1
theorem uq0 {cells:List (Str × Addr)} {x:Str} {c:Addr}:∀ (l:List (Str × NameKind)) (acc:List (Str × Addr)),(∀ y ∈ l,y.2=.free->(cells.lookup y.1).isSome=true)->(acc.lookup x=some c->cells.lookup x=some c) ->
    (xn0 cells l acc).lookup x=some c->cells.lookup x=some c
 | [],acc,_,ha,h=>ha h
 | (n,k) :: r,acc,hl,ha,h=>by
  unfold xn0 at h;split at h
  ·next hk =>
   refine uq0 r _ (λ z hz=>hl z (mem_cons_of_mem _ hz)) (λ h2=>?_) h;rw [lookup_cons] at h2;split at h2
   ·next e =>
    have e':x=n:=eq_of_beq e;subst e';obtain ⟨c',hc⟩:=Option.isSome_iff_exists.mp (hl (x,k) (mem_cons_self ..) (eq_of_beq hk));rw [hc] at h2;simp only [Option.getD_some,Option.some.injEq] at h2;rw [hc,h2]
   ·exact ha h2
  ·exact uq0 r acc (λ z hz=>hl z (mem_cons_of_mem _ hz)) ha h
theorem tq0 {cells:List (Str × Addr)} {x:Str}:∀ (l:List (Str × NameKind)) (acc:List (Str × Addr)),((∃ c,acc.lookup x=some c) \/ (x,NameKind.free) ∈ l)->∃ c,(xn0 cells l acc).lookup x=some c
 | [],acc,h=>by
  rcases h with h | h
  ·exact h
  ·cases h
 | (n,k) :: r,acc,h=>by
  unfold xn0;split
  ·next hk =>
   refine tq0 r _ ?_;by_cases e:x=n
   ·subst e;left;exact ⟨(cells.lookup x).getD 0,by rw [lookup_cons]; simp⟩
   ·rcases h with ⟨c,h⟩ | h
    ·left;refine ⟨c,?_⟩;rw [lookup_cons];have:(x == n)=false:=by simpa using e
     rw [this]; exact h
    ·right;rcases List.mem_cons.mp h with h | h
     ·exact absurd (congrArg Prod.fst h) e
     ·exact h
  ·next hk =>
   refine tq0 r acc ?_;rcases h with h | h
   ·exact .inl h
   ·rcases List.mem_cons.mp h with h | h
    ·cases h; exact absurd rfl hk
    ·exact .inr h
theorem CompSc.free {X:Cx} {NN:List Str} {scope:Scope} {js:List [34]} (hcell:∀ y ∈ scope.names,y.2 ≠ .cell) (hk:scope.kind=.function) (hfn:X.env.scope.kind=.function)
    (hn:∀ y ∈ scope.names,y.2=.local->scope.names.lookup y.1=some .local) (hfree:∀ y ∈ scope.names,y.2=.free->X.env.scope.names.lookup y.1=some .cell) (hlook:∀ y ∈ scope.names,y.2=.free->scope.names.lookup y.1=some .free)
    (hcl:∀ x,X.env.scope.names.lookup x=some .cell->(X.env.cells.lookup x).isSome=true) (len:js.length=NN.length)
    (hout:∀ i ∈ List.range js.length,∀ j,js.getD i none=some j->∃ x,NN[i]?=some x /\ X.N[j]?=some x /\ scope.names.lookup x=some .free) :
    CompSc X NN scope (xn0 X.env.cells scope.names []) js where
 clos:=xx0 λ y hy e=>hcl _ (hfree y hy e)
 cell:=hcell
 kind:=hk
 names:=hn
 sub:=λ x c h=>uq0 scope.names [] (λ y hy e=>hcl _ (hfree y hy e)) (λ h=>by simp at h) h
 has:=λ x h=>by
  refine tq0 scope.names [] (.inr ?_)
  have hm:∃ k,(x,k) ∈ scope.names /\ (k=.free \/ k=.cell):=by
   have key:∀ kk,(relabel scope X.env).names.lookup x=some kk->(kk=.cell \/ kk=.free)->∃ k,(x,k) ∈ scope.names /\ (k=.free \/ k=.cell):=λ kk hkk hc=>by
    have hmem:=zh0 hkk;obtain ⟨⟨n,k⟩,hy,e⟩:=List.mem_map.mp hmem;dsimp only at e;split at e
    ·next hq =>
     cases e;simp only [Bool.and_eq_true] at hq;exact ⟨k,hy,.inl (by simpa using hq.1.1)⟩
    ·cases e;exact ⟨kk,hy,hc.symm⟩
   rcases h with h | h
   ·exact key _ h (.inl rfl)
   ·exact key _ h (.inr rfl)
  obtain ⟨k,hk1,hk2⟩:=hm;rcases hk2 with rfl | rfl
  ·exact hk1
  ·exact absurd rfl (hcell _ hk1)
 len:=len
 out:=λ i j h=>by
  have hi:i < js.length:=by
   rcases Nat.lt_or_ge i js.length with z | z
   ·exact z
   ·rw [List.getElem?_eq_none z] at h; cases h
  obtain ⟨x,e1,e2,e3⟩:=hout i (List.mem_range.mpr hi) j (by rw [getD_eq_getElem?_getD,h]; rfl);have hf:=hfree (x,.free) (zh0 e3) rfl;refine ⟨x,e1,e2,.inr (.inl hf),by rw [hf]; simp,?_⟩;left
  have key:∀ (l:List (Str × NameKind)),l.lookup x=some .free->(l.map λ (n,k)=>if (k == NameKind.free && X.env.scope.kind == .function && X.env.kindOf n == some .cell) then (n,NameKind.cell) else (n,k)).lookup x=some .cell:=λ l=>by
   induction l with
   | nil=>intro h; simp at h
   | cons y r ih =>
    obtain ⟨n,k⟩:=y;intro h;rw [lookup_cons] at h;rw [map_cons,lookup_cons];by_cases e:x=n
    ·subst e;simp only [beq_self_eq_true,Option.some.injEq] at h;subst h
     have hkind:(X.env.kindOf x == some NameKind.cell)=true:=by
      show (X.env.scope.names.lookup x == some NameKind.cell)=true;rw [hf]; rfl
     simp [hfn,hkind]
    ·have e':(x == n)=false:=by simpa using e
     rw [e'] at h;have ih':=ih h;by_cases hq:(k == NameKind.free && X.env.scope.kind == ScopeKind.function && X.env.kindOf n == some NameKind.cell)=true
     ·simp only [hq,if_true,e']; exact ih'
     ·simp only [hq,Bool.false_eq_true,if_false,e']; exact ih'
  exact key _ e3
theorem wf1 {CX:CXT} {P:Program} {w:World} {K:Fg} {mg:Str->Option Value} {base:Heap} {N:List Str} {qual:Str} {sc:Scope} {f:Addr} {cdv:Value} {A:Around} {outer:List Env} {s:Shared} {H:Hp} {E:XK} {NN:List Str} {scope:Scope} {js:List [34]}
    (hcell:∀ y ∈ scope.names,y.2 ≠ .cell:=by decide +kernel) (hk:scope.kind=.function:=by rfl) (hfn:sc.kind=.function:=by rfl)
    (hn:∀ y ∈ scope.names,y.2=.local->scope.names.lookup y.1=some .local:=by decide +kernel) (hfree:∀ y ∈ scope.names,y.2=.free->sc.names.lookup y.1=some .cell:=by decide +kernel)
    (hlook:∀ y ∈ scope.names,y.2=.free->scope.names.lookup y.1=some .free:=by decide +kernel) (len:js.length=NN.length:=by rfl)
    (hout:∀ i ∈ List.range js.length,∀ j ∈ (js.getD i none).toList,∃ x ∈ NN[i]?.toList,N[j]?=some x /\ scope.names.lookup x=some .free:=by decide +kernel) :
    CompSc (cxOf CX P w K mg base N qual sc f cdv A outer s H E).nox NN scope (xn0 (cxOf CX P w K mg base N qual sc f cdv A outer s H E).nox.env.cells scope.names []) js :=
 CompSc.free (X:=(cxOf CX P w K mg base N qual sc f cdv A outer s H E).nox) hcell hk hfn hn hfree hlook (λ x h=>by
  obtain ⟨c,hc⟩:=yx0 (n:=_) h
  exact Option.isSome_iff_exists.mpr ⟨c,hc⟩) len λ i hi j hj=>by
   obtain ⟨x,h1,h2,h3⟩:=hout i hi j (by rw [hj]; simp);exact ⟨x,by simpa using h1,h2,h3⟩
section
variable {X:Cx} {NN:List Str} {scope:Scope} {cl:List (Str × Addr)} {js:List [34]}
theorem tw2 {elt target iter:Expr} {ifs:List Expr} {pos:Pos} {wi:TI} {g:TG} {tc:TT} {te:TE} (hc:X.calm=true) (S:CompSc X NN scope cl js) (hi:PI X target iter wi)
    (hg:∀ C fp s₀ H₀ pn,PG [9] target g) (ht:∀ C fp s₀ H₀ pn,PTs [9] ifs tc) (he:∀ C fp s₀ H₀ pn,PE [9] elt te)
    (hs:∀ x,foldedSetIterable iter X.env x=pure x) {use:Option (Value->Sem Unit)} {Q':[2]} {pins:[6]} {s:Shared} {σ:L2.St} {H:Hp} {Q:VK} (I:[5]) (h:sn1 js wi g tc te σ H Q)
    (hu:∀ (p0 C:Addr) (H':Hp) (s':Shared) (m':Str->Option Value),Inv X pins σ H' s'->s'.heap.Ns C m'->H' C=none->C ≠ X.env.locals->X.s₀.heap.objs.size<=C->(∀ x c,X.env.cells.lookup x=some c->c ≠ C)->(∀ p ∈ X.pn ++ pins,p.1 ≠ C)->Q (.ref p0) H' ->
     compPost [8] X.A X.xe use Q' (.ref p0) C (.ok .next) s') :
    wpAny [8] X.A (comprehension [10] scope X.env (firstIterPos [⟨target,iter,ifs,0⟩] pos) (newList []) (firstAsync [⟨target,iter,ifs,0⟩]) (firstIter [⟨target,iter,ifs,0⟩] X.env) use) Q' X.xe s:=by
 refine wpAny_comprehension_free (use:=use) rfl hs S.clos S.kind S.names (thn (hi pins s σ H _ I h) λ xv s1 h1=>thn h1 λ itv s2 h2=>?_);obtain ⟨it,fp,tn,J,H2,rfl,I2,T,st2,f2,hW⟩:=h2;refine wpAny_newObj_type (wpAny_newFunctionEnv S.cell (by intro y hy; simp at hy) (λ h₁ hns₁ hsb₁=>?_) S.kind);dsimp only at hns₁ hsb₁ ⊢;have hD:H2 s2.heap.objs.size=none:=I2.hok.fresh [18]
 have I3:Inv X pins σ (upd H2 s2.heap.objs.size (.lst [])) { s2 with heap:=s2.heap.push [36] } :=
  I2.lnew (t':=s2.toks) (its:=[]) .nil (by rw [sizeLine_eq]; decide)
 generalize hsD:({ s2 with heap:=s2.heap.push [36] }:Shared)=sD at I3;have eh:sD.heap=s2.heap.push [36]:=by rw [<- hsD]
 have es:∀ (h:Heap) (tk:Nat),({ s2 with heap:=h,toks:=tk }:Shared)={ sD with heap:=h,toks:=tk }:=λ h tk=>by rw [<- hsD]
 have hsz:s2.heap.objs.size < sD.heap.objs.size:=by rw [eh,Heap.size_push]; exact Nat.lt_succ_self _
 rw [<- eh] at hns₁ hsb₁ ⊢;generalize hp0:s2.heap.objs.size=p0 at *;have up:∀ b u,s2.heap.get? b=some u->sD.heap.get? b=some u:=λ b u e=>by rw [eh]; exact Heap.get?_push_of_some _ e
 have k:∀ b u,sD.heap.get? b=some u->h₁.get? b=some u:=λ b u e=>hsb₁.extBut b u (Nat.ne_of_lt (Heap.lt_size e)) (Heap.get?_push_of_some _ e)
 have f3:∀ b ∈ fp,FpOk X pins (upd H2 p0 (.lst [])) b /\ b < sD.heap.objs.size:=λ b hb=>by
  obtain ⟨o,ho,_⟩:=T.obj 0 _ st2 b hb;have hlt:b < p0:=by rw [<- hp0]; exact Heap.lt_size ho
  refine ⟨⟨?_,(f2 b hb).2⟩,Nat.lt_trans hlt hsz⟩;rw [vb0 (Nat.ne_of_lt hlt)]; exact (f2 b hb).1
 obtain ⟨W,⟨m0,w0⟩,turn⟩:=hW p0 hD;have I4:=vb1 (tk:=s2.toks + ([]:List (Str × Value)).length) hc S I3 f3 hns₁ k;have st4:tn 0 h₁:=T.keep 0 _ _ st2 λ b _ o e=>k b o (up b o e);rw [es];generalize hX':zd0 X NN scope cl sD.heap.objs.size fp sD (upd H2 p0 (.lst [])) (X.pn ++ pins)=X' at I4;have a1:X'.env=compEnvC scope cl sD.heap.objs.size X.env:=by rw [<- hX']
 have a2:X'.prog=X.prog:=by rw [<- hX']
 have a3:X'.w=X.w:=by rw [<- hX']
 have a4:X'.A=X.A:=by rw [<- hX']
 have a5:X'.K=X.K:=by rw [<- hX']
 have a6:X'.calm=true:=by rw [<- hX']; exact hc
 have a7:X'.xe=λ _ _=>False:=by rw [<- hX']
 have a8:X'.ex=fp:=by rw [<- hX']
 have T':Turn X'.prog X'.w X'.K target J fp it tn:=by rw [a2,a3,a5]; exact T
 have hg':PG X' target g:=by rw [<- hX']; exact hg _ _ _ _ _
 have ht':PTs X' ifs tc:=by rw [<- hX']; exact ht _ _ _ _ _
 have he':PE X' elt te:=by rw [<- hX']; exact he _ _ _ _ _
 have fin:∀ {σ':L2.St} {H':Hp} {s':Shared},Inv X' [] σ' H' s'->Q (.ref p0) H'->compPost [8] X.A X.xe use Q' (.ref p0) sD.heap.objs.size (.ok .next) s':=λ {σ' H' s'} I' q=>by
  obtain ⟨m',hn',_⟩:=I'.loc;rw [a1] at hn'
  have u:Un (frs X.stack) fp (upd H2 p0 (.lst [])) H' sD.heap s'.heap:=by
   have:=I'.base;rw [<- hX'] at this;exact this
  have hch:∀ b ∈ fp,(b ∈ X.ex \/ X.s₀.heap.objs.size<=b) /\ b ≠ X.env.locals /\ (∀ x c,X.env.cells.lookup x=some c->c ≠ b) /\ ∀ p ∈ X.pn ++ pins,p.1 ≠ b:=λ b hb=>by
   obtain ⟨_,z1,_,z3,z4,z5⟩:=(f3 b hb).1;exact ⟨z3,z1,z4,z5⟩
  have os':s'.os=sD.os:=by
   have:=I'.os;rw [<- hX'] at this;exact this
  have hok':HOk X.prog X.w H' s'.heap:=by
   have:=I'.hok;rw [<- hX'] at this;exact this
  have I5:Inv X pins σ H' s':=I3.call' os' u hok' I'.bare hch
  have hC:H' sD.heap.objs.size=none:=by
   have:=I'.free;rw [a1] at this;exact this
  refine hu p0 _ H' s' m' I5 hn' hC (Nat.ne_of_gt I3.lt) I3.sz (λ x c e=>?_) (λ p hp=>?_) q
  ·obtain ⟨v,o,ho,_⟩:=I3.cell x c e;exact Nat.ne_of_lt (Heap.lt_size ho)
  ·exact Nat.ne_of_lt (Heap.lt_size (I3.pin p hp).1)
 have fp4:∀ {H':Hp},(∀ b ∈ fp,H' b=none)->∀ b ∈ fp,FpOk X' [] H' b:=λ hn b hb=>by
  obtain ⟨_,z1,z2,z3,z4,z5⟩:=(f3 b hb).1;rw [<- hX'];refine ⟨hn b hb,Nat.ne_of_lt (f3 b hb).2,λ z=>?_,.inl hb,λ x c e=>z4 x c (S.sub x c e),λ p hp=>z5 p (by simpa using hp)⟩;rcases List.mem_cons.mp (I3.stkSub _ z) with z | z
  ·exact z1 z
  ·exact z2 z
 have loop:∀ s₃:Shared,Inv X' [] (xm0 js σ) (upd H2 p0 (.lst [])) s₃->tn 0 s₃.heap ->
     codeAny [8] X.A (.compLoop [10] 0 (.ref it) (.ref p0) (compEnvC scope cl sD.heap.objs.size X.env)) (compPost [8] X.A X.xe use Q' (.ref p0) sD.heap.objs.size) s₃:=by
  intro s₃ I₃ st₃;refine codeAny_loop rfl (λ n s'=>∃ i σ' H',Inv X' [] σ' H' s' /\ tn i s'.heap /\ (∀ b ∈ fp,H' b=none) /\ W i n σ' H') (λ n s' hI=>?_) m0 ⟨0,xm0 js σ,_,I₃,st₃,λ b hb=>(f3 b hb).1.1,w0⟩;obtain ⟨i,σ3,H3,J3,st3,fr3,w3⟩:=hI;have tr:=turn i n σ3 H3 w3;show wpAny _ X.A ((compTurn [10] 0 (.ref it) (.ref p0) (compEnvC scope cl sD.heap.objs.size X.env)).onRaise (λ x=>do noteFrame x (compEnvC scope cl sD.heap.objs.size X.env); theTreesLotGoes x)) _ _ s';refine wpAny_noted ?_;rw [compTurn_list,<- a1,<- a2,<- a3,<- a4];have nof:∀ {α:Type} {t:Sem α} {Q':α->Shared->Prop} {s'':Shared} {E:[2]},wpAny (model X'.prog X'.w) X'.A t Q' X'.xe s''->wpAny (model X'.prog X'.w) X'.A t Q' E s'':=λ h=>wpAny_mono h (λ _ _ q=>q) λ _ _ z=>by rw [a7] at z; exact z.elim
  rcases tr with ⟨stop,qn⟩ | ⟨go,step⟩
  ·refine wpAny_bind (wpAny_standAt (wpAny_bind (nof (thn (T'.done X' rfl rfl rfl a6 i [] s' σ3 H3 X'.xe J3 (fp4 fr3) st3 stop) λ r s4 ⟨hr,J4⟩=>?_))));subst hr;refine wpAny_pure ?_;show compPost (model X'.prog X'.w) X'.A X.xe use Q' (.ref p0) sD.heap.objs.size (.ok .next) s4;rw [a2,a3,a4];exact fin J4 qn
  ·refine wpAny_bind (wpAny_standAt (wpAny_bind (nof (thn (T'.item X' rfl rfl rfl a6 i [] s' σ3 H3 X'.xe J3 (fp4 fr3) st3 go) λ r s4 ⟨u,hr,h4⟩=>?_))));subst hr;refine wpAny_bind (nof (thn h4 λ _ s5 ⟨x,H5,I5,r5,y5,st5,fr5⟩=>?_));have I5':=I5.pinned (fp4 fr5) (T.obj _ _ st5);refine wpAny_bind (nof (thn (hg' _ s5 σ3 H5 x u _ I5' r5 (step x H5 y5)) λ _ s6 ⟨σ6,H6,I6,q6⟩=>?_));refine wpAny_bind (nof (thn (ht' _ s6 σ6 H6 _ I6 q6) λ ok s7 ⟨H7,I7,q7⟩=>?_))
   have again:∀ {s8:Shared} {σ8:L2.St} {H8:Hp},Inv X' ([] ++ ys0 fp s5.heap) σ8 H8 s8->(∃ m',m' < n /\ W (i + 1) m' σ8 H8)->∃ m,m < n /\ ∃ i σ' H',Inv X' [] σ' H' s8 /\ tn i s8.heap /\ (∀ b ∈ fp,H' b=none) /\ W i m σ' H':=λ {s8 σ8 H8} I8 ⟨m',hm,w8⟩=>by
    refine ⟨m',hm,i + 1,σ8,H8,I8.unpinned,T.keep _ _ _ st5 λ b hb o e=>(I8.pin (b,o) (mem_append_right _ (mem_append_right _ (xg0 hb e)))).1,λ b hb=>?_,w8⟩;obtain ⟨o,e,d⟩:=T.obj _ _ st5 b hb;exact (I8.pin (b,o) (mem_append_right _ (mem_append_right _ (xg0 hb e)))).2.1
   cases ok with
   | false=>exact wpAny_pure ⟨rfl,again I7 q7⟩
   | true =>
    refine wpAny_bind (wpAny_bind (nof (thn (he' _ s7 σ6 H7 _ I7 q7) λ xv s8 ⟨y,H8,I8,r8,ys,q8,hlen,q9⟩=>wpAny_bind (nof ?_))));refine thn (tp0 (X:=X') _ s8 σ6 H8 (.ref p0) [y] (.ref p0) [xv] (λ v H9=>v=.non /\ H9=upd H8 p0 (.lst (ys ++ [y]))) I8 rfl (.cons r8 .nil) ⟨p0,ys,y,rfl,rfl,q8,hlen,rfl,rfl⟩) λ rv s9 ⟨v9,H9,I9,_,_,e9⟩=>?_;subst e9;exact wpAny_pure (wpAny_pure ⟨rfl,again I9 q9⟩)
 exact codeAny_compStart_list (loop _ I4 st4) (T.self X.A 0 _ _ _ st4 (loop _ I4 st4))
theorem vr2 {i:Nat} {x:Str} {px apos:Pos} {elt target iter:Expr} {ifs:List Expr} {pos:Pos} {wi:TI} {g:TG} {tc:TT} {te:TE} (hN:X.N.Nodup) (hi':X.N[i]?=some x) (hl:X.env.scope.names.lookup x=some .local) (hc:X.calm=true) (S:CompSc X NN scope cl js) (hi:PI X target iter wi)
    (hg:∀ C fp s₀ H₀ pn,PG [9] target g) (ht:∀ C fp s₀ H₀ pn,PTs [9] ifs tc) (he:∀ C fp s₀ H₀ pn,PE [9] elt te)
    (hs:∀ x,foldedSetIterable iter X.env x=pure x) (hw:swapsWith [10] (some (.Name x px)) apos.line X.env=pure true) :
    PS X (.Assign [.Name x px] [10] apos) (tAsg (sn1 js wi g tc te) (uv2 i)):=by
 intro pins s σ H D I h;rw [exec_Assign_Name_used _ _ _ _ hw];refine wpAny_bind (wpAny_standAt (wpAny_bind ?_));show wpAny _ _ (comprehension [10] scope X.env (firstIterPos [⟨target,iter,ifs,0⟩] pos) (newList []) (firstAsync [⟨target,iter,ifs,0⟩]) (firstIter [⟨target,iter,ifs,0⟩] X.env) (some (assign (.Name x px) X.env)) >>= λ _=>pure ()) _ _ s;refine wpAny_bind (wpAny_mono (tw2 (use:=some (assign (.Name x px) X.env)) (Q':=λ _ s'=>SP X pins D .next s') hc S hi hg ht he hs I h λ p0 C H' s' m' I5 hn hC n1 n2 n3 n4 q=>?_) (λ _ s' hq=>wpAny_pure (wpAny_pure hq)) λ _ _ e=>e);show wpAny _ _ (assign (.Name x px) X.env (.ref p0)) _ _ s';refine wpAny_assign_Name (ux0 I5 hN hi' (.inl hl) (v:=.ref p0) rfl (λ s2 I6 ⟨b,sb,hb⟩=>?_) (.inr hl))
 have nb:C ≠ b:=by
  rcases hb with hb | hb
  ·rw [hb]; exact n1
  ·exact Ne.symm (n3 x b hb)
 exact ⟨m',hn.sameBut sb nb,λ h' sb'=>⟨_,H',I6.turned (t':=s2.toks) (λ b o hb e=>sb'.extBut b o hb e) hC n1 (.inr n2) n3 n4,q⟩⟩
end
section
variable {X:Cx} {elt target iter:Expr} {ifs:List Expr} {pos:Pos} {ti:TI3} {g:TG3} {tc:TT3} {te:TE3} {NN:List Str} {scope:Scope} {cl:List (Str × Addr)} {js:List [34]}
theorem tb2 {i:Nat} {x:Str} {px apos:Pos} (hN:X.N.Nodup) (hc:X.calm=true) (S:CompSc X NN scope cl js) (hi:RI X target iter ti) (hg:∀ C fp s₀ H₀ pn,RG [9] target g)
    (ht:∀ C fp s₀ H₀ pn,RTs [9] ifs tc) (he:∀ C fp s₀ H₀ pn,RE [9] elt te)
    (hs:∀ x,foldedSetIterable iter X.env x=pure x) (hi':X.N[i]?=some x:=by rfl) (hl:X.env.scope.names.lookup x=some .local:=by rfl)
    (hw:swapsWith [10] (some (.Name x px)) apos.line X.env=pure true:=by rfl):RS X (.Assign [.Name x px] [10] apos) (set3 i (th0 js ti g tc te)):=by
 obtain ⟨wi,pi,ri⟩:=hi
 let gU:TG:=λ v σ H Q=>∀ (r:TG3),r=g->∃ d ρ μ Q3,RSt X.K H ρ σ /\ RelM X.K μ H /\ RelD X.K H d v /\ g d ρ μ Q3 /\ (∀ ρ' μ' σ' H',Q3 ρ' μ'->Kp H H'->RSt X.K H' ρ' σ'->RelM X.K μ' H'->Q σ' H')
 let tU:TT:=λ σ H Q=>∃ ρ μ Q3,RSt X.K H ρ σ /\ RelM X.K μ H /\ tc ρ μ Q3 /\ (∀ b μ' H',Q3 b μ'->Kp H H'->RelM X.K μ' H'->Q b H')
 let eU:TE:=λ σ H Q=>∃ ρ μ Q3,RSt X.K H ρ σ /\ RelM X.K μ H /\ te ρ μ Q3 /\ Ks X.K H Q3 Q
 have hg':∀ C fp s₀ H₀ pn,PG [9] target gU:=λ C fp s₀ H₀ pn=>by
  obtain ⟨tv,p,r⟩:=hg C fp s₀ H₀ pn;intro pins s σ H v u Q I rv h;obtain ⟨d,ρ,μ,Q3,a1,a2,a3,a4,a5⟩:=h g rfl;exact p pins s σ H v u Q I rv (r v d σ H Q ρ μ Q3 a1 a2 a3 a4 a5)
 have ht':∀ C fp s₀ H₀ pn,PTs [9] ifs tU:=λ C fp s₀ H₀ pn=>by
  obtain ⟨tv,p,r⟩:=ht C fp s₀ H₀ pn;intro pins s σ H Q I h;obtain ⟨ρ,μ,Q3,a1,a2,a3,a4⟩:=h;exact p pins s σ H Q I (r σ H Q ρ μ Q3 a1 a2 a3 a4)
 have he':∀ C fp s₀ H₀ pn,PE [9] elt eU:=λ C fp s₀ H₀ pn=>by
  obtain ⟨tv,p,r⟩:=he C fp s₀ H₀ pn;intro pins s σ H Q I h;obtain ⟨ρ,μ,Q3,a1,a2,a3,a4⟩:=h;exact p pins s σ H Q I (r σ H Q ρ μ Q3 a1 a2 a3 a4)
 have rd:RdE X.K (sn1 js wi gU tU eU) (th0 js ti g tc te):=RdE.comp ri (λ v d σ H Q ρ μ Q3 a1 a2 a3 a4 a5 _ _=>⟨d,ρ,μ,Q3,a1,a2,a3,a4,a5⟩) (λ σ H Q ρ μ Q3 a1 a2 a3 a4=>⟨ρ,μ,Q3,a1,a2,a3,a4⟩) (λ σ H Q ρ μ Q3 a1 a2 a3 a4=>⟨ρ,μ,Q3,a1,a2,a3,a4⟩);exact ⟨_,vr2 hN hi' hl hc S pi hg' ht' he' hs hw,λ σ H D ρ μ D3 s m h k=>rd σ H _ ρ μ _ s m h λ d μ1 v H1 h1 k1 r1 m1=>k.nx _ _ _ _ h1 k1 ((s.mono k1).set i r1) m1⟩
theorem xh1 {i:Nat} {x:Str} {px apos:Pos} (hN:X.N.Nodup) (hf:∀ y ∈ scope.names,y.2 ≠ .free) (hcl:∀ y ∈ scope.names,y.2 ≠ .cell) (hn:∀ y ∈ scope.names,y.2=.local->scope.names.lookup y.1=some .local) (hi:RI X target iter ti) (hg:∀ C fp s₀ H₀ pn,RG (zd0 X NN scope [] C fp s₀ H₀ pn) target g)
    (ht:∀ C fp s₀ H₀ pn,RTs (zd0 X NN scope [] C fp s₀ H₀ pn) ifs tc) (he:∀ C fp s₀ H₀ pn,RE (zd0 X NN scope [] C fp s₀ H₀ pn) elt te) (hc:X.calm=true:=by rfl) (hk:scope.kind=.function:=by rfl)
    (hs:∀ x,foldedSetIterable iter X.env x=pure x:=by intro _; rfl) (hi':X.N[i]?=some x:=by rfl) (hl:X.env.scope.names.lookup x=some .local:=by rfl)
    (hw:swapsWith [10] (some (.Name x px)) apos.line X.env=pure true:=by rfl):RS X (.Assign [.Name x px] [10] apos) (set3 i (th0 (NN.map λ _=>none) ti g tc te)) :=
 tb2 hN hc (CompSc.closed hf hcl hk hn) hi hg ht he hs hi' hl hw
end
end Pv
namespace Pv
open PySem
def isN:D->Bool
 | .non=>true
 | _=>false
def isNR (neg:Bool):R3:=λ x y μ Q=>match y with
 | .non=>Q (.bl (if neg then !isN x else isN x)) μ
 | _=>False
def xu2:C3:=λ ds μ Q=>match ds with
 | [.int i,.int j]=>Q (.int (if j < i then j else i)) μ
 | _=>False
end Pv
namespace Pv
open PySem PySem.Spec PyProof.Rows L2
section
variable {X:Cx}
theorem wx3 {K:Fg} {H:Hp} {x:D} {v:V} (r:RelD K H x v):decide (v=.non)=isN x:=by
 cases r <;> simp [isN]
theorem xv3:RO X (compareOp .Is) (isNR false):=by
 refine ⟨_,yi3,λ x y v u H Q μ Q3 m rx ry h k=>?_⟩;cases ry with
 | non =>
  refine ⟨rfl,?_⟩;rw [wx3 rx];exact k _ _ _ _ h (Kp.refl _) (.bl _) m
 | _=>exact False.elim h
theorem we3 (hc:X.calm=true):RC X (.builtin "min") xu2:=by
 refine ⟨_,ty1 hc,λ xs vs H Q μ Q3 m r h k=>?_⟩;cases r with
 | nil=>exact False.elim h
 | cons r1 r2 =>
  cases r1 with
  | int i =>
   cases r2 with
   | nil=>exact False.elim h
   | cons r2 r3 =>
    cases r2 with
    | int j =>
     cases r3 with
     | nil=>exact ⟨i,j,rfl,k _ _ _ _ h (Kp.refl _) (.int _) m⟩
     | cons _ _=>exact False.elim h
    | _=>exact False.elim h
  | _=>exact False.elim h
end
end Pv
namespace Pv
open PySem
end Pv
namespace Pv
open PySem PySem.Spec PyProof.Rows L2
section
variable {X:Cx}
def zm1:C3:=λ ds μ Q=>match ds with
 | [.ref p]=>match μ p with
  | some (.lst l)=>match ints? l with
   | some ns=>0 < ns.length /\ ∀ m,m ∈ ns->(∀ a,a ∈ ns->m<=a)->Q (.int m) μ
   | none=>False
  | _=>False
 | _=>False
def wm1:C3:=λ ds μ Q=>match ds with
 | [.ref p]=>match μ p with
  | some (.lst l)=>match ints? l with
   | some ns=>0 < ns.length /\ ∀ m,m ∈ ns->(∀ a,a ∈ ns->a<=m)->Q (.int m) μ
   | none=>False
  | _=>False
 | _=>False
theorem uy1 (hc:X.calm=true):CallR X (.builtin "min") (λ xs H Q=>∃ (p:Addr) (ns:List Int),xs=[.ref p] /\ SqL X.K H p (ns.map V.int) /\ 0 < ns.length /\ ∀ m,m ∈ ns->(∀ a,a ∈ ns->m<=a)->Q (.int m) H):=by
 intro pins s σ H xs us Q I r h;obtain ⟨p,ns,rfl,hq,hne,q⟩:=h;obtain ⟨u,rfl,rx⟩:=wk1 r;cases rx;obtain ⟨its,r',pl,hz⟩:=I.list hq;have hi:=us0 r';obtain ⟨ys,e⟩:=hi.allInts.items;have hl:=pl.isList;rw [e] at hl;have hns:ns=ys.toList.map (·.1):=by rw [<- hi.numsOf,<- nums_intItems,<- e]
 have hsz:0 < ys.size:=by
  have h3:=hne; rw [hns,length_map,length_toList] at h3; exact h3
 refine min_intList (I.ok.hd hc) hl hsz λ v h' tk hv hk=>?_;obtain ⟨t,rfl⟩:=intItems_at hv;obtain ⟨h1,h2⟩:=argBest_lt (numAt ys) (ys.size - 1);refine ⟨.int _,H,I.kept (t':=tk) hk,⟨t,rfl⟩,q _ ?_ λ a ha=>?_⟩
 ·rw [hns,numAt_eq]; exact getD_mem (by rw [length_map,length_toList]; omega)
 ·rw [hns] at ha;obtain ⟨j,hj,rfl⟩:=mem_getD ha;rw [length_map,length_toList] at hj;rw [<- numAt_eq]; exact h2 j [1]
theorem sy1 (hc:X.calm=true):CallR X (.builtin "max") (λ xs H Q=>∃ (p:Addr) (ns:List Int),xs=[.ref p] /\ SqL X.K H p (ns.map V.int) /\ 0 < ns.length /\ ∀ m,m ∈ ns->(∀ a,a ∈ ns->a<=m)->Q (.int m) H):=by
 intro pins s σ H xs us Q I r h;obtain ⟨p,ns,rfl,hq,hne,q⟩:=h;obtain ⟨u,rfl,rx⟩:=wk1 r;cases rx;obtain ⟨its,r',pl,hz⟩:=I.list hq;have hi:=us0 r';obtain ⟨ys,e⟩:=hi.allInts.items;have hl:=pl.isList;rw [e] at hl;have hns:ns=ys.toList.map (·.1):=by rw [<- hi.numsOf,<- nums_intItems,<- e]
 have hsz:0 < ys.size:=by
  have h3:=hne; rw [hns,length_map,length_toList] at h3; exact h3
 refine max_intList (I.ok.hd hc) hl hsz λ v h' tk hv hk=>?_;obtain ⟨t,rfl⟩:=intItems_at hv;obtain ⟨h1,h2⟩:=argBest_gt (numAt ys) (ys.size - 1);refine ⟨.int _,H,I.kept (t':=tk) hk,⟨t,rfl⟩,q _ ?_ λ a ha=>?_⟩
 ·rw [hns,numAt_eq]; exact getD_mem (by rw [length_map,length_toList]; omega)
 ·rw [hns] at ha;obtain ⟨j,hj,rfl⟩:=mem_getD ha;rw [length_map,length_toList] at hj;rw [<- numAt_eq]; exact h2 j [1]
theorem vj2 (hc:X.calm=true):RC X (.builtin "min") zm1:=by
 refine ⟨_,uy1 hc,λ xs vs H Q μ Q3 m r h k=>?_⟩;unfold zm1 at h;split at h
 ·next p =>
  cases r with
  | cons r1 r2 =>
   cases r2;cases r1;split at h
   ·next l e =>
    split at h
    ·next ns e1 =>
     obtain ⟨vs,hv,rs⟩:=m p l e;have ev:=zw0 rs e1;subst ev;exact ⟨p,ns,rfl,SqL.of hv,h.1,λ a h1 h2=>k _ _ _ _ (h.2 a h1 h2) (Kp.refl _) (.int _) m⟩
    ·exact h.elim
   ·exact h.elim
 ·exact h.elim
theorem uj2 (hc:X.calm=true):RC X (.builtin "max") wm1:=by
 refine ⟨_,sy1 hc,λ xs vs H Q μ Q3 m r h k=>?_⟩;unfold wm1 at h;split at h
 ·next p =>
  cases r with
  | cons r1 r2 =>
   cases r2;cases r1;split at h
   ·next l e =>
    split at h
    ·next ns e1 =>
     obtain ⟨vs,hv,rs⟩:=m p l e;have ev:=zw0 rs e1;subst ev;exact ⟨p,ns,rfl,SqL.of hv,h.1,λ a h1 h2=>k _ _ _ _ (h.2 a h1 h2) (Kp.refl _) (.int _) m⟩
    ·exact h.elim
   ·exact h.elim
 ·exact h.elim
end
end Pv
namespace Pv
open PySem
abbrev uz0:D:=.ktp [.int 0,.int 1]
abbrev si0:D:=.int 2500
def N_q6:List Str:=["picture", "stroke", "place"]
def t_q6 (sp_q8:Sp3):TS3 :=
 (seq3 (for3 (is3 (v3 0)) (gn3 1) (zk0 (vc0 sp_q8 (za0 (v3 1) nil3)))) (for3 (ir23 (za0 [12] (za0 (vc0 lenR (za0 (v3 0) nil3)) nil3))) (gn3 2) (ifs3 (b3 (o3 ge3R (o3 ixR (v3 0) (o3 subR (v3 2) [12])) (o3 ixR (v3 0) (v3 2)))) yi1 ti0)))
def N_q8:List Str:=["stroke"]
def t_q8:TS3 :=
 (ifs3 (or3 (b3 (o3 neR (vc0 lenR (za0 (v3 0) nil3)) (c3 (.int 3)))) (b3 (o3 (inR true) (o3 ixR (v3 0) (c3 (.int 2))) (c3 uz0)))) yi1 ti0)
def N_q9:List Str:=["stroke"]
def t_q9:TS3 :=
 (seq3 (ifs3 (b3 (o3 eqR (o3 ixR (v3 0) (c3 (.int 2))) (c3 (.int 0)))) (ret3 (tup3 (za0 (tup3 (za0 [14] (za0 (o3 ixR (v3 0) [12]) nil3))) (za0 (tup3 (za0 (o3 addR [14] [12]) (za0 (o3 ixR (v3 0) [12]) nil3))) nil3)))) ti0) (ret3 (tup3 (za0 (tup3 (za0 [14] (za0 (o3 ixR (v3 0) [12]) nil3))) (za0 (tup3 (za0 [14] (za0 (o3 addR (o3 ixR (v3 0) [12]) [12]) nil3))) nil3)))))
def yy2:List Str:=["picture", "least", "greatest", "corner"]
def xi0 (sp_q9:Sp3):TS3 :=
 (ret3 (o3 addR (v3 3) (tup3 (za0 (vc0 wm1 (za0 (th0 [none] (is3 (v3 2)) (gn3 0) tt3 [14]) nil3)) (za0 (vc0 wm1 (za0 (th0 [none] (is3 (v3 2)) (gn3 0) tt3 (o3 ixR (v3 0) [12])) nil3)) nil3)))))
def uf0 (sp_q9:Sp3):TS3 :=
 (seq3 (set3 3 (tup3 (za0 (vc0 zm1 (za0 (th0 [none] (is3 (v3 1)) (gn3 0) tt3 [14]) nil3)) (za0 (vc0 zm1 (za0 (th0 [none] (is3 (v3 1)) (gn3 0) tt3 (o3 ixR (v3 0) [12])) nil3)) nil3)))) (xi0 sp_q9))
def vm0 (sp_q9:Sp3):TS3 :=
 (seq3 (set3 2 (th0 [none] (is3 (v3 0)) (gn3 0) tt3 (o3 ixR (vc0 sp_q9 (za0 (v3 0) nil3)) [12]))) (uf0 sp_q9))
def um0 (sp_q9:Sp3):TS3 :=
 (seq3 (set3 1 (th0 [none] (is3 (v3 0)) (gn3 0) tt3 (o3 ixR (vc0 sp_q9 (za0 (v3 0) nil3)) (c3 (.int 0))))) (vm0 sp_q9))
def zz2 (sp_q9:Sp3):TS3 :=
 (seq3 (ifs3 (b3 (o3 eqR (vc0 lenR (za0 (v3 0) nil3)) (c3 (.int 0)))) (ret3 (c3 .non)) ti0) (um0 sp_q9))
def xy2:List Str:=["picture", "box", "strokes", "unseen", "rooms", "cell"]
def yu0 (sp_q5 sp_q6 sp_q7 sp_q12 sp_q15:Sp3):TS3 :=
 (ret3 (v3 4))
def zu0 (sp_q5 sp_q6 sp_q7 sp_q12 sp_q15:Sp3):TS3 :=
 (seq3 (for3 (is3 (vc0 sp_q5 (za0 (v3 1) nil3))) (gn3 5) (ifs3 (b3 (o3 (dinR false) (v3 5) (v3 3))) (zk0 (mt3 appR (v3 4) (za0 (vc0 sp_q15 (za0 (v3 5) (za0 (v3 2) (za0 (v3 3) nil3)))) nil3))) ti0)) (yu0 sp_q5 sp_q6 sp_q7 sp_q12 sp_q15))
def wu0 (sp_q5 sp_q6 sp_q7 sp_q12 sp_q15:Sp3):TS3 :=
 (seq3 (set3 4 (lst3 nil3)) (zu0 sp_q5 sp_q6 sp_q7 sp_q12 sp_q15))
def vu0 (sp_q5 sp_q6 sp_q7 sp_q12 sp_q15:Sp3):TS3 :=
 (seq3 (zk0 (vc0 sp_q15 (za0 (tup3 (za0 (o3 subR (o3 ixR (v3 1) (c3 (.int 0))) [12]) (za0 (o3 subR (o3 ixR (v3 1) [12]) [12]) nil3))) (za0 (v3 2) (za0 (v3 3) nil3))))) (wu0 sp_q5 sp_q6 sp_q7 sp_q12 sp_q15))
def uu0 (sp_q5 sp_q6 sp_q7 sp_q12 sp_q15:Sp3):TS3 :=
 (seq3 (set3 3 (vc0 dolR (za0 (th0 [none] (is3 (vc0 sp_q5 (za0 (v3 1) nil3))) (gn3 0) tt3 (tup3 (za0 (v3 0) (za0 (c3 (.bl true)) nil3)))) nil3))) (vu0 sp_q5 sp_q6 sp_q7 sp_q12 sp_q15))
def tu0 (sp_q5 sp_q6 sp_q7 sp_q12 sp_q15:Sp3):TS3 :=
 (seq3 (set3 2 (vc0 dolR (za0 (th0 [none] (is3 (v3 0)) (gn3 0) tt3 (tup3 (za0 (v3 0) (za0 (c3 (.bl true)) nil3)))) nil3))) (uu0 sp_q5 sp_q6 sp_q7 sp_q12 sp_q15))
def vk0 (sp_q5 sp_q6 sp_q7 sp_q12 sp_q15:Sp3):TS3 :=
 (seq3 (zk0 (vc0 sp_q7 (za0 (v3 1) nil3))) (tu0 sp_q5 sp_q6 sp_q7 sp_q12 sp_q15))
def su0 (sp_q5 sp_q6 sp_q7 sp_q12 sp_q15:Sp3):TS3 :=
 (seq3 (ifs3 (b3 (o3 (isNR false) (v3 1) (c3 .non))) (ret3 (lst3 nil3)) ti0) (vk0 sp_q5 sp_q6 sp_q7 sp_q12 sp_q15))
def xv0 (sp_q5 sp_q6 sp_q7 sp_q12 sp_q15:Sp3):TS3 :=
 (seq3 (set3 1 (vc0 sp_q12 (za0 (v3 0) nil3))) (su0 sp_q5 sp_q6 sp_q7 sp_q12 sp_q15))
def yz2 (sp_q5 sp_q6 sp_q7 sp_q12 sp_q15:Sp3):TS3 :=
 (seq3 (zk0 (vc0 sp_q6 (za0 (v3 0) nil3))) (xv0 sp_q5 sp_q6 sp_q7 sp_q12 sp_q15))
def N_q7:List Str:=["box"]
def t_q7:TS3 :=
 (ifs3 (b3 (o3 gtR (o3 mulR (o3 addR (o3 subR (o3 ixR (v3 0) (c3 (.int 2))) [14]) (c3 (.int 2))) (o3 addR (o3 subR (o3 ixR (v3 0) (c3 (.int 3))) (o3 ixR (v3 0) [12])) (c3 (.int 2)))) (c3 si0))) yi1 ti0)
def N_q5:List Str:=["box", "cells", "x"]
def t_q5:TS3 :=
 (seq3 (set3 1 (lst3 nil3)) (seq3 (for3 (ir23 (za0 (o3 subR [14] [12]) (za0 (o3 addR (o3 ixR (v3 0) (c3 (.int 2))) [12]) nil3))) (gn3 2) (zk0 (mt3 extR (v3 1) (za0 (th0 [none,some 2] (ir23 (za0 (o3 subR (o3 ixR (v3 0) [12]) [12]) (za0 (o3 addR (o3 ixR (v3 0) (c3 (.int 3))) [12]) nil3))) (gn3 0) tt3 (tup3 (za0 (v3 1) (za0 (v3 0) nil3)))) nil3)))) (ret3 (v3 1))))
def tx2:List Str:=["cell", "strokes", "unseen", "taken", "place", "here", "near"]
def sy2 (sp_q11:Sp3):TS3 :=
 (seq3 (zk0 (dm3 true (v3 2) (za0 (v3 0) nil3))) (seq3 (set3 3 (lst3 (za0 (v3 0) nil3))) (seq3 (set3 4 (c3 (.int 0))) (seq3 (th2 (b3 (o3 ltR (v3 4) (vc0 lenR (za0 (v3 3) nil3)))) (seq3 (set3 5 (o3 ixR (v3 3) (v3 4))) (seq3 (for3 (is3 (vc0 sp_q11 (za0 (v3 5) (za0 (v3 1) nil3)))) (gn3 6) (ifs3 (b3 (o3 (dinR false) (v3 6) (v3 2))) (seq3 (zk0 (dm3 true (v3 2) (za0 (v3 6) nil3))) (zk0 (mt3 appR (v3 3) (za0 (v3 6) nil3)))) ti0)) (set3 4 (o3 addR (v3 4) [12]))))) (ret3 (vc0 sk1 (za0 (v3 3) nil3)))))))
def zy2:List Str:=["cell", "strokes"]
def wz2 (sp_q14:Sp3):TS3 :=
 (ret3 (th0 [none,some 1] (is3 (vc0 sp_q14 (za0 (v3 0) nil3))) (gn3 0) (b3 (o3 (dinR true) (o3 ixR (v3 0) [12]) (v3 1))) [14]))
def sx2:List Str:=["cell", "x", "y", "east", "north", "west", "south"]
def xz2:TS3 :=
 (seq3 (set3 1 [14]) (seq3 (set3 2 (o3 ixR (v3 0) [12])) (seq3 (set3 3 (tup3 (za0 (tup3 (za0 (o3 addR (v3 1) [12]) (za0 (v3 2) nil3))) (za0 (tup3 (za0 (o3 addR (v3 1) [12]) (za0 (v3 2) (za0 [12] nil3)))) nil3)))) (seq3 (set3 4 (tup3 (za0 (tup3 (za0 (v3 1) (za0 (o3 addR (v3 2) [12]) nil3))) (za0 (tup3 (za0 (v3 1) (za0 (o3 addR (v3 2) [12]) (za0 (c3 (.int 0)) nil3)))) nil3)))) (seq3 (set3 5 (tup3 (za0 (tup3 (za0 (o3 subR (v3 1) [12]) (za0 (v3 2) nil3))) (za0 (tup3 (za0 (v3 1) (za0 (v3 2) (za0 [12] nil3)))) nil3)))) (seq3 (set3 6 (tup3 (za0 (tup3 (za0 (v3 1) (za0 (o3 subR (v3 2) [12]) nil3))) (za0 (tup3 (za0 (v3 1) (za0 (v3 2) (za0 (c3 (.int 0)) nil3)))) nil3)))) (ret3 (tup3 (za0 (v3 3) (za0 (v3 4) (za0 (v3 5) (za0 (v3 6) nil3))))))))))))
def N_q3:List Str:=["script", "k", "cell"]
def t_q3:TS3 :=
 (seq3 (set3 2 (c3 (.int 0))) (seq3 (ifs3 (b3 (o3 ltR (v3 1) (vc0 lenR (za0 (v3 0) nil3)))) (set3 2 (o3 ixR (v3 0) (v3 1))) ti0) (seq3 (ifs3 (b3 (o3 geR (v3 2) (o3 powR (c3 (.int 10)) (c3 (.int 18))))) (ret3 (lst3 (za0 (o3 subR (v3 2) (o3 powR (c3 (.int 10)) (c3 (.int 18)))) (za0 [12] nil3)))) ti0) (ret3 (lst3 (za0 (o3 modR (o3 addR (v3 2) (o3 mulR (c3 (.int 7919)) (v3 1))) (c3 (.int 2147483647))) (za0 (c3 (.int 0)) nil3)))))))
def N_q4:List Str:=["state", "many", "found", "mixed"]
def t_q4:TS3 :=
 (seq3 (ifs3 (and3 (b3 (o3 eqR (o3 ixR (v3 0) [12]) [12])) (b3 (o3 gtR [14] (c3 (.int 0))))) (seq3 (set3 2 (o3 modR [14] (v3 1))) (seq3 (asg3 (o3 ww1 [14] (v3 1)) (sub3 (v3 0) (c3 (.int 0)))) (ret3 (v3 2)))) ti0) [21])
def N_q1:List Str:=["state", "most", "far", "wide", "high", "found", "k", "x", "y", "way"]
def zo0 (sp_q4:Sp3):TS3 :=
 (ret3 (vc0 tupR (za0 (va3 (wa3 (za0 (v3 5) nil3))) nil3)))
def wo0 (sp_q4:Sp3):TS3 :=
 (seq3 (for3 (ir3 (za0 (o3 mulR (vc0 sp_q4 (za0 (v3 0) (za0 (o3 addR (v3 1) [12]) nil3))) (o3 addR [12] (o3 ww1 (v3 2) (c3 (.int 6))))) nil3)) (gn3 6) (seq3 (set3 7 (o3 subR (vc0 sp_q4 (za0 (v3 0) (za0 (v3 3) nil3))) (c3 (.int 2)))) (seq3 (set3 8 (o3 subR (vc0 sp_q4 (za0 (v3 0) (za0 (v3 4) nil3))) (c3 (.int 2)))) (seq3 (set3 9 (vc0 sp_q4 (za0 (v3 0) (za0 (c3 (.int 6)) nil3)))) (ifs3 (b3 (o3 ltR (v3 9) (c3 (.int 4)))) (zk0 (mt3 appR (v3 5) (za0 (tup3 (za0 (v3 7) (za0 (v3 8) (za0 (o3 modR (v3 9) (c3 (.int 2))) nil3)))) nil3))) (set3 5 (o3 addR (v3 5) (lst3 (za0 (tup3 (za0 (v3 7) (za0 (v3 8) (za0 (c3 (.int 0)) nil3)))) (za0 (tup3 (za0 (v3 7) (za0 (v3 8) (za0 [12] nil3)))) (za0 (tup3 (za0 (v3 7) (za0 (o3 addR (v3 8) [12]) (za0 (c3 (.int 0)) nil3)))) (za0 (tup3 (za0 (o3 addR (v3 7) [12]) (za0 (v3 8) (za0 [12] nil3)))) nil3)))))))))))) (zo0 sp_q4))
def vo0 (sp_q4:Sp3):TS3 :=
 (seq3 (set3 5 (lst3 nil3)) (wo0 sp_q4))
def uo0 (sp_q4:Sp3):TS3 :=
 (seq3 (set3 4 (o3 addR (c3 (.int 2)) (vc0 sp_q4 (za0 (v3 0) (za0 (v3 2) nil3))))) (vo0 sp_q4))
def to0 (sp_q4:Sp3):TS3 :=
 (seq3 (set3 3 (o3 addR (c3 (.int 2)) (vc0 sp_q4 (za0 (v3 0) (za0 (v3 2) nil3))))) (uo0 sp_q4))
def t_q1 (sp_q4:Sp3):TS3 :=
 (seq3 (set3 2 (o3 ixR (lst3 (za0 (c3 (.int 5)) (za0 (c3 (.int 5)) (za0 (c3 (.int 5)) (za0 (c3 (.int 18)) nil3))))) (vc0 sp_q4 (za0 (v3 0) (za0 (c3 (.int 4)) nil3))))) (to0 sp_q4))
def N_q0:List Str:=["lines", "found", "x", "y", "kind", "place"]
def t_q0:TS3 :=
 (seq3 (set3 1 dnl3) (seq3 (for3 (is3 (v3 0)) (ya1 3 (zf0 (gn3 2) (zf0 (gn3 3) (zf0 (gn3 4) ua1)))) (for3 (is3 (lst3 (za0 (tup3 (za0 (v3 2) (za0 (v3 3) nil3))) (za0 (tup3 (za0 (o3 subR (o3 addR (v3 2) [12]) (v3 4)) (za0 (o3 addR (v3 3) (v3 4)) nil3))) nil3)))) (gn3 5) (wr0 (v3 1) (v3 5) (o3 addR (gdf3 (v3 1) (za0 (v3 5) (za0 (c3 (.int 0)) nil3))) [12])))) (ret3 (v3 1))))
def N_q2:List Str:=["lines", "mark", "place", "turn", "x", "y", "kind", "low"]
def yi0 (sp_q0:Sp3):TS3 :=
 (ret3 (lsI3 (za0 (th0 [none,some 1] (isd3 (v3 1)) (gn3 0) tt3 (o3 dgR (v3 1) (v3 0))) nil3)))
def tf0 (sp_q0:Sp3):TS3 :=
 (seq3 (for3 (ir3 (za0 (vc0 vz0 (za0 (v3 1) nil3)) nil3)) (gn3 3) (for3 (is3 (v3 0)) (ya1 3 (zf0 (gn3 4) (zf0 (gn3 5) (zf0 (gn3 6) ua1)))) [28])) (yi0 sp_q0))
def tm0 (sp_q0:Sp3):TS3 :=
 (seq3 (for3 (is3 (vc0 yo1 (za0 (vc0 sp_q0 (za0 (v3 0) nil3)) nil3))) (gn3 2) (wr0 (v3 1) (v3 2) (vc0 vz0 (za0 (v3 1) nil3)))) (tf0 sp_q0))
def t_q2 (sp_q0:Sp3):TS3 :=
 (seq3 (set3 1 dnl3) (tm0 sp_q0))
def wy2:List Str:=["script", "state", "lines", "found", "every", "room", "x", "y", "cell", "fence"]
def ya2 (sp_q0 sp_q1 sp_q2 sp_q3 sp_q13:Sp3):TS3 :=
 (ret3 (c3 (.bl true)))
def za2 (sp_q0 sp_q1 sp_q2 sp_q3 sp_q13:Sp3):TS3 :=
 (seq3 (for3 (is3 (v3 3)) (gn3 5) (for3 (is3 (v3 5)) (ya1 2 (zf0 (gn3 6) (zf0 (gn3 7) ua1))) (for3 [22] (ya1 2 (zf0 (gn3 8) (zf0 (gn3 9) ua1))) (ifs3 (and3 (b3 (o3 (inR true) (v3 8) (v3 5))) (b3 (o3 (inR true) (v3 9) (v3 2)))) (ret3 (c3 (.bl false))) ti0)))) (ya2 sp_q0 sp_q1 sp_q2 sp_q3 sp_q13))
def yg1 (sp_q0 sp_q1 sp_q2 sp_q3 sp_q13:Sp3):TS3 :=
 (seq3 (ifs3 (b3 (o3 neR (lsP3 (za0 (v3 4) nil3)) (vc0 lenR (za0 (v3 4) nil3)))) (ret3 (c3 (.bl false))) ti0) (za2 sp_q0 sp_q1 sp_q2 sp_q3 sp_q13))
def wa2 (sp_q0 sp_q1 sp_q2 sp_q3 sp_q13:Sp3):TS3 :=
 (seq3 (for3 (is3 (v3 3)) (gn3 5) (zk0 (mt3 extR (v3 4) (za0 (v3 5) nil3)))) (yg1 sp_q0 sp_q1 sp_q2 sp_q3 sp_q13))
def va2 (sp_q0 sp_q1 sp_q2 sp_q3 sp_q13:Sp3):TS3 :=
 (seq3 (set3 4 (lst3 nil3)) (wa2 sp_q0 sp_q1 sp_q2 sp_q3 sp_q13))
def zg1 (sp_q0 sp_q1 sp_q2 sp_q3 sp_q13:Sp3):TS3 :=
 (seq3 (ifs3 (b3 (o3 neR (vc0 lenR (za0 (v3 3) nil3)) (o3 addR (o3 subR (vc0 lenR (za0 (v3 2) nil3)) (vc0 vz0 (za0 (vc0 sp_q0 (za0 (v3 2) nil3)) nil3))) (vc0 sp_q2 (za0 (v3 2) nil3))))) (ret3 (c3 (.bl false))) ti0) (va2 sp_q0 sp_q1 sp_q2 sp_q3 sp_q13))
def ua2 (sp_q0 sp_q1 sp_q2 sp_q3 sp_q13:Sp3):TS3 :=
 (seq3 (set3 3 (vc0 sp_q13 (za0 (v3 2) nil3))) (zg1 sp_q0 sp_q1 sp_q2 sp_q3 sp_q13))
def ta2 (sp_q0 sp_q1 sp_q2 sp_q3 sp_q13:Sp3):TS3 :=
 (seq3 (set3 2 (vc0 sp_q1 (za0 (v3 1) (za0 (c3 (.int 14)) nil3)))) (ua2 sp_q0 sp_q1 sp_q2 sp_q3 sp_q13))
def vz2 (sp_q0 sp_q1 sp_q2 sp_q3 sp_q13:Sp3):TS3 :=
 (seq3 (set3 1 (vc0 sp_q3 (za0 (v3 0) (za0 (c3 (.int 0)) nil3)))) (ta2 sp_q0 sp_q1 sp_q2 sp_q3 sp_q13))
end Pv
namespace Pv
open PySem PySem.Spec PyProof.Rows L2
section
variable {P:Program} {w:World} {K:Fg} {mg:Str->Option Value} {base:Heap}
theorem sc_q6:FnScope N_q6 ["picture"] (sa0 s_q6):=[3]
theorem sr3 {k:Nat} {f:Addr} {cdv:Value} {A:Around} {outer:List Env} {s:Shared} {H:Hp} {E:XK} {sp_q8:Sp3} {k_q8:Nat} (c_q8:Cal P w K mg base k_q8 "check_stroke" ["stroke"] sp_q8) (l_q8:k_q8<=k) (z_len:mg "len" = none) (z_range:mg "range" = none) (hr:Room k (A.deeper (envOfC "check_picture" (sa0 s_q6) s.heap.objs.size f cdv))) :
    RSs (cxOf CX0 P w K mg base N_q6 "check_picture" (sa0 s_q6) f cdv A outer s H E).nox (wc0 s_q6) (t_q6 sp_q8) :=
 (xb0 (zg0 PassesOwn.never rfl (se0 (ya0 0)) (xc0 (i:=1) sc_q6.nd) (zb0 (wg0 (sc0 (c_q8.mono l_q8) hr (xa0 (ya0 1) ta0))))) (zb0 (zg0 PassesOwn.never rfl (yp0 z_range ua0 (wd0 vy0 z_len wi0 (xa0 (ya0 0) ta0))) (xc0 (i:=2) sc_q6.nd) (zb0 (uj0 (te0 (yv3 (hu64 hr)) (vd0 q_ix (ya0 0) (wb0 ui0 (ya0 2) ua0)) (vd0 q_ix (ya0 0) (ya0 2))) (zb0 wv0) yf0)))))
theorem xr3:FnScope N_q8 ["stroke"] (sa0 s_q8):=[3]
theorem ur3 {k:Nat} {f:Addr} {cdv:Value} {A:Around} {outer:List Env} {s:Shared} {H:Hp} {E:XK} (z_len:mg "len" = none) (g_WAYS:Gd K mg "WAYS" uz0) (hr:Room k (A.deeper (envOfC "check_stroke" (sa0 s_q8) s.heap.objs.size f cdv))) :
    RSs (cxOf CX0 P w K mg base N_q8 "check_stroke" (sa0 s_q8) f cdv A outer s H E).nox (wc0 s_q8) (t_q8) :=
 (zb0 (uj0 (zp2 (wr3 (te0 (q_ne (hu64 hr)) (wd0 vy0 z_len wi0 (xa0 (ya0 0) ta0)) ua0) (wb3 (te0 (yd1 (hu65 hr)) [11] (re_g g_WAYS))))) (zb0 wv0) yf0))
theorem sq3:FnScope N_q9 ["stroke"] (sa0 s_q9):=[3]
theorem vr3 {k:Nat} {f:Addr} {cdv:Value} {A:Around} {outer:List Env} {s:Shared} {H:Hp} {E:XK} (hr:Room k (A.deeper (envOfC "ends_of" (sa0 s_q9) s.heap.objs.size f cdv))) :
    RSs (cxOf CX0 P w K mg base N_q9 "ends_of" (sa0 s_q9) f cdv A outer s H E).nox (wc0 s_q9) (t_q9) :=
 (xb0 (uj0 (te0 (q_eq (hu64 hr)) [11] ua0) (zb0 (we0 (ub0 (xa0 (ub0 (xa0 [11] (xa0 [11] ta0))) (xa0 (ub0 (xa0 (wb0 td0 [11] ua0) (xa0 [11] ta0))) ta0))))) yf0) (zb0 (we0 (ub0 (xa0 (ub0 (xa0 [11] (xa0 [11] ta0))) (xa0 (ub0 (xa0 [11] (xa0 (wb0 td0 [11] ua0) ta0))) ta0))))))
theorem sc_q12:FnScope yy2 ["picture"] (sa0 vl1):=[3]
theorem zc3 {k:Nat} {f:Addr} {cdv:Value} {A:Around} {outer:List Env} {s:Shared} {H:Hp} {E:XK} {sp_q9:Sp3} {k_q9:Nat} (c_q9:Cal P w K mg base k_q9 "ends_of" ["stroke"] sp_q9) (l_q9:k_q9<=k) (z_len:mg "len" = none) (z_max:mg "max" = none) (z_min:mg "min" = none) (hr:Room k (A.deeper (envOfC "picture_box" (sa0 vl1) s.heap.objs.size f cdv))) :
    RSs (cxOf CX0 P w K mg base yy2 "picture_box" (sa0 vl1) f cdv A outer s H E).nox (wc0 vl1) (zz2 sp_q9) :=
 (xb0 (uj0 (te0 (q_eq (hu64 hr)) (wd0 vy0 z_len wi0 (xa0 (ya0 0) ta0)) ua0) (zb0 (we0 zj2)) yf0) (xb0 (xh1 (i:=1) sc_q12.nd (NN:=["stroke"]) [13] [13] [13] (se0 (ya0 0)) (λ _ _ _ _ _=>(xc0 (i:=0) (show List.Nodup (["stroke"]:List Str) by decide +kernel))) (λ _ _ _ _ _=>sg0) (λ _ _ _ _ _=>(vd0 q_ix (sc0 (c_q9.mono l_q9) hr (xa0 (ya0 0) ta0)) ua0))) (xb0 (xh1 (i:=2) sc_q12.nd (NN:=["stroke"]) [13] [13] [13] (se0 (ya0 0)) (λ _ _ _ _ _=>(xc0 (i:=0) (show List.Nodup (["stroke"]:List Str) by decide +kernel))) (λ _ _ _ _ _=>sg0) (λ _ _ _ _ _=>(vd0 q_ix (sc0 (c_q9.mono l_q9) hr (xa0 (ya0 0) ta0)) ua0))) (xb0 (uc0 (i:=3) sc_q12.nd (ub0 (xa0 (wd0 (vj2 rfl) z_min yz1 (xa0 (ul0 (NN:=["point"]) [13] [13] [13] (se0 (ya0 1)) (λ _ _ _ _ _=>(xc0 (i:=0) (show List.Nodup (["point"]:List Str) by decide +kernel))) (λ _ _ _ _ _=>sg0) (λ _ _ _ _ _=>[11])) ta0)) (xa0 (wd0 (vj2 rfl) z_min yz1 (xa0 (ul0 (NN:=["point"]) [13] [13] [13] (se0 (ya0 1)) (λ _ _ _ _ _=>(xc0 (i:=0) (show List.Nodup (["point"]:List Str) by decide +kernel))) (λ _ _ _ _ _=>sg0) (λ _ _ _ _ _=>[11])) ta0)) ta0)))) (zb0 (we0 (wb0 td0 (ya0 3) (ub0 (xa0 (wd0 (uj2 rfl) z_max yn2 (xa0 (ul0 (NN:=["point"]) [13] [13] [13] (se0 (ya0 2)) (λ _ _ _ _ _=>(xc0 (i:=0) (show List.Nodup (["point"]:List Str) by decide +kernel))) (λ _ _ _ _ _=>sg0) (λ _ _ _ _ _=>[11])) ta0)) (xa0 (wd0 (uj2 rfl) z_max yn2 (xa0 (ul0 (NN:=["point"]) [13] [13] [13] (se0 (ya0 2)) (λ _ _ _ _ _=>(xc0 (i:=0) (show List.Nodup (["point"]:List Str) by decide +kernel))) (λ _ _ _ _ _=>sg0) (λ _ _ _ _ _=>[11])) ta0)) ta0))))))))))
theorem sc_q13:FnScope xy2 ["picture"] (sa0 wl1):=[3]
theorem yc3 {k:Nat} {f:Addr} {cdv:Value} {A:Around} {outer:List Env} {s:Shared} {H:Hp} {E:XK} {sp_q5:Sp3} {k_q5:Nat} (c_q5:Cal P w K mg base k_q5 "cells_round" ["box"] sp_q5) (l_q5:k_q5<=k) {sp_q6:Sp3} {k_q6:Nat} (c_q6:Cal P w K mg base k_q6 "check_picture" ["picture"] sp_q6) (l_q6:k_q6<=k) {sp_q7:Sp3} {k_q7:Nat} (c_q7:Cal P w K mg base k_q7 "check_size" ["box"] sp_q7) (l_q7:k_q7<=k) {sp_q12:Sp3} {k_q12:Nat} (c_q12:Cal P w K mg base k_q12 "picture_box" ["picture"] sp_q12) (l_q12:k_q12<=k) {sp_q15:Sp3} {k_q15:Nat} (c_q15:Cal P w K mg base k_q15 "take_cells" ["cell", "strokes", "unseen"] sp_q15) (l_q15:k_q15<=k) (z_dict:mg "dict" = none) (hr:Room k (A.deeper (envOfC "rooms_of" (sa0 wl1) s.heap.objs.size f cdv))) :
    RSs (cxOf CX0 P w K mg base xy2 "rooms_of" (sa0 wl1) f cdv A outer s H E).nox (wc0 wl1) (yz2 sp_q5 sp_q6 sp_q7 sp_q12 sp_q15) :=
 (xb0 (wg0 (sc0 (c_q6.mono l_q6) hr (xa0 (ya0 0) ta0))) (xb0 (uc0 (i:=1) sc_q13.nd (sc0 (c_q12.mono l_q12) hr (xa0 (ya0 0) ta0))) (xb0 (uj0 (te0 xv3 (ya0 1) zj2) (zb0 (we0 (zi0 ta0))) yf0) (xb0 (wg0 (sc0 (c_q7.mono l_q7) hr (xa0 (ya0 1) ta0))) (xb0 (uc0 (i:=2) sc_q13.nd (wp0 (ve3 (hu64 hr)) z_dict zz1 (xa0 (ul0 (NN:=["stroke"]) [13] [13] [13] (se0 (ya0 0)) (λ _ _ _ _ _=>(xc0 (i:=0) (show List.Nodup (["stroke"]:List Str) by decide +kernel))) (λ _ _ _ _ _=>sg0) (λ _ _ _ _ _=>(ub0 (xa0 (ya0 0) (xa0 tl1 ta0))))) ta0))) (xb0 (uc0 (i:=3) sc_q13.nd (wp0 (ve3 (hu64 hr)) z_dict zz1 (xa0 (ul0 (NN:=["cell"]) [13] [13] [13] (se0 (sc0 (c_q5.mono l_q5) hr (xa0 (ya0 1) ta0))) (λ _ _ _ _ _=>(xc0 (i:=0) (show List.Nodup (["cell"]:List Str) by decide +kernel))) (λ _ _ _ _ _=>sg0) (λ _ _ _ _ _=>(ub0 (xa0 (ya0 0) (xa0 tl1 ta0))))) ta0))) (xb0 (wg0 (sc0 (c_q15.mono l_q15) hr (xa0 (ub0 (xa0 (wb0 ui0 (vd0 q_ix (ya0 1) ua0) ua0) (xa0 (wb0 ui0 (vd0 q_ix (ya0 1) ua0) ua0) ta0))) (xa0 (ya0 2) (xa0 (ya0 3) ta0))))) (xb0 (uc0 (i:=4) sc_q13.nd (zi0 ta0)) (xb0 (zg0 PassesOwn.never rfl (se0 (sc0 (c_q5.mono l_q5) hr (xa0 (ya0 1) ta0))) (xc0 (i:=5) sc_q13.nd) (zb0 (uj0 (te0 (tj2 (hu64 hr)) (ya0 5) (ya0 3)) (zb0 (wg0 (vp0 (ya0 4) (xa0 (sc0 (c_q15.mono l_q15) hr (xa0 (ya0 5) (xa0 (ya0 2) (xa0 (ya0 3) ta0)))) ta0)))) yf0))) (zb0 (we0 (ya0 4))))))))))))
theorem yr3:FnScope N_q7 ["box"] (sa0 s_q7):=[3]
theorem tr3 {k:Nat} {f:Addr} {cdv:Value} {A:Around} {outer:List Env} {s:Shared} {H:Hp} {E:XK} (g_MOST_CELLS:Gd K mg "MOST_CELLS" si0) (hr:Room k (A.deeper (envOfC "check_size" (sa0 s_q7) s.heap.objs.size f cdv))) :
    RSs (cxOf CX0 P w K mg base N_q7 "check_size" (sa0 s_q7) f cdv A outer s H E).nox (wc0 s_q7) (t_q7) :=
 (zb0 (uj0 (te0 q_gt (wb0 wy0 (wb0 td0 (wb0 ui0 [11] [11]) ua0) (wb0 td0 (wb0 ui0 [11] [11]) ua0)) (re_g g_MOST_CELLS)) (zb0 wv0) yf0))
theorem sc_q5:FnScope N_q5 ["box"] (sa0 s_q5):=[3]
theorem xs3 {k:Nat} {f:Addr} {cdv:Value} {A:Around} {outer:List Env} {s:Shared} {H:Hp} {E:XK} (z_range:mg "range" = none) (hr:Room k (A.deeper (envOfC "cells_round" (sa0 s_q5) s.heap.objs.size f cdv))) :
    RSs (cxOf CX0 P w K mg base N_q5 "cells_round" (sa0 s_q5) f cdv A outer s H E).nox (wc0 s_q5) (t_q5) :=
 (xb0 (uc0 (i:=1) sc_q5.nd (zi0 ta0)) (xb0 (zg0 PassesOwn.never rfl (yp0 z_range (wb0 ui0 [11] ua0) (wb0 td0 [11] ua0)) (xc0 (i:=2) sc_q5.nd) (zb0 (wg0 (zy0 (ya0 1) (xa0 (un0 (NN:=["y", "x"]) (js:=[none,some 2]) rfl wf1 (yp0 z_range (wb0 ui0 [11] ua0) (wb0 td0 [11] ua0)) (λ _ _ _ _ _=>(xc0 (i:=0) (show List.Nodup (["y", "x"]:List Str) by decide +kernel))) (λ _ _ _ _ _=>sg0) (λ _ _ _ _ _=>(ub0 (xa0 (ya0 1) (xa0 (ya0 0) ta0)))) (by intro _; rfl)) ta0))))) (zb0 (we0 (ya0 1)))))
theorem sc_q15:FnScope tx2 ["cell", "strokes", "unseen"] (sa0 yl1):=[3]
theorem sb3 {k:Nat} {f:Addr} {cdv:Value} {A:Around} {outer:List Env} {s:Shared} {H:Hp} {E:XK} {sp_q11:Sp3} {k_q11:Nat} (c_q11:Cal P w K mg base k_q11 "neighbours_of" ["cell", "strokes"] sp_q11) (l_q11:k_q11<=k) (z_len:mg "len" = none) (z_sorted:mg "sorted" = none) (hr:Room k (A.deeper (envOfC "take_cells" (sa0 yl1) s.heap.objs.size f cdv))) :
    RSs (cxOf CX0 P w K mg base tx2 "take_cells" (sa0 yl1) f cdv A outer s H E).nox (wc0 yl1) (sy2 sp_q11) :=
 (xb0 (wg0 (yd3 slot_dict_pop type_dict_pop (mtDp (hu1 hr)) (ya0 2) (xa0 (ya0 0) ta0))) (xb0 (uc0 (i:=3) sc_q15.nd (zi0 (xa0 (ya0 0) ta0))) (xb0 (uc0 (i:=4) sc_q15.nd ua0) (xb0 (ub2 PassesOwn.never (te0 q_lt (ya0 4) (wd0 vy0 z_len wi0 (xa0 (ya0 3) ta0))) (xb0 (uc0 (i:=5) sc_q15.nd (vd0 q_ix (ya0 3) (ya0 4))) (xb0 (zg0 PassesOwn.never rfl (se0 (sc0 (c_q11.mono l_q11) hr (xa0 (ya0 5) (xa0 (ya0 1) ta0)))) (xc0 (i:=6) sc_q15.nd) (zb0 (uj0 (te0 (tj2 (hu64 hr)) (ya0 6) (ya0 2)) (xb0 (wg0 (yd3 slot_dict_pop type_dict_pop (mtDp (hu1 hr)) (ya0 2) (xa0 (ya0 6) ta0))) (zb0 (wg0 (vp0 (ya0 3) (xa0 (ya0 6) ta0))))) yf0))) (zb0 (uc0 (i:=4) sc_q15.nd (wb0 td0 (ya0 4) ua0)))))) (zb0 (we0 (wd0 up1 z_sorted sq0 (xa0 (ya0 3) ta0))))))))
theorem zb3:FnScope zy2 ["cell", "strokes"] (sa0 ul1):=[3]
theorem wc3 {k:Nat} {f:Addr} {cdv:Value} {A:Around} {outer:List Env} {s:Shared} {H:Hp} {E:XK} {sp_q14:Sp3} {k_q14:Nat} (c_q14:Cal P w K mg base k_q14 "sides_of_cell" ["cell"] sp_q14) (l_q14:k_q14<=k) (hr:Room k (A.deeper (envOfC "neighbours_of" (sa0 ul1) s.heap.objs.size f cdv))) :
    RSs (cxOf CX0 P w K mg base zy2 "neighbours_of" (sa0 ul1) f cdv A outer s H E).nox (wc0 ul1) (wz2 sp_q14) :=
 (zb0 (we0 (un0 (NN:=["side", "strokes"]) (js:=[none,some 1]) rfl wf1 (se0 (sc0 (c_q14.mono l_q14) hr (xa0 (ya0 0) ta0))) (λ _ _ _ _ _=>(xc0 (i:=0) (show List.Nodup (["side", "strokes"]:List Str) by decide +kernel))) (λ _ _ _ _ _=>(wp2 (te0 (ue3 (hu64 hr)) [11] (ya0 1)))) (λ _ _ _ _ _=>[11]) (by intro _; rfl))))
theorem sc_q14:FnScope sx2 ["cell"] (sa0 zl1):=[3]
theorem xc3 {k:Nat} {f:Addr} {cdv:Value} {A:Around} {outer:List Env} {s:Shared} {H:Hp} {E:XK} (hr:Room k (A.deeper (envOfC "sides_of_cell" (sa0 zl1) s.heap.objs.size f cdv))) :
    RSs (cxOf CX0 P w K mg base sx2 "sides_of_cell" (sa0 zl1) f cdv A outer s H E).nox (wc0 zl1) (xz2) :=
 (xb0 (uc0 (i:=1) sc_q14.nd [11]) (xb0 (uc0 (i:=2) sc_q14.nd [11]) (xb0 (uc0 (i:=3) sc_q14.nd (ub0 (xa0 (ub0 (xa0 (wb0 td0 (ya0 1) ua0) (xa0 (ya0 2) ta0))) (xa0 (ub0 (xa0 (wb0 td0 (ya0 1) ua0) (xa0 (ya0 2) (xa0 ua0 ta0)))) ta0)))) (xb0 (uc0 (i:=4) sc_q14.nd (ub0 (xa0 (ub0 (xa0 (ya0 1) (xa0 (wb0 td0 (ya0 2) ua0) ta0))) (xa0 (ub0 (xa0 (ya0 1) (xa0 (wb0 td0 (ya0 2) ua0) (xa0 ua0 ta0)))) ta0)))) (xb0 (uc0 (i:=5) sc_q14.nd (ub0 (xa0 (ub0 (xa0 (wb0 ui0 (ya0 1) ua0) (xa0 (ya0 2) ta0))) (xa0 (ub0 (xa0 (ya0 1) (xa0 (ya0 2) (xa0 ua0 ta0)))) ta0)))) (xb0 (uc0 (i:=6) sc_q14.nd (ub0 (xa0 (ub0 (xa0 (ya0 1) (xa0 (wb0 ui0 (ya0 2) ua0) ta0))) (xa0 (ub0 (xa0 (ya0 1) (xa0 (ya0 2) (xa0 ua0 ta0)))) ta0)))) (zb0 (we0 (ub0 (xa0 (ya0 3) (xa0 (ya0 4) (xa0 (ya0 5) (xa0 (ya0 6) ta0)))))))))))))
theorem sc_q3:FnScope N_q3 ["script", "k"] (sa0 s_q3):=[3]
theorem zs3 {k:Nat} {f:Addr} {cdv:Value} {A:Around} {outer:List Env} {s:Shared} {H:Hp} {E:XK} (z_len:mg "len" = none) (hr:Room k (A.deeper (envOfC "_law_state" (sa0 s_q3) s.heap.objs.size f cdv))) :
    RSs (cxOf CX0 P w K mg base N_q3 "_law_state" (sa0 s_q3) f cdv A outer s H E).nox (wc0 s_q3) (t_q3) :=
 (xb0 (uc0 (i:=2) sc_q3.nd ua0) (xb0 (uj0 (te0 q_lt (ya0 1) (wd0 vy0 z_len wi0 (xa0 (ya0 0) ta0))) (zb0 (uc0 (i:=2) sc_q3.nd (vd0 q_ix (ya0 0) (ya0 1)))) yf0) (xb0 (uj0 (te0 q_ge (ya0 2) (wb0 ze3 ua0 ua0)) (zb0 (we0 (zi0 (xa0 (wb0 ui0 (ya0 2) (wb0 ze3 ua0 ua0)) (xa0 ua0 ta0))))) yf0) (zb0 (we0 (zi0 (xa0 (wb0 zd1 (wb0 td0 (ya0 2) (wb0 wy0 ua0 (ya0 1))) ua0) (xa0 ua0 ta0))))))))
theorem sc_q4:FnScope N_q4 ["state", "many"] (sa0 s_q4):=[3]
theorem ys3 {k:Nat} {f:Addr} {cdv:Value} {A:Around} {outer:List Env} {s:Shared} {H:Hp} {E:XK} (hr:Room k (A.deeper (envOfC "_law_take" (sa0 s_q4) s.heap.objs.size f cdv))) :
    RSs (cxOf CX0 P w K mg base N_q4 "_law_take" (sa0 s_q4) f cdv A outer s H E).nox (wc0 s_q4) (t_q4) :=
 (xb0 (uj0 (zp2 (xj2 (te0 (q_eq (hu64 hr)) [11] ua0) (xp1 (te0 q_gt [11] ua0)))) (xb0 (uc0 (i:=2) sc_q4.nd (wb0 zd1 [11] (ya0 1))) (xb0 (yp1 (wb0 sp1 [11] (ya0 1)) (zp1 (ya0 0) ua0)) (zb0 (we0 (ya0 2))))) yf0) (xb0 (yp1 ua0 (zp1 (ya0 0) ua0)) (xb0 (yp1 (wb0 zd1 (wb0 td0 (wb0 wy0 [11] ua0) ua0) ua0) (zp1 (ya0 0) ua0)) (xb0 (uc0 (i:=3) sc_q4.nd (wb0 zd1 (wb0 td0 (wb0 wy0 [11] [11]) (wb0 wy0 ua0 [11])) ua0)) (xb0 (uc0 (i:=3) sc_q4.nd (wb0 zd1 (wb0 td0 (wb0 wy0 (ya0 3) (ya0 3)) (wb0 wy0 ua0 (ya0 3))) ua0)) (zb0 (we0 (wb0 zd1 (wb0 sp1 (ya0 3) ua0) (ya0 1)))))))))
theorem sc_q1:FnScope N_q1 ["state", "most"] (sa0 s_q1):=[3]
theorem vs3 {k:Nat} {f:Addr} {cdv:Value} {A:Around} {outer:List Env} {s:Shared} {H:Hp} {E:XK} {sp_q4:Sp3} {k_q4:Nat} (c_q4:Cal P w K mg base k_q4 "_law_take" ["state", "many"] sp_q4) (l_q4:k_q4<=k) (z_range:mg "range" = none) (z_set:mg "set" = none) (z_sorted:mg "sorted" = none) (z_tuple:mg "tuple" = none) (hr:Room k (A.deeper (envOfC "_law_lines" (sa0 s_q1) s.heap.objs.size f cdv))) :
    RSs (cxOf CX0 P w K mg base N_q1 "_law_lines" (sa0 s_q1) f cdv A outer s H E).nox (wc0 s_q1) (t_q1 sp_q4) :=
 (xb0 (uc0 (i:=2) sc_q1.nd (vd0 q_ix (zi0 (xa0 ua0 (xa0 ua0 (xa0 ua0 (xa0 ua0 ta0))))) (sc0 (c_q4.mono l_q4) hr (xa0 (ya0 0) (xa0 ua0 ta0))))) (xb0 (uc0 (i:=3) sc_q1.nd (wb0 td0 ua0 (sc0 (c_q4.mono l_q4) hr (xa0 (ya0 0) (xa0 (ya0 2) ta0))))) (xb0 (uc0 (i:=4) sc_q1.nd (wb0 td0 ua0 (sc0 (c_q4.mono l_q4) hr (xa0 (ya0 0) (xa0 (ya0 2) ta0))))) (xb0 (uc0 (i:=5) sc_q1.nd (zi0 ta0)) (xb0 (zg0 PassesOwn.never rfl (yy0 z_range (wb0 wy0 (sc0 (c_q4.mono l_q4) hr (xa0 (ya0 0) (xa0 (wb0 td0 (ya0 1) ua0) ta0))) (wb0 td0 ua0 (wb0 sp1 (ya0 2) ua0)))) (xc0 (i:=6) sc_q1.nd) (xb0 (uc0 (i:=7) sc_q1.nd (wb0 ui0 (sc0 (c_q4.mono l_q4) hr (xa0 (ya0 0) (xa0 (ya0 3) ta0))) ua0)) (xb0 (uc0 (i:=8) sc_q1.nd (wb0 ui0 (sc0 (c_q4.mono l_q4) hr (xa0 (ya0 0) (xa0 (ya0 4) ta0))) ua0)) (xb0 (uc0 (i:=9) sc_q1.nd (sc0 (c_q4.mono l_q4) hr (xa0 (ya0 0) (xa0 ua0 ta0)))) (zb0 (uj0 (te0 q_lt (ya0 9) ua0) (zb0 (wg0 (vp0 (ya0 5) (xa0 (ub0 (xa0 (ya0 7) (xa0 (ya0 8) (xa0 (wb0 zd1 (ya0 9) ua0) ta0)))) ta0)))) (zb0 (uc0 (i:=5) sc_q1.nd (wb0 td0 (ya0 5) (zi0 (xa0 (ub0 (xa0 (ya0 7) (xa0 (ya0 8) (xa0 ua0 ta0)))) (xa0 (ub0 (xa0 (ya0 7) (xa0 (ya0 8) (xa0 ua0 ta0)))) (xa0 (ub0 (xa0 (ya0 7) (xa0 (wb0 td0 (ya0 8) ua0) (xa0 ua0 ta0)))) (xa0 (ub0 (xa0 (wb0 td0 (ya0 7) ua0) (xa0 (ya0 8) (xa0 ua0 ta0)))) ta0)))))))))))))) (zb0 (we0 (wp0 zq2 z_tuple yh2 (xa0 (tp2 (vp2 (ya0 5) z_set (hu64 hr)) z_sorted) ta0)))))))))
theorem sc_q0:FnScope N_q0 ["lines"] (sa0 s_q0):=[3]
theorem us3 {k:Nat} {f:Addr} {cdv:Value} {A:Around} {outer:List Env} {s:Shared} {H:Hp} {E:XK} (hr:Room k (A.deeper (envOfC "_law_ends" (sa0 s_q0) s.heap.objs.size f cdv))) :
    RSs (cxOf CX0 P w K mg base N_q0 "_law_ends" (sa0 s_q0) f cdv A outer s H E).nox (wc0 s_q0) (t_q0) :=
 (xb0 (uc0 (i:=1) sc_q0.nd wj2) (xb0 (zg0 PassesOwn.never rfl (se0 (ya0 0)) (yh1 rfl (wf0 (xc0 (i:=2) sc_q0.nd) (wf0 (xc0 (i:=3) sc_q0.nd) (wf0 (xc0 (i:=4) sc_q0.nd) uv0)))) (zb0 (zg0 PassesOwn.never rfl (se0 (zi0 (xa0 (ub0 (xa0 (ya0 2) (xa0 (ya0 3) ta0))) (xa0 (ub0 (xa0 (wb0 ui0 (wb0 td0 (ya0 2) ua0) (ya0 4)) (xa0 (wb0 td0 (ya0 3) (ya0 4)) ta0))) ta0)))) (xc0 (i:=5) sc_q0.nd) (zb0 (vv0 (hu64 hr) (ya0 1) (ya0 5) (wb0 td0 (ts3 (hu64 hr) (ya0 1) (xa0 (ya0 5) (xa0 ua0 ta0))) ua0)))))) (zb0 (we0 (ya0 1)))))
theorem sc_q2:FnScope N_q2 ["lines"] (sa0 s_q2):=[3]
theorem ws3 {k:Nat} {f:Addr} {cdv:Value} {A:Around} {outer:List Env} {s:Shared} {H:Hp} {E:XK} {sp_q0:Sp3} {k_q0:Nat} (c_q0:Cal P w K mg base k_q0 "_law_ends" ["lines"] sp_q0) (l_q0:k_q0<=k) (z_len:mg "len" = none) (z_min:mg "min" = none) (z_range:mg "range" = none) (z_set:mg "set" = none) (z_sorted:mg "sorted" = none) (hr:Room k (A.deeper (envOfC "_law_pieces" (sa0 s_q2) s.heap.objs.size f cdv))) :
    RSs (cxOf CX0 P w K mg base N_q2 "_law_pieces" (sa0 s_q2) f cdv A outer s H E).nox (wc0 s_q2) (t_q2 sp_q0) :=
 (xb0 (uc0 (i:=1) sc_q2.nd wj2) (xb0 (zg0 PassesOwn.never rfl (se0 (wd0 wq2 z_sorted sq0 (xa0 (sc0 (c_q0.mono l_q0) hr (xa0 (ya0 0) ta0)) ta0))) (xc0 (i:=2) sc_q2.nd) (zb0 (vv0 (hu64 hr) (ya0 1) (ya0 2) (wd0 tp1 z_len wi0 (xa0 (ya0 1) ta0))))) (xb0 (zg0 PassesOwn.never rfl (yy0 z_range (wd0 tp1 z_len wi0 (xa0 (ya0 1) ta0))) (xc0 (i:=3) sc_q2.nd) (zb0 (zg0 PassesOwn.never rfl (se0 (ya0 0)) (yh1 rfl (wf0 (xc0 (i:=4) sc_q2.nd) (wf0 (xc0 (i:=5) sc_q2.nd) (wf0 (xc0 (i:=6) sc_q2.nd) uv0)))) (xb0 (uc0 (i:=7) sc_q2.nd (wd0 (we3 rfl) z_min yz1 (xa0 (sp2 (hu64 hr) (ya0 1) (ub0 (xa0 (ya0 4) (xa0 (ya0 5) ta0)))) (xa0 (sp2 (hu64 hr) (ya0 1) (ub0 (xa0 (wb0 ui0 (wb0 td0 (ya0 4) ua0) (ya0 6)) (xa0 (wb0 td0 (ya0 5) (ya0 6)) ta0)))) ta0)))) (xb0 (vv0 (hu64 hr) (ya0 1) (ub0 (xa0 (ya0 4) (xa0 (ya0 5) ta0))) (ya0 7)) (zb0 (vv0 (hu64 hr) (ya0 1) (ub0 (xa0 (wb0 ui0 (wb0 td0 (ya0 4) ua0) (ya0 6)) (xa0 (wb0 td0 (ya0 5) (ya0 6)) ta0))) (ya0 7)))))))) (zb0 (we0 (xd3 (un0 (NN:=["place", "mark"]) (js:=[none,some 1]) rfl wf1 (uc3 (ya0 1)) (λ _ _ _ _ _=>(xc0 (i:=0) (show List.Nodup (["place", "mark"]:List Str) by decide +kernel))) (λ _ _ _ _ _=>sg0) (λ _ _ _ _ _=>(sp2 (hu64 hr) (ya0 1) (ya0 0))) (by intro _; rfl)) z_set z_len))))))
theorem sc_q10:FnScope wy2 ["script"] (sa0 xr0):=[3]
theorem vc3 {k:Nat} {f:Addr} {cdv:Value} {A:Around} {outer:List Env} {s:Shared} {H:Hp} {E:XK} {sp_q0:Sp3} {k_q0:Nat} (c_q0:Cal P w K mg base k_q0 "_law_ends" ["lines"] sp_q0) (l_q0:k_q0<=k) {sp_q1:Sp3} {k_q1:Nat} (c_q1:Cal P w K mg base k_q1 "_law_lines" ["state", "most"] sp_q1) (l_q1:k_q1<=k) {sp_q2:Sp3} {k_q2:Nat} (c_q2:Cal P w K mg base k_q2 "_law_pieces" ["lines"] sp_q2) (l_q2:k_q2<=k) {sp_q3:Sp3} {k_q3:Nat} (c_q3:Cal P w K mg base k_q3 "_law_state" ["script", "k"] sp_q3) (l_q3:k_q3<=k) {sp_q13:Sp3} {k_q13:Nat} (c_q13:Cal P w K mg base k_q13 "rooms_of" ["picture"] sp_q13) (l_q13:k_q13<=k) (z_len:mg "len" = none) (z_set:mg "set" = none) (hr:Room k (A.deeper (envOfC "law" (sa0 xr0) s.heap.objs.size f cdv))) :
    RSs (cxOf CX0 P w K mg base wy2 "law" (sa0 xr0) f cdv A outer s H E).nox (wc0 xr0) (vz2 sp_q0 sp_q1 sp_q2 sp_q3 sp_q13) :=
 (xb0 (uc0 (i:=1) sc_q10.nd (sc0 (c_q3.mono l_q3) hr (xa0 (ya0 0) (xa0 ua0 ta0)))) (xb0 (uc0 (i:=2) sc_q10.nd (sc0 (c_q1.mono l_q1) hr (xa0 (ya0 1) (xa0 ua0 ta0)))) (xb0 (uc0 (i:=3) sc_q10.nd (sc0 (c_q13.mono l_q13) hr (xa0 (ya0 2) ta0))) (xb0 (uj0 (te0 (q_ne (hu64 hr)) (wd0 vy0 z_len wi0 (xa0 (ya0 3) ta0)) (wb0 td0 (wb0 ui0 (wd0 vy0 z_len wi0 (xa0 (ya0 2) ta0)) (wd0 tp1 z_len wi0 (xa0 (sc0 (c_q0.mono l_q0) hr (xa0 (ya0 2) ta0)) ta0))) (sc0 (c_q2.mono l_q2) hr (xa0 (ya0 2) ta0)))) (zb0 (we0 tl1)) yf0) (xb0 (uc0 (i:=4) sc_q10.nd (zi0 ta0)) (xb0 (zg0 PassesOwn.never rfl (se0 (ya0 3)) (xc0 (i:=5) sc_q10.nd) (zb0 (wg0 (zy0 (ya0 4) (xa0 (ya0 5) ta0))))) (xb0 (uj0 (te0 (q_ne (hu64 hr)) (sc3 (hu64 hr) (ya0 4) z_set z_len) (wd0 vy0 z_len wi0 (xa0 (ya0 4) ta0))) (zb0 (we0 tl1)) yf0) (xb0 (zg0 PassesOwn.never rfl (se0 (ya0 3)) (xc0 (i:=5) sc_q10.nd) (zb0 (zg0 PassesOwn.never rfl (se0 (ya0 5)) (yh1 rfl (wf0 (xc0 (i:=6) sc_q10.nd) (wf0 (xc0 (i:=7) sc_q10.nd) uv0))) (zb0 (zg0 PassesOwn.never rfl (se0 (zi0 (xa0 (ub0 (xa0 (ub0 (xa0 (wb0 td0 (ya0 6) ua0) (xa0 (ya0 7) ta0))) (xa0 (ub0 (xa0 (wb0 td0 (ya0 6) ua0) (xa0 (ya0 7) (xa0 ua0 ta0)))) ta0))) (xa0 (ub0 (xa0 (ub0 (xa0 (ya0 6) (xa0 (wb0 td0 (ya0 7) ua0) ta0))) (xa0 (ub0 (xa0 (ya0 6) (xa0 (wb0 td0 (ya0 7) ua0) (xa0 ua0 ta0)))) ta0))) (xa0 (ub0 (xa0 (ub0 (xa0 (wb0 ui0 (ya0 6) ua0) (xa0 (ya0 7) ta0))) (xa0 (ub0 (xa0 (ya0 6) (xa0 (ya0 7) (xa0 ua0 ta0)))) ta0))) ta0))))) (yh1 rfl (wf0 (xc0 (i:=8) sc_q10.nd) (wf0 (xc0 (i:=9) sc_q10.nd) uv0))) (zb0 (uj0 (zp2 (xj2 (te0 (yd1 (hu65 hr)) (ya0 8) (ya0 5)) (xp1 (te0 (yd1 (hu65 hr)) (ya0 9) (ya0 2))))) (zb0 (we0 tl1)) yf0))))))) (zb0 (we0 tl1))))))))))
end
end Pv
namespace Mw
abbrev Pen:=Int × Int × Int
def cs (h:Int):Int:=if h=0 then 1 else if h=2 then -1 else 0
def sn (h:Int):Int:=if h=1 then 1 else if h=3 then -1 else 0
def led (p q:Pen):Pen:=(p.1 + q.1 * cs p.2.2 - q.2.1 * sn p.2.2,p.2.1 + q.1 * sn p.2.2 + q.2.1 * cs p.2.2,(p.2.2 + q.2.2) % 4)
def st:Pen:=(0,0,0)
def pw (p:Pen):Nat->Pen
 | 0=>st
 | n + 1=>led (pw p n) p
def rep (p:Pen) (n:Int):Pen:=if p.2.2=0 then (p.1 * n,p.2.1 * n,0) else pw p (n % 4).toNat
inductive Dd where
 | go (n:Int) | jump (n:Int) | turn (n:Int) | times (n:Int) (w:List Dd)
def G:Int:=99999999999999999999
mutual
def sk:Dd->Int
 | .go n=>n
 | .times n w=>n * sks w
 | _=>0
def sks:List Dd->Int
 | []=>0
 | d :: r=>sk d + sks r
end
mutual
def dn:Dd->Int
 | .times n w=>n * dns w
 | _=>1
def dns:List Dd->Int
 | []=>0
 | d :: r=>dn d + dns r
end
mutual
def pd:Dd->Pen
 | .go n=>(n,0,0)
 | .jump n=>(n,0,0)
 | .turn n=>(0,0,n % 4)
 | .times n w=>rep (pb w) n
def pb:List Dd->Pen
 | []=>st
 | d :: r=>led (pd d) (pb r)
end
end Mw
namespace Mw
def ab (x:Int):Int:=if x < 0 then -x else x
def pm (p:Pen):Int:=max (ab p.1) (ab p.2.1)
end Mw
namespace Pv
abbrev Pt:=Int × Int
def e0 (s:T3):Pt:=(s.1,s.2.1)
def e1 (s:T3):Pt:=(s.1 + 1 - s.2.2,s.2.1 + s.2.2)
def has (p:Pt) (s:T3):Bool:=decide (e0 s=p) || decide (e1 s=p)
def tch (a b:T3):Prop:=∃ p,has p a=true /\ has p b=true
inductive Conn (ts:List T3) (a:T3):T3->Prop
 | refl:Conn ts a a
 | step {b c:T3}:Conn ts a b->c ∈ ts->tch b c->Conn ts a c
end Pv
namespace Pv
def sds (c:Pt):List (Pt × T3):=[((c.1 + 1,c.2),(c.1 + 1,c.2,1)),((c.1,c.2 + 1),(c.1,c.2 + 1,0)),((c.1 - 1,c.2),(c.1,c.2,1)),((c.1,c.2 - 1),(c.1,c.2,0))]
def nxt (B:T3->Prop) (c d:Pt):Prop:=∃ s,(d,s) ∈ sds c /\ ¬ B s
theorem ur1 {B:T3->Prop} {x y:Int} {d:Pt} (h:nxt B (x,y) d):(d=(x + 1,y) /\ ¬ B (x + 1,y,1)) \/ (d=(x,y + 1) /\ ¬ B (x,y + 1,0)) \/ (d=(x - 1,y) /\ ¬ B (x,y,1)) \/ (d=(x,y - 1) /\ ¬ B (x,y,0)):=by
 obtain ⟨s,h,b⟩:=h;simp only [sds,mem_cons,Prod.mk.injEq,not_mem_nil,or_false] at h;rcases h with ⟨rfl,rfl⟩ | ⟨rfl,rfl⟩ | ⟨rfl,rfl⟩ | ⟨rfl,rfl⟩
 ·exact .inl ⟨rfl,b⟩
 ·exact .inr (.inl ⟨rfl,b⟩)
 ·exact .inr (.inr (.inl ⟨rfl,b⟩))
 ·exact .inr (.inr (.inr ⟨rfl,b⟩))
theorem sd2 {B:T3->Prop} {x y:Int} (h:¬ B (x + 1,y,1)):nxt B (x,y) (x + 1,y):=⟨_,.head _,h⟩
theorem td2 {B:T3->Prop} {x y:Int} (h:¬ B (x,y + 1,0)):nxt B (x,y) (x,y + 1):=⟨_,.tail _ (.head _),h⟩
theorem uw3 {B:T3->Prop} {x y:Int} (h:¬ B (x,y,1)):nxt B (x,y) (x - 1,y):=⟨_,.tail _ (.tail _ (.head _)),h⟩
theorem tw3 {B:T3->Prop} {x y:Int} (h:¬ B (x,y,0)):nxt B (x,y) (x,y - 1):=⟨_,.tail _ (.tail _ (.tail _ (.head _))),h⟩
theorem tk0 {B:T3->Prop} {c d:Pt} (h:nxt B c d):nxt B d c:=by
 obtain ⟨x,y⟩:=c;rcases ur1 h with ⟨rfl,b⟩ | ⟨rfl,b⟩ | ⟨rfl,b⟩ | ⟨rfl,b⟩
 ·have:=uw3 b; rwa [Int.add_sub_cancel] at this
 ·have:=tw3 b; rwa [Int.add_sub_cancel] at this
 ·have:=sd2 (B:=B) (x:=x - 1) (y:=y) (by rwa [Int.sub_add_cancel]); rwa [Int.sub_add_cancel] at this
 ·have:=td2 (B:=B) (x:=x) (y:=y - 1) (by rwa [Int.sub_add_cancel]); rwa [Int.sub_add_cancel] at this
inductive Cn (B:T3->Prop) (c:Pt):Pt->Prop
 | refl:Cn B c c
 | step {d e:Pt}:Cn B c d->nxt B d e->Cn B c e
theorem Cn.trans {B:T3->Prop} {c d e:Pt} (h:Cn B c d) (g:Cn B d e):Cn B c e:=by
 induction g with
 | refl=>exact h
 | step _ n ih=>exact ih.step n
theorem Cn.symm {B:T3->Prop} {c d:Pt} (h:Cn B c d):Cn B d c:=by
 induction h with
 | refl=>exact .refl
 | step _ n ih=>exact (Cn.refl.step (tk0 n)).trans ih
structure Fr (B:T3->Prop) (xa ya xb yb:Int):Prop where
 h:∀ x y,B (x,y,0)->xa < x /\ x < xb - 1 /\ ya < y /\ y<=yb - 1
 v:∀ x y,B (x,y,1)->xa < x /\ x<=xb - 1 /\ ya < y /\ y < yb - 1
def inF (xa ya xb yb:Int) (c:Pt):Prop:=xa<=c.1 /\ c.1 < xb /\ ya<=c.2 /\ c.2 < yb
def cl (a b x:Int):Int:=if x < a then a else if b<=x then b - 1 else x
theorem ug2 {a b x:Int} (h:a<=x) (g:x < b):cl a b x=x:=by unfold cl; rw [if_neg [1],if_neg [1]]
theorem cl_s (a b x:Int) (h:a < b):cl a b (x + 1)=cl a b x \/ (cl a b x=x /\ cl a b (x + 1)=x + 1):=by
 unfold cl;by_cases c1:x + 1 < a
 ·left; rw [if_pos c1,if_pos [1]]
 ·by_cases c2:x < a
  ·left; rw [if_neg c1,if_pos c2,if_neg [1]]; omega
  ·rw [if_neg c1,if_neg c2];by_cases c3:b<=x
   ·left; rw [if_pos c3,if_pos [1]]
   ·rw [if_neg c3];by_cases c4:b<=x + 1
    ·left; rw [if_pos c4]; omega
    ·right; rw [if_neg c4]; exact ⟨rfl,rfl⟩
theorem sm2 {a b x:Int} (h:a < b):(a<=x /\ x < b /\ cl a b x=x) \/ cl a b x=a \/ cl a b x=b - 1:=by
 unfold cl;by_cases c2:x < a
 ·rw [if_pos c2]; exact .inr (.inl rfl)
 ·rw [if_neg c2];by_cases c3:b<=x
  ·rw [if_pos c3]; exact .inr (.inr rfl)
  ·rw [if_neg c3]; exact .inl ⟨by omega,by omega,rfl⟩
theorem cl_e {B:T3->Prop} {xa ya xb yb x y:Int} (F:Fr B xa ya xb yb) (hx:xa < xb) (hy:ya < yb) (b:¬ B (x + 1,y,1)):(cl xa xb (x + 1),cl ya yb y)=(cl xa xb x,cl ya yb y) \/ nxt B (cl xa xb x,cl ya yb y) (cl xa xb (x + 1),cl ya yb y):=by
 rcases cl_s xa xb x hx with e | ⟨e1,e2⟩
 ·left; rw [e]
 ·right;rw [e1,e2];refine sd2 λ z=>?_;have:=F.v _ _ z;rcases sm2 (x:=y) hy with ⟨_,_,e⟩ | e | e
  ·rw [e] at z; exact b z
  ·rw [e] at this; omega
  ·rw [e] at this; omega
theorem cl_n {B:T3->Prop} {xa ya xb yb x y:Int} (F:Fr B xa ya xb yb) (hx:xa < xb) (hy:ya < yb) (b:¬ B (x,y + 1,0)):(cl xa xb x,cl ya yb (y + 1))=(cl xa xb x,cl ya yb y) \/ nxt B (cl xa xb x,cl ya yb y) (cl xa xb x,cl ya yb (y + 1)):=by
 rcases cl_s ya yb y hy with e | ⟨e1,e2⟩
 ·left; rw [e]
 ·right;rw [e1,e2];refine td2 λ z=>?_;have:=F.h _ _ z;rcases sm2 (x:=x) hx with ⟨_,_,e⟩ | e | e
  ·rw [e] at z; exact b z
  ·rw [e] at this; omega
  ·rw [e] at this; omega
theorem xx2 {B:T3->Prop} {xa ya xb yb:Int} {c d:Pt} (F:Fr B xa ya xb yb) (hx:xa < xb) (hy:ya < yb) (h:nxt B c d):(cl xa xb d.1,cl ya yb d.2)=(cl xa xb c.1,cl ya yb c.2) \/ nxt B (cl xa xb c.1,cl ya yb c.2) (cl xa xb d.1,cl ya yb d.2):=by
 obtain ⟨x,y⟩:=c;rcases ur1 h with ⟨rfl,b⟩ | ⟨rfl,b⟩ | ⟨rfl,b⟩ | ⟨rfl,b⟩
 ·exact cl_e F hx hy b
 ·exact cl_n F hx hy b
 ·have:=cl_e (x:=x - 1) (y:=y) F hx hy (by rwa [Int.sub_add_cancel]);rw [Int.sub_add_cancel] at this;exact this.imp Eq.symm tk0
 ·have:=cl_n (x:=x) (y:=y - 1) F hx hy (by rwa [Int.sub_add_cancel]);rw [Int.sub_add_cancel] at this;exact this.imp Eq.symm tk0
theorem wm0 {a b x:Int} (h:a < b):a<=cl a b x /\ cl a b x < b:=by unfold cl; split; omega; split; omega; omega
theorem closed {B:T3->Prop} {xa ya xb yb:Int} {P:Pt->Prop} (F:Fr B xa ya xb yb) (hx:xa < xb) (hy:ya < yb) (H:∀ c d,P c->inF xa ya xb yb c->inF xa ya xb yb d->nxt B c d->P d) {c d:Pt} (hc:inF xa ya xb yb c) (hd:inF xa ya xb yb d) (p:P c) (h:Cn B c d):P d:=by
 have key:P (cl xa xb d.1,cl ya yb d.2):=by
  clear hd
  induction h with
  | refl=>rw [ug2 hc.1 hc.2.1,ug2 hc.2.2.1 hc.2.2.2]; exact p
  | step _ n ih =>
   rcases xx2 F hx hy n with e | e
   ·rw [e]; exact ih
   ·exact H _ _ ih ⟨(wm0 hx).1,(wm0 hx).2,(wm0 hy).1,(wm0 hy).2⟩ ⟨(wm0 hx).1,(wm0 hx).2,(wm0 hy).1,(wm0 hy).2⟩ e
 rwa [ug2 hd.1 hd.2.1,ug2 hd.2.2.1 hd.2.2.2] at key
theorem upCn {B:T3->Prop} {x:Int} (h:∀ y,¬ B (x,y,0)) (y:Int):∀ n:Nat,Cn B (x,y) (x,y + n)
 | 0=>by rw [Int.natCast_zero,Int.add_zero]; exact .refl
 | n + 1=>by
  have:=td2 (h (y + n + 1));rw [Int.natCast_succ,<- Int.add_assoc];exact (upCn h y n).step this
theorem rgCn {B:T3->Prop} {y:Int} (h:∀ x,¬ B (x,y,1)) (x:Int):∀ n:Nat,Cn B (x,y) (x + n,y)
 | 0=>by rw [Int.natCast_zero,Int.add_zero]; exact .refl
 | n + 1=>by
  have:=sd2 (h (x + n + 1));rw [Int.natCast_succ,<- Int.add_assoc];exact (rgCn h x n).step this
theorem um2 {B:T3->Prop} {x:Int} (h:∀ y,¬ B (x,y,0)) (y z:Int):Cn B (x,y) (x,z):=by
 by_cases c:y<=z
 ·have:=upCn h y (z - y).toNat; rwa [show y + ((z - y).toNat:Int)=z by omega] at this
 ·have:=upCn h z (y - z).toNat; rw [show z + ((y - z).toNat:Int)=y by omega] at this; exact this.symm
theorem yj2 {B:T3->Prop} {y:Int} (h:∀ x,¬ B (x,y,1)) (x z:Int):Cn B (x,y) (z,y):=by
 by_cases c:x<=z
 ·have:=rgCn h x (z - x).toNat; rwa [show x + ((z - x).toNat:Int)=z by omega] at this
 ·have:=rgCn h z (x - z).toNat; rw [show z + ((x - z).toNat:Int)=x by omega] at this; exact this.symm
theorem outer {B:T3->Prop} {xa ya xb yb:Int} (F:Fr B xa ya xb yb) {c:Pt} (h:c.1<=xa \/ xb - 1<=c.1 \/ c.2<=ya \/ yb - 1<=c.2):Cn B (xa,ya) c:=by
 obtain ⟨x,y⟩:=c;dsimp only at h;have row:∀ x z,Cn B (x,ya) (z,ya):=yj2 λ x b=>by have:=F.v _ _ b; omega
 have col:∀ y z,Cn B (xa,y) (xa,z):=um2 λ y b=>by have:=F.h _ _ b; omega
 by_cases c1:x<=xa \/ xb - 1<=x
 ·exact (row xa x).trans (um2 (λ y b=>by have:=F.h _ _ b; omega) ya y)
 ·exact (col ya y).trans (yj2 (λ x b=>by have:=F.v _ _ b; omega) xa x)
structure IsRo (B:T3->Prop) (o:Pt) (L:List (List Pt)):Prop where
 srt:∀ r ∈ L,r.Pairwise (λ a b=>lt2 a b=true) /\ r ≠ []
 mem:∀ r ∈ L,∀ c ∈ r,¬ Cn B o c /\ ∀ d,d ∈ r ↔ Cn B c d
 asc:L.Pairwise λ r s=>lt2 (r.headD o) (s.headD o)=true
 cov:∀ c,¬ Cn B o c->∃ r ∈ L,c ∈ r
theorem tr0 {α:Type} {lt:α->α->Prop} (irr:∀ a,¬ lt a a) (tr:∀ a b c,lt a b->lt b c->lt a c):∀ {l m:List α},l.Pairwise lt->m.Pairwise lt->(∀ x,x ∈ l ↔ x ∈ m)->l=m
 | [],[],_,_,_=>rfl
 | [],b :: m,_,_,h=>nomatch (h b).mpr (.head _)
 | a :: l,[],_,_,h=>nomatch (h a).mp (.head _)
 | a :: l,b :: m,h1,h2,h=>by
  rw [List.pairwise_cons] at h1 h2
  have e:a=b:=by
   rcases List.mem_cons.mp ((h a).mp (.head _)) with e | e
   ·exact e
   ·rcases List.mem_cons.mp ((h b).mpr (.head _)) with e' | e'
    ·exact e'.symm
    ·exact absurd (tr _ _ _ (h1.1 _ e') (h2.1 _ e)) (irr _)
  subst e;congr 1;refine tr0 irr tr h1.2 h2.2 λ x=>⟨λ hx=>?_,λ hx=>?_⟩
  ·exact (List.mem_cons.mp ((h x).mp (.tail _ hx))).resolve_left λ z=>irr a (by have:=h1.1 _ hx; rwa [z] at this)
  ·exact (List.mem_cons.mp ((h x).mpr (.tail _ hx))).resolve_left λ z=>irr a (by have:=h2.1 _ hx; rwa [z] at this)
theorem sp0 (a:Pt):¬ lt2 a a=true:=by unfold lt2; simp
theorem wk2 (a b c:Pt) (h:lt2 a b=true) (g:lt2 b c=true):lt2 a c=true:=by
 unfold lt2 at *;simp only [Bool.or_eq_true,Bool.and_eq_true,decide_eq_true_eq,beq_iff_eq] at *;omega
end Pv
namespace Pv
structure Fl (B:T3->Prop) (U:List Pt) (c:Pt) (ps:List Pt) (n:Nat):Prop where
 nd:ps.Nodup
 hd:c ∈ ps
 sub:∀ d ∈ ps,d ∈ U
 co:∀ d ∈ ps,Cn B c d
 cl:∀ (i:Nat) (h:i < ps.length),i < n->∀ e,nxt B ps[i] e->e ∈ U->e ∈ ps
theorem Fl.one {B:T3->Prop} {U:List Pt} {c:Pt} (h:c ∈ U):Fl B U c [c] 0:=⟨(pairwise_singleton _ _),List.mem_singleton.mpr rfl,λ d hd=>by rw [List.mem_singleton.mp hd]; exact h,λ d hd=>by rw [List.mem_singleton.mp hd]; exact .refl,λ i _ h=>absurd h (Nat.not_lt_zero _)⟩
theorem Fl.add {B:T3->Prop} {U:List Pt} {c d e:Pt} {ps:List Pt} {n:Nat} (F:Fl B U c ps n) (hn:n<=ps.length) (hd:d ∈ ps) (hx:nxt B d e) (hu:e ∈ U) (he:e ∉ ps):Fl B U c (ps ++ [e]) n:=by
 refine ⟨?_,mem_append_left _ F.hd,λ x hx=>?_,λ x hx'=>?_,λ i h h2 y hy hyu=>?_⟩
 ·rw [nodup_append];exact ⟨F.nd,(pairwise_singleton _ _),λ x hx y hy z=>he (by rw [<- List.mem_singleton.mp hy,<- z]; exact hx)⟩
 ·rcases List.mem_append.mp hx with h | h
  ·exact F.sub x h
  ·rw [List.mem_singleton.mp h]; exact hu
 ·rcases List.mem_append.mp hx' with h | h
  ·exact F.co x h
  ·rw [List.mem_singleton.mp h]; exact (F.co d hd).step hx
 ·rw [List.getElem_append_left [1]] at hy;exact mem_append_left _ (F.cl i [1] h2 y hy hyu)
theorem Fl.next {B:T3->Prop} {U:List Pt} {c:Pt} {ps:List Pt} {n:Nat} (F:Fl B U c ps n) (hn:n < ps.length) (h:∀ e,nxt B ps[n] e->e ∈ U->e ∈ ps):Fl B U c ps (n + 1) :=
 ⟨F.nd,F.hd,F.sub,F.co,λ i hi h2 e=>by
  by_cases c:i < n
  ·exact F.cl i hi c e
  ·have:i=n:=by omega
   subst this;exact h e⟩
theorem Fl.all {B:T3->Prop} {U:List Pt} {c:Pt} {ps:List Pt} {n:Nat} (F:Fl B U c ps n) (hn:ps.length<=n) {d e:Pt} (hd:d ∈ ps) (hx:nxt B d e) (hu:e ∈ U):e ∈ ps:=by
 obtain ⟨i,hi,rfl⟩:=List.getElem_of_mem hd;exact F.cl i hi [1] e hx hu
theorem zu2 {a b:Pt} (h:lt2 a b=false) (ne:a ≠ b):lt2 b a=true:=by
 unfold lt2 at *;simp only [Bool.or_eq_true,Bool.and_eq_true,decide_eq_true_eq,beq_iff_eq,Bool.or_eq_false_iff,Bool.and_eq_false_iff,decide_eq_false_iff_not,beq_eq_false_iff_ne] at *
 have:a.1 ≠ b.1 \/ a.2 ≠ b.2:=by
  by_cases c:a.1=b.1
  ·exact .inr λ z=>ne (Prod.ext c z)
  ·exact .inl c
 omega
theorem zp3 {us:List Pt} (h:us.Pairwise le2) (n:us.Nodup):us.Pairwise λ a b=>lt2 a b=true:=(h.and n).imp λ {a b} h=>by
 have h1:lt2 b a=false:=h.1;exact zu2 h1 (Ne.symm h.2)
structure Rm (B:T3->Prop) (G:List Pt) (o:Pt) (dn:List Pt) (L:List (List Pt)) (U:List Pt):Prop where
 un:∀ e,e ∈ U ↔ e ∈ G /\ ¬ Cn B o e /\ ∀ r ∈ L,e ∉ r
 srt:∀ r ∈ L,r.Pairwise (λ a b=>lt2 a b=true) /\ r ≠ []
 mem:∀ r ∈ L,∀ c ∈ r,¬ Cn B o c /\ ∀ d,d ∈ r ↔ Cn B c d
 asc:L.Pairwise λ r s=>lt2 (r.headD o) (s.headD o)=true
 hds:∀ r ∈ L,r.headD o ∈ dn
 dn:∀ e ∈ dn,e ∉ U
section
variable {B:T3->Prop} {xa ya xb yb:Int} {G dn U:List Pt} {L:List (List Pt)}
theorem Rm.first (F:Fr B xa ya xb yb) (hx:xa < xb) (hy:ya < yb) (hG:∀ c,c ∈ G ↔ inF xa ya xb yb c) {ps:List Pt} {n:Nat} (f:Fl B G (xa,ya) ps n) (hn:ps.length<=n) (hU:∀ e,e ∈ U ↔ e ∈ G /\ e ∉ ps):Rm B G (xa,ya) [] [] U:=by
 refine ⟨λ e=>?_,(λ r h=>nomatch h),(λ r h=>nomatch h),List.Pairwise.nil,(λ r h=>nomatch h),(λ r h=>nomatch h)⟩;rw [hU];refine ⟨λ ⟨h1,h2⟩=>⟨h1,λ z=>h2 ?_,(λ r h=>nomatch h)⟩,λ ⟨h1,h2,_⟩=>⟨h1,λ z=>h2 (f.co e z)⟩⟩;exact closed (P:=λ d=>d ∈ ps) F hx hy (λ c d pc _ hd h=>f.all hn pc h ((hG d).mpr hd)) ((hG _).mp (f.sub _ f.hd)) ((hG e).mp h1) f.hd z
theorem zu1 (F:Fr B xa ya xb yb) {c:Pt} (h:¬ Cn B (xa,ya) c):inF xa ya xb yb c:=by
 by_cases z:c.1<=xa \/ xb - 1<=c.1 \/ c.2<=ya \/ yb - 1<=c.2
 ·exact absurd (outer F z) h
 ·exact ⟨by omega,by omega,by omega,by omega⟩
theorem Rm.skip {o c:Pt} (R:Rm B G o dn L U) (h:c ∉ U):Rm B G o (dn ++ [c]) L U :=
 ⟨R.un,R.srt,R.mem,R.asc,λ r hr=>mem_append_left _ (R.hds r hr),λ e he=>by
  rcases List.mem_append.mp he with he | he
  ·exact R.dn e he
  ·rw [List.mem_singleton.mp he]; exact h⟩
theorem Rm.take {c:Pt} {ps us rest U':List Pt} {n:Nat} (F:Fr B xa ya xb yb) (hx:xa < xb) (hy:ya < yb) (hG:∀ c,c ∈ G ↔ inF xa ya xb yb c) (uG:G.Pairwise λ a b=>lt2 a b=true) (R:Rm B G (xa,ya) dn L U) (eG:dn ++ c :: rest=G)
    (f:Fl B U c ps n) (hn:ps.length<=n) (hp:us.Perm ps) (hs:us.Pairwise le2) (hU:∀ e,e ∈ U' ↔ e ∈ U /\ e ∉ ps):Rm B G (xa,ya) (dn ++ [c]) (L ++ [us]) U':=by
 have hc:c ∈ U:=f.sub c f.hd;have nc:=((R.un c).mp hc).2.1;have ul:=zp3 hs (hp.nodup_iff.mpr f.nd)
 have key:∀ d,d ∈ us ↔ Cn B c d:=λ d=>by
  rw [hp.mem_iff];refine ⟨f.co d,λ h=>?_⟩;have nd:¬ Cn B (xa,ya) d:=λ z=>nc (z.trans h.symm);refine closed (P:=λ d=>d ∈ ps) F hx hy (λ x y px _ hy' hxy=>?_) (zu1 F nc) (zu1 F nd) f.hd h;have hxU:=(R.un x).mp (f.sub x px);refine f.all hn px hxy ((R.un y).mpr ⟨(hG y).mpr hy',λ z=>hxU.2.1 (z.step (tk0 hxy)),λ r hr yr=>hxU.2.2 r hr ?_⟩);exact ((R.mem r hr y yr).2 x).mpr (Cn.refl.step (tk0 hxy))
 have hd:us.headD (xa,ya)=c:=by
  have hcu:c ∈ us:=(key c).mpr .refl;cases us with
  | nil=>cases hcu
  | cons a t =>
   show a=c;rcases List.mem_cons.mp hcu with e | e
   ·exact e.symm
   ·have h1:=(List.pairwise_cons.mp ul).1 c e;have ha:a ∈ U:=f.sub a (hp.mem_iff.mp (.head _));have hag:a ∈ dn ++ c :: rest:=by rw [eG]; exact ((R.un a).mp ha).1
    rcases List.mem_append.mp hag with h | h
    ·exact absurd ha (R.dn a h)
    ·rcases List.mem_cons.mp h with h | h
     ·exact h
     ·rw [<- eG,List.pairwise_append] at uG;have:=(List.pairwise_cons.mp uG.2.1).1 a h;exact absurd (wk2 _ _ _ h1 this) (sp0 _)
 refine ⟨λ e=>?_,λ r hr=>?_,λ r hr=>?_,?_,λ r hr=>?_,λ e he=>?_⟩
 ·rw [hU,R.un e];constructor
  ·rintro ⟨⟨h1,h2,h3⟩,h4⟩;refine ⟨h1,h2,λ r hr=>?_⟩;rcases List.mem_append.mp hr with hr | hr
   ·exact h3 r hr
   ·rw [List.mem_singleton.mp hr,hp.mem_iff]; exact h4
  ·rintro ⟨h1,h2,h3⟩;refine ⟨⟨h1,h2,λ r hr=>h3 r (mem_append_left _ hr)⟩,λ z=>h3 us (mem_append_right _ (List.mem_singleton.mpr rfl)) (hp.mem_iff.mpr z)⟩
 ·rcases List.mem_append.mp hr with hr | hr
  ·exact R.srt r hr
  ·rw [List.mem_singleton.mp hr];exact ⟨ul,λ z=>by have:=(key c).mpr .refl; rw [z] at this; cases this⟩
 ·rcases List.mem_append.mp hr with hr | hr
  ·exact R.mem r hr
  ·rw [List.mem_singleton.mp hr];intro x hx';have hcx:=(key x).mp hx';exact ⟨λ z=>nc (z.trans hcx.symm),λ d=>(key d).trans ⟨λ h=>hcx.symm.trans h,λ h=>hcx.trans h⟩⟩
 ·rw [List.pairwise_append];refine ⟨R.asc,pairwise_singleton _ _,λ r hr s hs'=>?_⟩;rw [List.mem_singleton.mp hs',hd];rw [<- eG,List.pairwise_append] at uG;exact uG.2.2 _ (R.hds r hr) c (.head _)
 ·rcases List.mem_append.mp hr with hr | hr
  ·exact mem_append_left _ (R.hds r hr)
  ·rw [List.mem_singleton.mp hr,hd]; exact mem_append_right _ (List.mem_singleton.mpr rfl)
 ·rcases List.mem_append.mp he with he | he
  ·exact λ z=>R.dn e he ((hU e).mp z).1
  ·rw [List.mem_singleton.mp he]; exact λ z=>((hU c).mp z).2 f.hd
theorem Rm.last (F:Fr B xa ya xb yb) (hG:∀ c,c ∈ G ↔ inF xa ya xb yb c) (R:Rm B G (xa,ya) G L U):IsRo B (xa,ya) L:=by
 refine ⟨R.srt,R.mem,R.asc,λ c h=>?_⟩;have hg:=(hG c).mpr (zu1 F h);have:=R.dn c hg;rw [R.un] at this
 false_or_by_contra
 rename_i z;exact this ⟨hg,h,λ r hr hc=>z ⟨r,hr,hc⟩⟩
end
end Pv
namespace Pv
open Classical in
def Nc {α:Type} (R:α->α->Prop):List α->Nat
 | []=>0
 | v :: V=>Nc R V + (if ∃ u ∈ V,R v u then 0 else 1)
section
variable {α:Type} {R R':α->α->Prop}
theorem Nc.mono (h:∀ a b,R a b->R' a b):∀ V:List α,Nc R' V<=Nc R V
 | []=>Nat.le_refl _
 | v :: V=>by
  have ih:=Nc.mono h V;unfold Nc;by_cases c:∃ u ∈ V,R v u
  ·rw [if_pos c,if_pos (c.imp λ u hu=>⟨hu.1,h _ _ hu.2⟩)]; exact ih
  ·rw [if_neg c]; split <;> omega
theorem Nc.lt (rf:∀ a,R a a) (sy:∀ a b,R a b->R b a) (tr:∀ a b c,R a b->R b c->R a c) (sy':∀ a b,R' a b->R' b a) (tr':∀ a b c,R' a b->R' b c->R' a c) (h:∀ a b,R a b->R' a b):∀ {V:List α} {x y:α},x ∈ V->y ∈ V->R' x y->¬ R x y->Nc R' V < Nc R V
 | v :: V,x,y,hx,hy,p,n=>by
  have m:=Nc.mono h V
  have key:∀ b,b ∈ V->R' v b->¬ R v b->Nc R' (v :: V) < Nc R (v :: V):=λ b hb p n=>by
   have c':∃ u ∈ V,R' v u:=⟨b,hb,p⟩;unfold Nc;rw [if_pos c'];by_cases c:∃ u ∈ V,R v u
   ·rw [if_pos c];obtain ⟨u,hu,r⟩:=c;exact Nc.lt rf sy tr sy' tr' h hu hb (tr' _ _ _ (sy' _ _ (h _ _ r)) p) λ z=>n (tr _ _ _ r z)
   ·rw [if_neg c]; omega
  rcases List.mem_cons.mp hx with e | hx
  ·rcases List.mem_cons.mp hy with e' | hy
   ·rw [e,e'] at n; exact absurd (rf v) n
   ·rw [e] at p n; exact key y hy p n
  ·rcases List.mem_cons.mp hy with e' | hy
   ·rw [e'] at p n; exact key x hx (sy' _ _ p) λ z=>n (sy _ _ z)
   ·have ih:=Nc.lt rf sy tr sy' tr' h hx hy p n;unfold Nc;by_cases c:∃ u ∈ V,R v u
    ·rw [if_pos c,if_pos (c.imp λ u hu=>⟨hu.1,h _ _ hu.2⟩)]; exact ih
    ·rw [if_neg c]; split <;> omega
theorem Nc.le:∀ V:List α,Nc R V<=V.length
 | []=>Nat.le_refl _
 | v :: V=>by
  have:=Nc.le V;unfold Nc;rw [length_cons];split <;> omega
theorem Nc.pos:∀ {V:List α},V ≠ []->1<=Nc R V
 | [],h=>absurd rfl h
 | [v],_=>by unfold Nc; rw [if_neg (λ ⟨u,h,_⟩=>nomatch h)]; omega
 | v :: w :: V,_=>by
  have:=Nc.pos (V:=w :: V) (λ h=>nomatch h);unfold Nc;omega
theorem Nc.iso {V:List α}:∀ {A:List α},(A ++ V).Nodup->(∀ a ∈ A,∀ u,R a u->a=u)->Nc R (A ++ V)=A.length + Nc R V
 | [],_,_=>by simp
 | a :: A,nd,h=>by
  rw [cons_append,nodup_cons] at nd;have ih:=Nc.iso nd.2 λ b hb=>h b (.tail _ hb);show Nc R (A ++ V) + _=_;rw [if_neg,ih,length_cons]
  ·omega
  ·rintro ⟨u,hu,r⟩;rw [<- h a (.head _) u r] at hu;exact nd.1 hu
theorem Nc.vals {β:Type} [DecidableEq β] {f:α->β}:∀ {V:List α} {D:List β},(∀ a ∈ V,∀ b ∈ V,R a b ↔ f a=f b)->D.Nodup->(∀ y,y ∈ D ↔ y ∈ V.map f)->Nc R V=D.length
 | [],D,_,_,h=>by
  cases D with
  | nil=>rfl
  | cons d D=>exact nomatch (h d).mp (.head _)
 | v :: V,D,hr,nd,h=>by
  have hr':∀ a ∈ V,∀ b ∈ V,R a b ↔ f a=f b:=λ a ha b hb=>hr a (.tail _ ha) b (.tail _ hb);unfold Nc;by_cases c:∃ u ∈ V,R v u
  ·rw [if_pos c];obtain ⟨u,hu,r⟩:=c;refine Nc.vals hr' nd λ y=>(h y).trans ⟨λ z=>?_,λ z=>mem_cons_of_mem _ z⟩;rcases List.mem_cons.mp z with e | z
   ·rw [e,(hr v (.head _) u (.tail _ hu)).mp r]; exact mem_map_of_mem hu
   ·exact z
  ·rw [if_neg c]
   have nv:f v ∉ V.map f:=λ z=>by
    obtain ⟨u,hu,e⟩:=List.mem_map.mp z;exact c ⟨u,hu,(hr v (.head _) u (.tail _ hu)).mpr e.symm⟩
   have ih:=Nc.vals (D:=D.filter λ y=>decide (y ≠ f v)) hr' (nd.filter _) λ y=>by
    rw [mem_filter,decide_eq_true_eq,h y,map_cons,mem_cons];exact ⟨λ ⟨a,b⟩=>a.resolve_left b,λ z=>⟨.inr z,λ e=>nv (e ▸ z)⟩⟩
   have le:D.length=(D.filter λ y=>decide (y ≠ f v)).length + 1:=by
    have p:D.Perm (f v :: D.filter λ y=>decide (y ≠ f v)):=by
     refine (List.perm_ext_iff_of_nodup nd (List.nodup_cons.mpr ⟨λ z=>?_,nd.filter _⟩)).mpr λ y=>?_
     ·have:=of_decide_eq_true (List.mem_filter.mp z).2;exact this rfl
     ·rw [mem_cons,mem_filter,decide_eq_true_eq];refine ⟨λ hy=>?_,λ hy=>?_⟩
      ·by_cases e:y=f v
       ·exact .inl e
       ·exact .inr ⟨hy,e⟩
      ·rcases hy with e | hy
       ·rw [e]; exact (h _).mpr (mem_map_of_mem (.head _))
       ·exact hy.1
    rw [p.length_eq,length_cons]
   omega
end
inductive Pn (B:T3->Prop) (p:Pt):Pt->Prop
 | refl:Pn B p p
 | hr {x y:Int}:Pn B p (x,y)->B (x,y,0)->Pn B p (x + 1,y)
 | hl {x y:Int}:Pn B p (x + 1,y)->B (x,y,0)->Pn B p (x,y)
 | vu {x y:Int}:Pn B p (x,y)->B (x,y,1)->Pn B p (x,y + 1)
 | vd {x y:Int}:Pn B p (x,y + 1)->B (x,y,1)->Pn B p (x,y)
theorem Pn.trans {B:T3->Prop} {p q r:Pt} (h:Pn B p q) (g:Pn B q r):Pn B p r:=by
 induction g with
 | refl=>exact h
 | hr _ b ih=>exact ih.hr b
 | hl _ b ih=>exact ih.hl b
 | vu _ b ih=>exact ih.vu b
 | vd _ b ih=>exact ih.vd b
theorem Pn.symm {B:T3->Prop} {p q:Pt} (h:Pn B p q):Pn B q p:=by
 induction h with
 | refl=>exact .refl
 | hr _ b ih=>exact (Pn.refl.hl b).trans ih
 | hl _ b ih=>exact (Pn.refl.hr b).trans ih
 | vu _ b ih=>exact (Pn.refl.vd b).trans ih
 | vd _ b ih=>exact (Pn.refl.vu b).trans ih
theorem Pn.mono {B B':T3->Prop} (k:∀ s,B s->B' s) {p q:Pt} (h:Pn B p q):Pn B' p q:=by
 induction h with
 | refl=>exact .refl
 | hr _ b ih=>exact ih.hr (k _ b)
 | hl _ b ih=>exact ih.hl (k _ b)
 | vu _ b ih=>exact ih.vu (k _ b)
 | vd _ b ih=>exact ih.vd (k _ b)
theorem Cn.mono {B B':T3->Prop} (k:∀ s,B' s->B s) {p q:Pt} (h:Cn B p q):Cn B' p q:=by
 induction h with
 | refl=>exact .refl
 | step _ n ih=>obtain ⟨s,h,b⟩:=n; exact ih.step ⟨s,h,λ z=>b (k s z)⟩
structure Flw (B:T3->Prop) (p q:Pt) (h v W:Int->Int->Int):Prop where
 e:∀ x y,W x y=W (x + 1) y + v (x + 1) y
 n:∀ x y,W x (y - 1) - W x y + h x y=(if q.2=y /\ x < q.1 then 1 else 0) - (if p.2=y /\ x < p.1 then 1 else 0)
 bh:∀ x y,¬ B (x,y,0)->h x y=0
 bv:∀ x y,¬ B (x,y,1)->v x y=0
def at1 (f:Int->Int->Int) (a b d:Int):Int->Int->Int:=λ x y=>if x=a /\ y=b then f x y + d else f x y
def ray (W:Int->Int->Int) (a b d:Int):Int->Int->Int:=λ x y=>if x < a /\ y=b then W x y + d else W x y
theorem Flw.hor {B:T3->Prop} {p:Pt} {a b:Int} {h v W:Int->Int->Int} (i:Bool) (f:Flw B p (if i then (a,b) else (a + 1,b)) h v W) (hB:B (a,b,0)):Flw B p (if i then (a + 1,b) else (a,b)) (at1 h a b (if i then 1 else -1)) v W:=by
 refine ⟨f.e,λ x y=>?_,λ x y z=>?_,f.bv⟩
 ·have:=f.n x y;unfold at1;cases i <;> simp only [if_true,if_false,Bool.false_eq_true] at this ⊢ <;> split <;> split at this <;> split <;> omega
 ·unfold at1;rw [if_neg]
  ·exact f.bh x y z
  ·rintro ⟨rfl,rfl⟩; exact z hB
theorem Flw.ver {B:T3->Prop} {p:Pt} {a b:Int} {h v W:Int->Int->Int} (i:Bool) (f:Flw B p (if i then (a,b) else (a,b + 1)) h v W) (hB:B (a,b,1)):Flw B p (if i then (a,b + 1) else (a,b)) h (at1 v a b (if i then 1 else -1)) (ray W a b (if i then 1 else -1)):=by
 refine ⟨λ x y=>?_,λ x y=>?_,f.bh,λ x y z=>?_⟩
 ·have:=f.e x y;unfold at1 ray;split <;> split <;> split <;> omega
 ·have:=f.n x y;unfold ray;cases i <;> simp only [if_true,if_false,Bool.false_eq_true] at this ⊢ <;> split <;> split <;> split at this <;> split <;> omega
 ·unfold at1;rw [if_neg]
  ·exact f.bv x y z
  ·rintro ⟨rfl,rfl⟩; exact z hB
theorem Pn.flw {B:T3->Prop} {p q:Pt} (g:Pn B p q):∃ h v W,Flw B p q h v W:=by
 induction g with
 | refl=>exact ⟨λ _ _=>0,λ _ _=>0,λ _ _=>0,λ _ _=>rfl,λ _ _=>by omega,λ _ _ _=>rfl,λ _ _ _=>rfl⟩
 | hr _ b ih=>obtain ⟨h,v,W,f⟩:=ih; exact ⟨_,_,_,f.hor true b⟩
 | hl _ b ih=>obtain ⟨h,v,W,f⟩:=ih; exact ⟨_,_,_,f.hor false b⟩
 | vu _ b ih=>obtain ⟨h,v,W,f⟩:=ih; exact ⟨_,_,_,f.ver true b⟩
 | vd _ b ih=>obtain ⟨h,v,W,f⟩:=ih; exact ⟨_,_,_,f.ver false b⟩
theorem Flw.same {B:T3->Prop} {p:Pt} {h v W:Int->Int->Int} (f:Flw B p p h v W) {c d:Pt} (g:Cn B c d):W c.1 c.2=W d.1 d.2:=by
 have E:∀ x y,¬ B (x + 1,y,1)->W x y=W (x + 1) y:=λ x y b=>by have:=f.e x y; rw [f.bv _ _ b] at this; omega
 have N:∀ x y,¬ B (x,y + 1,0)->W x y=W x (y + 1):=λ x y b=>by
  have:=f.n x (y + 1);rw [f.bh _ _ b,show y + 1 - 1=y by omega] at this;omega
 induction g with
 | refl=>rfl
 | @step d e _ n ih =>
  obtain ⟨x,y⟩:=d;refine ih.trans ?_;rcases ur1 n with ⟨rfl,b⟩ | ⟨rfl,b⟩ | ⟨rfl,b⟩ | ⟨rfl,b⟩
  ·exact E x y b
  ·exact N x y b
  ·have:=E (x - 1) y (by rwa [show x - 1 + 1=x by omega]);rw [show x - 1 + 1=x by omega] at this;exact this.symm
  ·have:=N x (y - 1) (by rwa [show y - 1 + 1=y by omega]);rw [show y - 1 + 1=y by omega] at this;exact this.symm
def end0 (s:T3):Pt:=(s.1,s.2.1)
def end1 (s:T3):Pt:=(s.1 + 1 - s.2.2,s.2.1 + s.2.2)
def sid0 (s:T3):Pt:=if s.2.2=0 then (s.1,s.2.1 - 1) else (s.1 - 1,s.2.1)
theorem yh3 {B:T3->Prop} {s:T3} (hw:s.2.2=0 \/ s.2.2=1) (hB:¬ B s) (h:Pn B (end0 s) (end1 s)):¬ Cn (λ t=>t=s \/ B t) (sid0 s) (end0 s):=by
 obtain ⟨x,y,k⟩:=s;obtain ⟨hh,v,W,f⟩:=h.flw;intro g;have mono:∀ s:T3,Flw (λ t=>t=s \/ B t) (x,y) (end1 (x,y,k)) hh v W:=λ s=>⟨f.e,f.n,λ a b z=>f.bh a b λ w=>z (.inr w),λ a b z=>f.bv a b λ w=>z (.inr w)⟩;dsimp only at hw;rcases hw with rfl | rfl
 ·have e1:end1 (x,y,0)=(x + 1,y):=Prod.ext (by simp [end1]) (by simp [end1]);have m:=mono (x,y,0);rw [e1] at m;have c:=Flw.hor false m (.inl rfl);have q:=c.same g;have n:=c.n x y
  have z:at1 hh x y (if false then 1 else -1) x y = -1:=by
   unfold at1;rw [if_pos ⟨rfl,rfl⟩,f.bh x y hB]; rfl
  rw [z] at n;have q:W x (y - 1)=W x y:=q;simp at n;omega
 ·have e1:end1 (x,y,1)=(x,y + 1):=Prod.ext (by simp [end1]) (by simp [end1]);have m:=mono (x,y,1);rw [e1] at m;have c:=Flw.ver false m (.inl rfl);have q:=c.same g;have n:=c.e (x - 1) y
  have z:at1 v x y (if false then 1 else -1) x y = -1:=by
   unfold at1;rw [if_pos ⟨rfl,rfl⟩,f.bv x y hB]; rfl
  rw [show x - 1 + 1=x by omega,z] at n;have q:ray W x y (if false then 1 else -1) (x - 1) y=ray W x y (if false then 1 else -1) x y:=q;omega
end Pv
namespace Pv
def gpt (x y:Int) (w h:Nat):List Pt:=(List.range w).flatMap λ i:Nat=>(List.range h).map λ j:Nat=>(x + (i:Int),y + (j:Int))
theorem yk0 (x y:Int) (w h:Nat):(gpt x y w h).length=w * h:=by
 unfold gpt;rw [List.length_flatMap];simp [List.map_const',List.sum_replicate_nat]
theorem gpt_mem {x y:Int} {w h:Nat} {c:Pt}:c ∈ gpt x y w h ↔ inF x y (x + w) (y + h) c:=by
 unfold gpt inF;rw [mem_flatMap];constructor
 ·rintro ⟨i,hi,hc⟩;obtain ⟨j,hj,rfl⟩:=List.mem_map.mp hc;rw [List.mem_range] at hi hj;dsimp only;omega
 ·rintro ⟨h1,h2,h3,h4⟩;refine ⟨(c.1 - x).toNat,List.mem_range.mpr [1],List.mem_map.mpr ⟨(c.2 - y).toNat,List.mem_range.mpr [1],?_⟩⟩;exact Prod.ext (by dsimp only; omega) (by dsimp only; omega)
theorem va1 (x y:Int) (w h:Nat):(gpt x y w h).Nodup:=by
 unfold gpt List.flatMap List.Nodup;rw [List.pairwise_flatten];refine ⟨λ l hl=>?_,?_⟩
 ·obtain ⟨i,_,rfl⟩:=List.mem_map.mp hl;refine List.pairwise_map.mpr (List.pairwise_lt_range.imp λ {a b} lt e=>?_);injection e with _ e
  omega
 ·refine List.pairwise_map.mpr (List.pairwise_lt_range.imp λ {a b} lt p hp q hq e=>?_);obtain ⟨_,_,rfl⟩:=List.mem_map.mp hp;obtain ⟨_,_,rfl⟩:=List.mem_map.mp hq;injection e with e _
  omega
def wy' (s:T3):Prop:=s.2.2=0 \/ s.2.2=1
theorem wh3 {B:T3->Prop} {s:T3} (hw:wy' s) (hB:¬ B s):nxt B (sid0 s) (end0 s):=by
 obtain ⟨x,y,k⟩:=s;rcases hw with e | e <;> dsimp only at e <;> subst e
 ·have:=td2 (B:=B) (x:=x) (y:=y - 1) (by rwa [show y - 1 + 1=y by omega])
  rwa [show y - 1 + 1=y by omega] at this
 ·have:=sd2 (B:=B) (x:=x - 1) (y:=y) (by rwa [show x - 1 + 1=x by omega])
  rwa [show x - 1 + 1=x by omega] at this
theorem pn_s {B:T3->Prop} {s:T3} (hw:wy' s) (hB:B s):Pn B (end0 s) (end1 s):=by
 obtain ⟨x,y,k⟩:=s;rcases hw with e | e <;> dsimp only at e <;> subst e
 ·have:=Pn.refl.hr (p:=(x,y)) hB
  rwa [show end1 (x,y,0)=(x + 1,y) from Prod.ext (by simp [end1]) (by simp [end1])]
 ·have:=Pn.refl.vu (p:=(x,y)) hB
  rwa [show end1 (x,y,1)=(x,y + 1) from Prod.ext (by simp [end1]) (by simp [end1])]
theorem yx2 {P G:List Pt} {ts:List T3}:∀ {us:List T3},(us ++ ts).Nodup->(∀ s ∈ us,wy' s /\ end0 s ∈ P /\ end1 s ∈ P /\ sid0 s ∈ G /\ end0 s ∈ G) ->
    Nc (Cn (· ∈ ts)) G + us.length + Nc (Pn (· ∈ us ++ ts)) P<=Nc (Cn (· ∈ us ++ ts)) G + Nc (Pn (· ∈ ts)) P
 | [],_,_=>by simp
 | s :: us,nd,h=>by
  rw [cons_append,nodup_cons] at nd;have ih:=yx2 nd.2 λ t ht=>h t (.tail _ ht);obtain ⟨hw,p0,p1,g0,g1⟩:=h s (.head _)
  have eq:(λ t=>t ∈ s :: us ++ ts)=λ t=>t=s \/ t ∈ us ++ ts:=by
   funext t;rw [cons_append,mem_cons]
  rw [show (λ x=>x ∈ s :: us ++ ts)=_ from eq,length_cons];have cm:∀ a b,Cn (λ t=>t=s \/ t ∈ us ++ ts) a b->Cn (· ∈ us ++ ts) a b:=λ a b=>Cn.mono λ t=>.inr;have pm:∀ a b,Pn (· ∈ us ++ ts) a b->Pn (λ t=>t=s \/ t ∈ us ++ ts) a b:=λ a b=>Pn.mono λ t=>.inr;by_cases c:Pn (· ∈ us ++ ts) (end0 s) (end1 s)
  ·have l1:=Nc.lt (R:=Cn λ t=>t=s \/ t ∈ us ++ ts) (R':=Cn (· ∈ us ++ ts)) (λ a=>.refl) (λ a b=>Cn.symm) (λ a b c=>Cn.trans) (λ a b=>Cn.symm) (λ a b c=>Cn.trans) cm g0 g1 (Cn.refl.step (wh3 hw nd.1)) (yh3 hw nd.1 c);have l2:=Nc.mono pm P;omega
  ·have l1:=Nc.lt (R:=Pn (· ∈ us ++ ts)) (R':=Pn λ t=>t=s \/ t ∈ us ++ ts) (λ a=>.refl) (λ a b=>Pn.symm) (λ a b c=>Pn.trans) (λ a b=>Pn.symm) (λ a b c=>Pn.trans) pm p0 p1 (pn_s hw (.inl rfl)) c;have l2:=Nc.mono cm G;omega
section
variable (xa ya:Int) (n m:Nat)
def full:List T3:=(gpt (xa + 1) (ya + 1) n (m + 1)).map (λ c=>(c.1,c.2,0)) ++ (gpt (xa + 1) (ya + 1) (n + 1) m).map (λ c=>(c.1,c.2,1))
theorem uf2:(full xa ya n m).length=n * (m + 1) + (n + 1) * m:=by
 unfold full;rw [length_append,length_map,length_map,yk0,yk0]
theorem xo0 {s:T3}:s ∈ full xa ya n m ↔ (s.2.2=0 /\ inF (xa + 1) (ya + 1) (xa + 1 + n) (ya + 1 + (m + 1:Nat)) (s.1,s.2.1)) \/ (s.2.2=1 /\ inF (xa + 1) (ya + 1) (xa + 1 + (n + 1:Nat)) (ya + 1 + m) (s.1,s.2.1)):=by
 unfold full;rw [mem_append,mem_map,mem_map];refine or_congr ⟨?_,λ ⟨e,h⟩=>⟨_,gpt_mem.mpr h,?_⟩⟩ ⟨?_,λ ⟨e,h⟩=>⟨_,gpt_mem.mpr h,?_⟩⟩
 ·rintro ⟨c,hc,rfl⟩; exact ⟨rfl,gpt_mem.mp hc⟩
 ·rw [<- e]
 ·rintro ⟨c,hc,rfl⟩; exact ⟨rfl,gpt_mem.mp hc⟩
 ·rw [<- e]
theorem zv1:(full xa ya n m).Nodup:=by
 unfold full;rw [nodup_append];refine ⟨?_,?_,λ s hs t ht e=>?_⟩
 ·exact List.pairwise_map.mpr ((va1 _ _ _ _).imp λ {a b} ne e=>ne (by injection e with e1 e2; injection e2 with e2 _; exact Prod.ext e1 e2))
 ·exact List.pairwise_map.mpr ((va1 _ _ _ _).imp λ {a b} ne e=>ne (by injection e with e1 e2; injection e2 with e2 _; exact Prod.ext e1 e2))
 ·obtain ⟨_,_,rfl⟩:=List.mem_map.mp hs;obtain ⟨_,_,rfl⟩:=List.mem_map.mp ht;injection e with _ e
  injection e with _ e
  cases e
theorem vv1:Fr (· ∈ full xa ya n m) xa ya (xa + (n + 2:Nat)) (ya + (m + 2:Nat)):=by
 refine ⟨λ x y h=>?_,λ x y h=>?_⟩
 ·rcases (xo0 ..).mp h with ⟨_,h⟩ | ⟨e,_⟩
  ·unfold inF at h; dsimp only at h; omega
  ·cases e
 ·rcases (xo0 ..).mp h with ⟨e,_⟩ | ⟨_,h⟩
  ·cases e
  ·unfold inF at h; dsimp only at h; omega
theorem tv2 {ts:List T3} (hw:∀ s ∈ ts,wy' s) (F:Fr (· ∈ ts) xa ya (xa + (n + 2:Nat)) (ya + (m + 2:Nat))) {s:T3} (h:s ∈ ts):s ∈ full xa ya n m:=by
 obtain ⟨x,y,k⟩:=s;rw [xo0];rcases hw _ h with e | e <;> dsimp only at e <;> subst e
 ·have:=F.h x y h;exact .inl ⟨rfl,by unfold inF; dsimp only; omega⟩
 ·have:=F.v x y h;exact .inr ⟨rfl,by unfold inF; dsimp only; omega⟩
theorem wv1 {s:T3} (h:s ∈ full xa ya n m):wy' s /\ end0 s ∈ gpt (xa + 1) (ya + 1) (n + 1) (m + 1) /\ end1 s ∈ gpt (xa + 1) (ya + 1) (n + 1) (m + 1) /\ sid0 s ∈ gpt xa ya (n + 2) (m + 2) /\ end0 s ∈ gpt xa ya (n + 2) (m + 2):=by
 obtain ⟨x,y,k⟩:=s;simp only [gpt_mem];rcases (xo0 ..).mp h with ⟨e,h⟩ | ⟨e,h⟩ <;> dsimp only at e h <;> subst e <;> unfold inF at *
 ·refine ⟨.inl rfl,?_,?_,?_,?_⟩ <;> simp only [end0,end1,sid0,if_true] at * <;> omega
 ·refine ⟨.inr rfl,?_,?_,?_,?_⟩ <;> simp only [end0,end1,sid0,show ¬ ((1:Int)=0) by decide,if_false] at * <;> omega
theorem yn1 {B:T3->Prop} (F:Fr B xa ya (xa + (n + 2:Nat)) (ya + (m + 2:Nat))):Nc (Cn B) (gpt xa ya (n + 2) (m + 2))<=n * m + 1:=by
 let f:Pt->Option Pt:=λ c=>if c ∈ gpt (xa + 1) (ya + 1) n m then some c else none
 let D:List (Option Pt):=none :: (gpt (xa + 1) (ya + 1) n m).map some
 have nD:D.Nodup:=List.nodup_cons.mpr ⟨λ h=>(by obtain ⟨_,_,e⟩:=List.mem_map.mp h; cases e),List.pairwise_map.mpr ((va1 _ _ _ _).imp λ {a b} ne e=>ne (Option.some.inj e))⟩
 have out:∀ c,f c=none->Cn B (xa,ya) c:=λ c h=>by
  refine outer F ?_
  have:c ∉ gpt (xa + 1) (ya + 1) n m:=λ z=>by
   have:f c=some c:=if_pos z;rw [h] at this; cases this
  rw [gpt_mem] at this;unfold inF at this;omega
 have hR:∀ a b,f a=f b->Cn B a b:=λ a b e=>by
  cases h:f a with
  | none=>exact (out a h).symm.trans (out b (e ▸ h))
  | some c =>
   have h1:a=c:=by
    by_cases z:a ∈ gpt (xa + 1) (ya + 1) n m
    ·have:f a=some a:=if_pos z;rw [h] at this; exact (Option.some.inj this).symm
    ·have:f a=none:=if_neg z;rw [h] at this; cases this
   have h2:b=c:=by
    rw [e] at h;by_cases z:b ∈ gpt (xa + 1) (ya + 1) n m
    ·have:f b=some b:=if_pos z;rw [h] at this; exact (Option.some.inj this).symm
    ·have:f b=none:=if_neg z;rw [h] at this; cases this
   rw [h1,h2]; exact .refl
 have l1:=Nc.mono hR (gpt xa ya (n + 2) (m + 2))
 have l2:Nc (λ a b=>f a=f b) (gpt xa ya (n + 2) (m + 2))=(D.filter λ y=>decide (y ∈ (gpt xa ya (n + 2) (m + 2)).map f)).length:=Nc.vals (λ _ _ _ _=>Iff.rfl) (nD.filter _) λ y=>by
  rw [mem_filter,decide_eq_true_eq];refine ⟨λ h=>h.2,λ h=>⟨?_,h⟩⟩;obtain ⟨c,_,rfl⟩:=List.mem_map.mp h;show (if c ∈ gpt (xa + 1) (ya + 1) n m then some c else none) ∈ D;by_cases z:c ∈ gpt (xa + 1) (ya + 1) n m
  ·rw [if_pos z]; exact .tail _ (mem_map_of_mem z)
  ·rw [if_neg z]; exact .head _
 have l3:(D.filter λ y=>decide (y ∈ (gpt xa ya (n + 2) (m + 2)).map f)).length<=D.length:=List.length_filter_le _ _;have l4:D.length=n * m + 1:=by show (List.length (_ :: _))=_; rw [length_cons,length_map,yk0]
 omega
end
theorem yy3 {xa ya:Int} {n m:Nat} {ts:List T3} {E:List Pt} (nd:ts.Nodup) (hw:∀ s ∈ ts,wy' s) (F:Fr (· ∈ ts) xa ya (xa + (n + 2:Nat)) (ya + (m + 2:Nat))) (nE:E.Nodup) (i0:∀ s ∈ ts,end0 s ∈ E /\ end1 s ∈ E) (i1:∀ p ∈ E,∃ s ∈ ts,p=end0 s \/ p=end1 s) :
    Nc (Cn (· ∈ ts)) (gpt xa ya (n + 2) (m + 2)) + E.length=1 + ts.length + Nc (Pn (· ∈ ts)) E:=by
 let Q:List Pt:=gpt (xa + 1) (ya + 1) (n + 1) (m + 1)
 let A:List Pt:=Q.filter λ p=>decide (p ∉ E)
 have fo:∀ s ∈ ts,s ∈ full xa ya n m:=λ s hs=>tv2 xa ya n m hw F hs
 have EQ:∀ p ∈ E,p ∈ Q:=λ p hp=>by
  obtain ⟨s,hs,e⟩:=i1 p hp;have:=wv1 xa ya n m (fo s hs);rcases e with rfl | rfl
  ·exact this.2.1
  ·exact this.2.2.1
 have ndA:(A ++ E).Nodup:=List.nodup_append.mpr ⟨(va1 _ _ _ _).filter _,nE,λ a ha b hb e=>of_decide_eq_true (List.mem_filter.mp ha).2 (e ▸ hb)⟩
 have mem:∀ p,p ∈ A ++ E ↔ p ∈ Q:=λ p=>by
  rw [mem_append,mem_filter,decide_eq_true_eq];refine ⟨λ h=>h.elim (·.1) (EQ p),λ h=>?_⟩;by_cases c:p ∈ E
  ·exact .inr c
  ·exact .inl ⟨h,c⟩
 have lQ:A.length + E.length=(n + 1) * (m + 1):=by
  rw [<- length_append,((List.perm_ext_iff_of_nodup ndA (va1 _ _ _ _)).mpr mem).length_eq,yk0]
 have iso:=Nc.iso (R:=Pn (· ∈ ts)) ndA λ a ha u r=>by
  have key:a=u \/ a ∈ E:=by
   induction r with
   | refl=>exact .inl rfl
   | @hr x y _ b ih=>exact .inr (ih.elim (λ e=>e ▸ (i0 _ b).1) id)
   | @hl x y _ b ih=>exact .inr (ih.elim (λ e=>by have:=(i0 _ b).2; rwa [show end1 (x,y,0)=(x + 1,y) from Prod.ext (by simp [end1]) (by simp [end1]),<- e] at this) id)
   | @vu x y _ b ih=>exact .inr (ih.elim (λ e=>e ▸ (i0 _ b).1) id)
   | @vd x y _ b ih=>exact .inr (ih.elim (λ e=>by have:=(i0 _ b).2; rwa [show end1 (x,y,1)=(x,y + 1) from Prod.ext (by simp [end1]) (by simp [end1]),<- e] at this) id)
  exact key.resolve_right (of_decide_eq_true (List.mem_filter.mp ha).2)
 have inn:∀ s ∈ full xa ya n m,wy' s /\ end0 s ∈ A ++ E /\ end1 s ∈ A ++ E /\ sid0 s ∈ gpt xa ya (n + 2) (m + 2) /\ end0 s ∈ gpt xa ya (n + 2) (m + 2):=λ s hs=>by
  have h:=wv1 xa ya n m hs;exact ⟨h.1,(mem _).mpr h.2.1,(mem _).mpr h.2.2.1,h.2.2.2⟩
 have lo:=yx2 (P:=A ++ E) (G:=gpt xa ya (n + 2) (m + 2)) (ts:=[]) (us:=ts) (by rw [append_nil]; exact nd) λ s hs=>inn s (fo s hs);rw [append_nil] at lo
 have o1:1<=Nc (Cn λ t=>t ∈ ([]:List T3)) (gpt xa ya (n + 2) (m + 2)):=Nc.pos λ h=>by
  have:=yk0 xa ya (n + 2) (m + 2);rw [h,length_nil] at this;have:0 < (n + 2) * (m + 2):=Nat.mul_pos [1] [1];omega
 have o2:=Nc.le (R:=Pn λ t=>t ∈ ([]:List T3)) (A ++ E);rw [length_append] at o2
 let us:List T3:=(full xa ya n m).filter λ s=>decide (s ∉ ts)
 have ndu:(us ++ ts).Nodup:=List.nodup_append.mpr ⟨(zv1 _ _ _ _).filter _,nd,λ a ha b hb e=>of_decide_eq_true (List.mem_filter.mp ha).2 (e ▸ hb)⟩
 have memu:∀ s,s ∈ us ++ ts ↔ s ∈ full xa ya n m:=λ s=>by
  rw [mem_append,mem_filter,decide_eq_true_eq];refine ⟨λ h=>h.elim (·.1) (fo s),λ h=>?_⟩;by_cases c:s ∈ ts
  ·exact .inr c
  ·exact .inl ⟨h,c⟩
 have lu:us.length + ts.length=n * (m + 1) + (n + 1) * m:=by
  rw [<- length_append,((List.perm_ext_iff_of_nodup ndu (zv1 _ _ _ _)).mpr memu).length_eq,uf2]
 have hi:=yx2 (P:=A ++ E) (G:=gpt xa ya (n + 2) (m + 2)) ndu λ s hs=>inn s (List.mem_filter.mp hs).1;have fr:Fr (· ∈ us ++ ts) xa ya (xa + (n + 2:Nat)) (ya + (m + 2:Nat)):=⟨λ x y h=>(vv1 xa ya n m).h x y ((memu _).mp h),λ x y h=>(vv1 xa ya n m).v x y ((memu _).mp h)⟩;have h1:=yn1 xa ya n m fr
 have h2:1<=Nc (Pn (· ∈ us ++ ts)) (A ++ E):=Nc.pos λ h=>by
  have:(A ++ E).length=0:=by rw [h]; rfl
  rw [length_append,lQ] at this;have:0 < (n + 1) * (m + 1):=Nat.mul_pos [1] [1];omega
 have e1:(n + 1) * (m + 1)=n * m + n + m + 1:=by rw [Nat.add_mul,Nat.mul_add,Nat.mul_add]; omega
 have e2:n * (m + 1) + (n + 1) * m=n * m + n * m + n + m:=by rw [Nat.mul_add,Nat.add_mul]; omega
 omega
end Pv
namespace Pv
def low (M:Pt->Int) (c d x:Pt):Int:=if x=c \/ x=d then min (M d) (M c) else M x
theorem tj3 {M:Pt->Int} {c d x:Pt}:low M c d x<=M x:=by
 unfold low;by_cases e:x=c \/ x=d
 ·rw [if_pos e];rcases e with rfl | rfl <;> omega
 ·rw [if_neg e]; exact Int.le_refl _
end Pv
namespace Pv
inductive Ph (ts:List T3):Pt->List Pt->Pt->Prop
 | nil {v:Pt}:Ph ts v [] v
 | cons {v w u:Pt} {l:List Pt} {s:T3}:s ∈ ts->(v=end0 s /\ w=end1 s \/ v=end1 s /\ w=end0 s)->Ph ts w l u->Ph ts v (w :: l) u
theorem Ph.suf {ts:List T3} {w u:Pt} {l:List Pt} (h:Ph ts w l u):(w :: l).Nodup->∀ {v:Pt},v ∈ w :: l->∃ l',Ph ts v l' u /\ (v :: l').Nodup /\ ∀ y ∈ v :: l',y ∈ w :: l:=by
 induction h with
 | @nil v=>exact λ nd x hx=>⟨[],by rw [List.mem_singleton.mp hx]; exact .nil,pairwise_singleton _ _,λ y hy=>by rw [List.mem_singleton.mp hy]; exact hx⟩
 | @cons v w u l s hs e h ih =>
  intro nd x hx;rcases List.mem_cons.mp hx with rfl | hx
  ·exact ⟨_,.cons hs e h,nd,λ y hy=>hy⟩
  ·obtain ⟨l',a,b,c⟩:=ih (List.nodup_cons.mp nd).2 hx;exact ⟨l',a,b,λ y hy=>.tail _ (c y hy)⟩
theorem Pn.path {ts:List T3} {us:List Pt} (hE:∀ s ∈ ts,end0 s ∈ us /\ end1 s ∈ us) {u x:Pt} (hu:u ∈ us) (h:Pn (· ∈ ts) u x):∃ l,Ph ts x l u /\ (x :: l).Nodup /\ ∀ y ∈ x :: l,y ∈ us:=by
 have go:∀ {v w:Pt} {s:T3},s ∈ ts->(v=end0 s /\ w=end1 s \/ v=end1 s /\ w=end0 s)->(∃ l,Ph ts w l u /\ (w :: l).Nodup /\ ∀ y ∈ w :: l,y ∈ us)->∃ l,Ph ts v l u /\ (v :: l).Nodup /\ ∀ y ∈ v :: l,y ∈ us:=λ {v w s} hs e ⟨l,p,nd,m⟩=>by
  by_cases c:v ∈ w :: l
  ·obtain ⟨l',a,b,d⟩:=p.suf nd c;exact ⟨l',a,b,λ y hy=>m y (d y hy)⟩
  ·refine ⟨w :: l,.cons hs e p,List.nodup_cons.mpr ⟨c,nd⟩,λ y hy=>?_⟩;rcases List.mem_cons.mp hy with rfl | hy
   ·rcases e with ⟨rfl,_⟩ | ⟨rfl,_⟩
    ·exact (hE s hs).1
    ·exact (hE s hs).2
   ·exact m y hy
 have e0:∀ x y:Int,end1 (x,y,0)=(x + 1,y):=λ x y=>Prod.ext (by simp [end1]) (by simp [end1]);have e1:∀ x y:Int,end1 (x,y,1)=(x,y + 1):=λ x y=>Prod.ext (by simp [end1]) (by simp [end1])
 induction h with
 | refl=>exact ⟨[],.nil,pairwise_singleton _ _,λ y hy=>by rw [List.mem_singleton.mp hy]; exact hu⟩
 | hr _ b ih=>exact go b (.inr ⟨(e0 _ _).symm,rfl⟩) ih
 | hl _ b ih=>exact go b (.inl ⟨rfl,(e0 _ _).symm⟩) ih
 | vu _ b ih=>exact go b (.inr ⟨(e1 _ _).symm,rfl⟩) ih
 | vd _ b ih=>exact go b (.inl ⟨rfl,(e1 _ _).symm⟩) ih
structure Ps (M0 M:Pt->Int) (js:List T3):Prop where
 le:∀ v,M v<=M0 v
 dn:∀ s ∈ js,M (end0 s)<=M0 (end1 s) /\ M (end1 s)<=M0 (end0 s)
theorem Ps.step {M0 M:Pt->Int} {js:List T3} (P:Ps M0 M js) (s:T3):Ps M0 (low M (end0 s) (end1 s)) (js ++ [s]):=by
 have l0:∀ v,low M (end0 s) (end1 s) v<=M v:=λ v=>tj3;refine ⟨λ v=>Int.le_trans (l0 v) (P.le v),λ t ht=>?_⟩;rcases List.mem_append.mp ht with ht | ht
 ·exact ⟨Int.le_trans (l0 _) (P.dn t ht).1,Int.le_trans (l0 _) (P.dn t ht).2⟩
 ·rw [List.mem_singleton.mp ht];have a:=P.le (end0 s);have b:=P.le (end1 s);unfold low;rw [if_pos (.inl rfl),if_pos (.inr rfl)];omega
structure Mk (ts:List T3) (us:List Pt) (ix M:Pt->Int) (k:Nat):Prop where
 fr:∀ v ∈ us,∃ u ∈ us,Pn (· ∈ ts) v u /\ M v=ix u
 di:∀ v l u,Ph ts v l u->l.length<=k->M v<=ix u
theorem Mk.first {ts:List T3} {us:List Pt} {ix:Pt->Int}:Mk ts us ix ix 0:=⟨λ v hv=>⟨v,hv,.refl,rfl⟩,λ v l u p h=>by
 cases p with
 | nil=>exact Int.le_refl _
 | cons _ _ _=>rw [length_cons] at h; omega⟩
theorem vl3 {ts:List T3} {us:List Pt} {ix M:Pt->Int} {s:T3} (hw:wy' s) (hs:s ∈ ts) (h0:end0 s ∈ us) (h1:end1 s ∈ us) (fr:∀ v ∈ us,∃ u ∈ us,Pn (· ∈ ts) v u /\ M v=ix u):∀ v ∈ us,∃ u ∈ us,Pn (· ∈ ts) v u /\ low M (end0 s) (end1 s) v=ix u:=λ v hv=>by
 have hc:Pn (· ∈ ts) (end0 s) (end1 s):=pn_s hw hs;unfold low;by_cases e:v=end0 s \/ v=end1 s
 ·rw [if_pos e]
  have xc:Pn (· ∈ ts) v (end0 s) /\ Pn (· ∈ ts) v (end1 s):=by
   rcases e with rfl | rfl
   ·exact ⟨.refl,hc⟩
   ·exact ⟨hc.symm,.refl⟩
  by_cases m:M (end1 s)<=M (end0 s)
  ·rw [Int.min_eq_left m];obtain ⟨y,hy,cy,ey⟩:=fr _ h1;exact ⟨y,hy,xc.2.trans cy,ey⟩
  ·rw [Int.min_eq_right [1]];obtain ⟨y,hy,cy,ey⟩:=fr _ h0;exact ⟨y,hy,xc.1.trans cy,ey⟩
 ·rw [if_neg e]; exact fr v hv
theorem Mk.next {ts:List T3} {us:List Pt} {ix M0 M:Pt->Int} {k:Nat} (m:Mk ts us ix M0 k) (P:Ps M0 M ts) (fr:∀ v ∈ us,∃ u ∈ us,Pn (· ∈ ts) v u /\ M v=ix u):Mk ts us ix M (k + 1):=⟨fr,λ v l u p h=>by
 cases p with
 | nil=>exact Int.le_trans (P.le v) (m.di v [] v .nil (Nat.zero_le _))
 | @cons _ w _ l s hs e p =>
  rw [length_cons] at h;have q:=m.di w l u p [1];have d:=P.dn s hs;rcases e with ⟨rfl,rfl⟩ | ⟨rfl,rfl⟩
  ·exact Int.le_trans d.1 q
  ·exact Int.le_trans d.2 q⟩
theorem Mk.last {ts:List T3} {us:List Pt} {ix M:Pt->Int} (hE:∀ s ∈ ts,end0 s ∈ us /\ end1 s ∈ us) (inj:∀ a ∈ us,∀ b ∈ us,ix a=ix b->a=b) (m:Mk ts us ix M us.length):∀ a ∈ us,∀ b ∈ us,Pn (· ∈ ts) a b ↔ M a=M b:=by
 have le:∀ a u,u ∈ us->Pn (· ∈ ts) a u->M a<=ix u:=λ a u hu h=>by
  obtain ⟨l,p,nd,mm⟩:=Pn.path hE hu h.symm;have:=List.Nodup.length_le_of_subset nd λ y hy=>mm y hy;rw [length_cons] at this;exact m.di a l u p [1]
 intro a ha b hb;obtain ⟨u,hu,ua,eu⟩:=m.fr a ha;obtain ⟨v,hv,vb,ev⟩:=m.fr b hb;constructor
 ·intro h;have h1:=le a v hv (h.trans vb);have h2:=le b u hu (h.symm.trans ua);omega
 ·intro h;have:u=v:=inj u hu v hv [1];subst this;exact ua.trans vb.symm
end Pv
namespace Pv
open PySem Mw
theorem wt1 {l:List D} {i:Int} {d:D} {μ:Mu} {Q:VK3} (e:atI l i=some d) (h:Q d μ):ixR (.tup l) (.int i) μ Q:=by
 unfold ixR;simp only [e];exact h
theorem yq0 {p:Addr} {l:List D} {i:Int} {d:D} {μ:Mu} {K:VK3} (h:μ p=some (.lst l)) (e:atI l i=some d) (k:K d μ):ixR (.ref p) (.int i) μ K:=by
 unfold ixR;simp only [h,e];exact k
theorem ix_f {l:List D} {i:Int} {d:D} {μ:Mu} {K:VK3} (e:atI l i=some d) (k:K d μ):ixR (.fls l) (.int i) μ K:=by
 unfold ixR;simp only [e];exact k
theorem z2:2<=sizeLine:=by decide
theorem z3:3<=sizeLine:=by decide
def uk0:Sp3:=λ ds μ Q=>∃ (ns:List Int) (k:Int),ds=[.fls (ns.map D.int),.int k] /\ 0<=k /\ ∀ a b p,0<=a->μ p=none->Q (.ref p) (updM μ p (.lst [.int a,.int b]))
theorem st_t {o0:Option D} {k i:Int} {μ:Mu} {Q:VK3} (q:∀ a b p,0<=a->μ p=none->Q (.ref p) (updM μ p (.lst [.int a,.int b]))) :
    (seq3 (ifs3 (b3 (o3 geR (v3 2) (o3 powR (c3 (.int 10)) (c3 (.int 18))))) (ret3 (lst3 (za0 (o3 subR (v3 2) (o3 powR (c3 (.int 10)) (c3 (.int 18)))) (za0 [12] nil3)))) ti0) (ret3 (lst3 (za0 (o3 modR (o3 addR (v3 2) (o3 mulR (c3 (.int 7919)) (v3 1))) (c3 (.int 2147483647))) (za0 (c3 (.int 0)) nil3))))) { nx:=λ _ μ'=>Q .non μ',rt:=Q } [o0,some (.int k),some (.int i)] μ:=by
 have c:CPow 10 18:=⟨by decide,by decide,by decide⟩;refine ⟨c,?_⟩;show if decide ((10:Int) ^ (18:Int).toNat<=i)=true then _ else _;by_cases h:(10:Int) ^ (18:Int).toNat<=i
 ·rw [if_pos (decide_eq_true h)];exact ⟨c,z2,λ p hp=>q _ _ p [1] hp⟩
 ·rw [if_neg (λ z=>h (of_decide_eq_true z))];exact ⟨.inl (.inl [20]),(show (0:Int) < 2147483647 by decide),z2,λ p hp=>q _ _ p (Int.emod_nonneg _ [20]) hp⟩
theorem ut3 (ds:List D) (μ:Mu) (Q:VK3) (h:uk0 ds μ Q):t_q3 { nx:=λ _ μ'=>Q .non μ',rt:=Q } (ye0 N_q3 ds) μ:=by
 obtain ⟨ns,k,rfl,hk,q⟩:=h;show if decide (k < ((ns.map D.int).length:Int))=true then _ else _;by_cases h:k < ((ns.map D.int).length:Int)
 ·rw [if_pos (decide_eq_true h)];obtain ⟨d,hd,e⟩:=yo3 (l:=ns.map D.int) hk h;obtain ⟨i,_,rfl⟩:=List.mem_map.mp hd;exact ix_f e (st_t (o0:=some (.fls (ns.map D.int))) q)
 ·rw [if_neg (λ z=>h (of_decide_eq_true z))];exact st_t (o0:=some (.fls (ns.map D.int))) q
def spTk:Sp3:=λ ds μ Q=>∃ (p:Addr) (m a b:Int),ds=[.ref p,.int m] /\ 0 < m /\ m < 2 ^ 80 /\ μ p=some (.lst [.int a,.int b]) /\ 0<=a ∧
 ∀ r a' b',0<=r->r < m->0<=a'->Q (.int r) (updM μ p (.lst [.int a',.int b']))
theorem yo2 {p:Addr} {l:List D} {i:Int} {j n:Nat} {d:D} {ρ:St3} {μ:Mu} {K:St3->Mu->Prop} (hp:getI ρ n=some (.ref p)) (h:μ p=some (.lst l)) (e:ixN l.length i=some j) (k:K ρ (updM μ p (.lst (l.set j d)))):sub3 (v3 n) (c3 (.int i)) d ρ μ K:=by
 unfold sub3 v3 c3;rw [hp];dsimp only;rw [h];dsimp only;rw [e];exact k
theorem tk_t {p:Addr} {m a b:Int} {o2:Option D} {μ:Mu} {Q:VK3} (h1:0 < m) (h3:μ p=some (.lst [.int a,.int b])) (q:∀ r a' b',0<=r->r < m->0<=a'->Q (.int r) (updM μ p (.lst [.int a',.int b']))) :
    [21] { nx:=λ _ μ'=>Q .non μ',rt:=Q } [some (.ref p),some (.int m),o2,none] μ:=by
 have ix:∀ {a b:Int} {μ:Mu} {K:VK3},μ p=some (.lst [.int a,.int b])->K (.int a) μ->ixR (.ref p) (.int 0) μ K:=λ h k=>yq0 h atI0 k;show sub3 (v3 0) [12] (.int 0) [some (.ref p),some (.int m),o2,none] μ (λ ρ1 μ1=>_);refine yo2 (p:=p) (i:=1) (j:=1) rfl h3 ixN1 ?_;have e1:updM μ p (.lst ([D.int a,.int b].set 1 (.int 0))) p=some (.lst [.int a,.int 0]):=va0;show ixR (.ref p) (.int 0) (updM μ p (.lst ([D.int a,.int b].set 1 (.int 0)))) (λ x μ1=>_);refine ix e1 ⟨.inl (.inr [20]),(show (0:Int) < 2147483647 by decide),?_⟩;show sub3 (v3 0) (c3 (.int 0)) (.int ((a * 48271 + 69621) % 2147483647)) [some (.ref p),some (.int m),o2,none] (updM μ p (.lst ([D.int a,.int b].set 1 (.int 0)))) (λ ρ1 μ1=>_);refine yo2 (p:=p) (i:=0) (j:=0) rfl e1 ixN0 ?_;rw [vi0];generalize hc:(a * 48271 + 69621) % 2147483647=c;have n1:0<=c:=by rw [<- hc]; exact Int.emod_nonneg _ [20]
 have n2:c < 2147483647:=by rw [<- hc]; exact Int.emod_lt_of_pos _ [20]
 have e2:updM μ p (.lst ([D.int a,.int 0].set 0 (.int c))) p=some (.lst [.int c,.int 0]):=va0;show ixR (.ref p) (.int 0) (updM μ p (.lst ([D.int a,.int 0].set 0 (.int c)))) (λ x μ1=>_);refine ix e2 ?_;show ixR (.ref p) (.int 0) (updM μ p (.lst ([D.int a,.int 0].set 0 (.int c)))) (λ x μ1=>_);refine ix e2 ⟨.inl (.inl [1]),?_⟩;show ixR (.ref p) (.int 0) (updM μ p (.lst ([D.int a,.int 0].set 0 (.int c)))) (λ x μ1=>_);refine ix e2 ⟨.inl (.inl [20]),(show (0:Int) < 2147483629 by decide),?_⟩;have n3:0<=(c * c + 16807 * c) % 2147483629:=Int.emod_nonneg _ [20];have n4:(c * c + 16807 * c) % 2147483629 < 2147483629:=Int.emod_lt_of_pos _ [20];exact ⟨.inl (.inl ⟨Int.lt_of_lt_of_le [20] n3,Int.lt_trans n4 [20]⟩),.inl (.inl [20]),(show (0:Int) < 2147483587 by decide),⟨by decide,by decide⟩,h1,q _ _ _ (Int.emod_nonneg _ [1]) (Int.emod_lt_of_pos _ h1) n1⟩
theorem vt3 (ds:List D) (μ:Mu) (Q:VK3) (h:spTk ds μ Q):t_q4 { nx:=λ _ μ'=>Q .non μ',rt:=Q } (ye0 N_q4 ds) μ:=by
 obtain ⟨p,m,a,b,rfl,h1,h2,h3,h4,q⟩:=h;show ixR (.ref p) (.int 1) μ (λ x μ1=>_);refine yq0 h3 atI1 ?_;show if decide (b=1)=true then _ else _;by_cases c1:b=1
 ·rw [if_pos (decide_eq_true c1)];show ixR (.ref p) (.int 0) μ (λ x μ1=>_);refine yq0 h3 atI0 ?_;show if decide (0 < a)=true then _ else _;by_cases c2:0 < a
  ·rw [if_pos (decide_eq_true c2)];show ixR (.ref p) (.int 0) μ (λ x μ1=>_);refine yq0 h3 atI0 ⟨h1,?_⟩;show ixR (.ref p) (.int 0) μ (λ x μ1=>_);refine yq0 h3 atI0 ⟨⟨h1,by omega⟩,?_⟩;show sub3 (v3 0) (c3 (.int 0)) (.int (a / m)) [some (.ref p),some (.int m),some (.int (a % m)),none] μ (λ ρ1 μ1=>_);refine yo2 (p:=p) (i:=0) (j:=0) rfl h3 ixN0 ?_;exact q _ _ _ (Int.emod_nonneg _ [1]) (Int.emod_lt_of_pos _ h1) (Int.ediv_nonneg h4 [1])
  ·rw [if_neg (λ z=>c2 (of_decide_eq_true z))];exact tk_t h1 h3 q
 ·rw [if_neg (λ z=>c1 (of_decide_eq_true z))];exact tk_t h1 h3 q
def wy (s:T3):Prop:=s.2.2=0 \/ s.2.2=1
def gx (s:T3):Int:=s.1 + 1 - s.2.2
def gy (s:T3):Int:=s.2.1 + s.2.2
def encQ (p:Int × Int):D:=.tup [.int p.1,.int p.2]
def decT (d:D):T3:=(t3? d).getD (0,0,0)
def ur0:Sp3:=λ ds μ Q=>∃ s,ds=[encT s] /\ wy s /\ Q (.tup [encQ (s.1,s.2.1),encQ (gx s,gy s)]) μ
theorem ss3 (ds:List D) (μ:Mu) (Q:VK3) (h:ur0 ds μ Q):t_q9 { nx:=λ _ μ'=>Q .non μ',rt:=Q } (ye0 N_q9 ds) μ:=by
 obtain ⟨⟨x,y,w⟩,rfl,hw,q⟩:=h;rcases hw with e | e
 ·dsimp only at e; subst e;simp only [gx,gy,Int.sub_zero,Int.add_zero] at q;exact ⟨z2,z2,z2,q⟩
 ·dsimp only at e; subst e;simp only [gx,gy,Int.add_sub_cancel] at q;exact ⟨z2,z2,z2,q⟩
def zo1:Sp3:=λ ds μ Q=>∃ s,ds=[encT s] /\ wy s /\ Q .non μ
theorem in_w {w:Int} (h:w=0 \/ w=1) (μ:Mu) (K:VK3) (k:K (.bl false) μ):inR true (.int w) uz0 μ K:=by
 show ((PyData.int w).depth<=64 /\ (PyData.tuple [.int 0,.int 1]).depth<=64) /\ K (.bl (!([.int 0,.int 1]:List PyData).any λ e=>PyData.eqv e (.int w))) μ;refine ⟨⟨by simp [PyData.depth],by simp [PyData.depth,PyData.depthAll]⟩,?_⟩;have e:(([.int 0,.int 1]:List PyData).any λ e=>PyData.eqv e (.int w))=true:=by rcases h with rfl | rfl <;> simp [PyData.eqv]
 rw [e];exact k
theorem xt3 (ds:List D) (μ:Mu) (Q:VK3) (h:zo1 ds μ Q):t_q8 { nx:=λ _ μ'=>Q .non μ',rt:=Q } (ye0 N_q8 ds) μ:=by
 obtain ⟨⟨x,y,w⟩,rfl,hw,q⟩:=h
 show inR true (.int w) uz0 μ (λ d μ1=>match d with
  | .bl c=>(if c=true then _ else _)
  | _=>False)
 exact in_w hw μ _ q
def Lt (a b:T3):Prop:=lt3 a b=true
def Pc (ts:List T3):Prop:=ts.Pairwise Lt /\ (∀ t ∈ ts,wy t) /\ ts.length < 300
theorem tz1 {ts:List T3} {i:Int} (h0:0<=i) (h1:i < ts.length):∃ h:i.toNat < ts.length,atI (ts.map encT) i=some (encT ts[i.toNat]):=by
 have h2:i.toNat < ts.length:=by omega
 refine ⟨h2,?_⟩;unfold atI ixN;rw [if_pos h0,if_pos (by rw [length_map]; omega)];simp [getElem?_eq_getElem h2]
def vg1:Sp3:=λ ds μ Q=>∃ ts,ds=[.tup (ts.map encT)] /\ Pc ts /\ Q .non μ
theorem zt3 (ds:List D) (μ:Mu) (Q:VK3) (h:vg1 ds μ Q):t_q6 zo1 { nx:=λ _ μ'=>Q .non μ',rt:=Q } (ye0 N_q6 ds) μ:=by
 obtain ⟨ts,rfl,⟨h1,h2,h3⟩,q⟩:=h;refine tg0 (λ l ρ μ'=>μ'=μ /\ ∃ (us:List T3) (dd:Option D),l=us.map encT /\ (∀ t ∈ us,wy t) /\ ρ=[some [25],dd,none]) ?_ (λ _ _ _ _=>trivial) ?_ ?_
 ·exact ⟨rfl,ts,none,rfl,h2,rfl⟩
 ·rintro ρ μ' ⟨rfl,us,dd,e,_,rfl⟩;refine ⟨⟨by decide,by decide,by rw [length_map]; omega,by rw [length_map]; omega⟩,?_⟩;refine tg0 (λ l ρ ν=>ν=μ' /\ ∃ (k:Nat) (pp:Option D),l=rngD (1 + (k:Int)) (ts.length - 1 - k) /\ ρ=[some [25],dd,pp]) ?_ (λ _ _ _ _=>trivial) ?_ ?_
  ·refine ⟨rfl,0,none,?_,rfl⟩;rw [length_map,show ((ts.length:Int) - 1).toNat=ts.length - 1 - 0 by omega];simp
  ·rintro ρ μ2 ⟨rfl,k,pp,_,rfl⟩;exact q
  ·rintro GG hG x rest ρ μ2 ⟨rfl,k,pp,e,rfl⟩;cases n:ts.length - 1 - k with
   | zero=>rw [n] at e; simp [rngD] at e
   | succ m =>
    rw [n,xp0] at e;injection e with e1 e2
    subst e1 e2;subst hG;obtain ⟨b1,e1⟩:=tz1 (ts:=ts) (i:=1 + (k:Int) - 1) [1] [1];obtain ⟨b2,e2⟩:=tz1 (ts:=ts) (i:=1 + (k:Int)) [1] [1];have lt:lt3 ts[(1 + (k:Int) - 1).toNat] ts[(1 + (k:Int)).toNat]=true:=List.pairwise_iff_getElem.mp h1 _ _ b1 b2 [1];show ixR [25] (.int (1 + (k:Int) - 1)) μ2 (λ x μ1=>_);refine wt1 e1 ?_;show ixR [25] (.int (1 + (k:Int))) μ2 (λ x μ1=>_);refine wt1 e2 ?_;show if (!lt3 ts[(1 + (k:Int) - 1).toNat] ts[(1 + (k:Int)).toNat])=true then _ else _;rw [lt,if_neg [20]];refine ⟨rfl,k + 1,_,?_,rfl⟩;rw [show ts.length - 1 - (k + 1)=m by omega];congr 1
 ·rintro GG hG x rest ρ μ' ⟨rfl,us,dd,e,hw,rfl⟩;cases us with
  | nil=>cases e
  | cons t us =>
   rw [map_cons] at e;injection e with e1 e2
   subst e1 e2;subst hG;exact ⟨t,rfl,hw t (mem_cons_self ..),rfl,us,_,rfl,λ s hs=>hw s (mem_cons_of_mem _ hs),rfl⟩
theorem yw3 {ks us:List T3} (hn:ks.Nodup) (hw:∀ t ∈ ks,wy t) (hl:ks.length < 300) (a1:us.Perm ks) (a2:us.Pairwise le3):Pc us:=by
 have hn':us.Nodup:=a1.nodup_iff.mpr hn;refine ⟨?_,λ t ht=>hw t (a1.mem_iff.mp ht),by rw [a1.length_eq]; exact hl⟩;have both:us.Pairwise λ a b=>le3 a b /\ a ≠ b:=List.Pairwise.and a2 hn';refine both.imp λ {a b} h=>?_;obtain ⟨x1,x2,x3⟩:=a;obtain ⟨y1,y2,y3⟩:=b;obtain ⟨h1,h2⟩:=h;unfold le3 at h1;unfold Lt;simp only [ne_eq,Prod.mk.injEq] at h2;simp only [lt3,Bool.or_eq_false_iff,Bool.and_eq_false_iff,decide_eq_false_iff_not,beq_eq_false_iff_ne,ne_eq] at h1;simp only [lt3,Bool.or_eq_true,Bool.and_eq_true,decide_eq_true_eq,beq_iff_eq];omega
def pT (s:T3):PyData:=.tuple [.int s.1,.int s.2.1,.int s.2.2]
theorem wm2:∀ L:List T3,dats (L.map encT)=some (L.map pT)
 | []=>rfl
 | t :: r=>by simp only [map_cons,dats,encT,dat,wm2 r,pT]
theorem vx1:∀ L:List T3,PyData.depthAll (L.map pT)<=2
 | []=>by simp [PyData.depthAll]
 | t :: r=>by
  have:=vx1 r;simp only [map_cons,PyData.depthAll,pT,PyData.depth];omega
theorem vg2 (L:List T3):(PyData.tuple (L.map pT)).depth<=64:=by
 have:=vx1 L;simp only [PyData.depth];omega
theorem lt_le {a b:T3} (h:Lt a b):le3 a b:=by
 obtain ⟨x1,x2,x3⟩:=a;obtain ⟨y1,y2,y3⟩:=b;simp only [Lt,lt3,Bool.or_eq_true,Bool.and_eq_true,decide_eq_true_eq,beq_iff_eq] at h;simp only [le3,lt3,Bool.or_eq_false_iff,Bool.and_eq_false_iff,decide_eq_false_iff_not,beq_eq_false_iff_ne,ne_eq];omega
theorem xh3 {ts:List T3} (h:Pc ts):ts.Nodup:=h.1.imp λ {a b} h e=>by
 subst e;simp [Lt,lt3] at h
theorem tl3 (s t:T3):PyData.eqv (pT s) (pT t)=decide (s=t):=by
 obtain ⟨a,b,c⟩:=s;obtain ⟨d,e,f⟩:=t;have q:∀ x y:Int,(x == y)=decide (x=y):=λ x y=>by by_cases h:x=y <;> simp [h]
 simp [pT,PyData.eqv,PyData.eqvAll,Bool.and_assoc,q]
theorem zl {ts:List T3} (h:ts.length < 300):(ts.map encT).length<=sizeLine:=by
 have:(1000:Nat) < sizeLine:=by decide
 rw [length_map];omega
theorem wl2 (ns:List Int):ints? (ns.map D.int)=some ns:=by
 induction ns with
 | nil=>rfl
 | cons n r ih=>simp only [map_cons,ints?,ih]
theorem xj3 {p:Addr} {ns:List Int} {μ:Mu} {Q:VK3} (h:μ p=some (.lst (ns.map D.int))) (k:0 < ns.length /\ ∀ m,m ∈ ns->(∀ a,a ∈ ns->m<=a)->Q (.int m) μ):zm1 [.ref p] μ Q:=by
 simp only [zm1,h,wl2];exact k
theorem ui3 {p:Addr} {ns:List Int} {μ:Mu} {Q:VK3} (h:μ p=some (.lst (ns.map D.int))) (k:0 < ns.length /\ ∀ m,m ∈ ns->(∀ a,a ∈ ns->a<=m)->Q (.int m) μ):wm1 [.ref p] μ Q:=by
 simp only [wm1,h,wl2];exact k
structure Bx (ts:List T3) (x0 y0 x1 y1:Int):Prop where
 a0:∃ s ∈ ts,s.1=x0
 l0:∀ s ∈ ts,x0<=s.1
 b0:∃ s ∈ ts,s.2.1=y0
 m0:∀ s ∈ ts,y0<=s.2.1
 a1:∃ s ∈ ts,gx s=x1
 l1:∀ s ∈ ts,gx s<=x1
 b1:∃ s ∈ ts,gy s=y1
 m1:∀ s ∈ ts,gy s<=y1
theorem Bx.one {ts:List T3} {x0 y0 x1 y1 u0 v0 u1 v1:Int} (h:Bx ts x0 y0 x1 y1) (k:Bx ts u0 v0 u1 v1):x0=u0 /\ y0=v0 /\ x1=u1 /\ y1=v1:=by
 obtain ⟨⟨s1,a1,b1⟩,l0,⟨s2,a2,b2⟩,m0,⟨s3,a3,b3⟩,l1,⟨s4,a4,b4⟩,m1⟩:=h;obtain ⟨⟨t1,c1,d1⟩,n0,⟨t2,c2,d2⟩,o0,⟨t3,c3',d3⟩,n1,⟨t4,c4,d4⟩,o1⟩:=k;have:=l0 t1 c1; have:=n0 s1 a1; have:=m0 t2 c2; have:=o0 s2 a2;have:=l1 t3 c3'; have:=n1 s3 a3; have:=m1 t4 c4; have:=o1 s4 a4;exact ⟨by omega,by omega,by omega,by omega⟩
def xb2:Sp3:=λ ds μ Q=>∃ ts:List T3,ds=[.tup (ts.map encT)] /\ (∀ t ∈ ts,wy t) /\ ts.length < 300 /\ (ts=[]->Q .non μ) /\ (ts ≠ []->∀ x0 y0 x1 y1 μ',Bx ts x0 y0 x1 y1->Ext μ μ'->Q (.tup [.int x0,.int y0,.int x1,.int y1]) μ')
theorem sj1 {i:Nat} {w:Nat} {ρ:St3} {p:Addr} {L:List Pt} {g:Pt->Int} {μ:Mu} {K:VK3} (hi:(i=0 /\ g=λ q=>q.1) \/ (i=1 /\ g=λ q=>q.2)) (hv:getI ρ w=some (.ref p)) (h:μ p=some (.lst (L.map encQ))) (hl:L.length < 1000)
    (k:∀ r μ',Ext μ μ'->μ' r=some (.lst ((L.map g).map D.int))->K (.ref r) μ'):th0 [none] (is3 (v3 w)) (gn3 0) tt3 (o3 ixR (v3 0) (c3 (.int (i:Int)))) ρ μ K:=by
 have hz:(1000:Nat) < sizeLine:=by decide
 unfold th0 is3 v3;rw [hv];dsimp only;rw [h];intro r hr;refine wj0 (rest:=[]) (λ d=>.int (match d with | .tup [.int a,.int b]=>g (a,b) | _=>0)) hr (by rw [length_map]; omega) (λ μ' e=>e _ _ h) ?_ ?_
 ·intro x hx μ' R ex kk;obtain ⟨q,_,rfl⟩:=List.mem_map.mp hx;rcases hi with ⟨rfl,rfl⟩ | ⟨rfl,rfl⟩ <;> exact kk μ' (Ext.refl _)
 ·intro μ' ex e
  have el:(L.map encQ).map (λ d=>D.int (match d with | .tup [.int a,.int b]=>g (a,b) | _=>0))=(L.map g).map D.int:=by
   rw [map_map,map_map]; rfl
  rw [el] at e;exact k r μ' ex e
theorem td3 (ds:List D) (μ:Mu) (Q:VK3) (h:xb2 ds μ Q):zz2 ur0 { nx:=λ _ μ'=>Q .non μ',rt:=Q } (ye0 yy2 ds) μ:=by
 obtain ⟨ts,rfl,hw,hl,q0,q1⟩:=h;have hz:(1000:Nat) < sizeLine:=by decide
 show if decide (((ts.map encT).length:Int)=0)=true then _ else _;by_cases c:ts=[]
 ·rw [decide_eq_true (by rw [c]; rfl),if_pos rfl];exact q0 c
 have hpos:=List.length_pos_iff.mpr c;rw [decide_eq_false (by rw [length_map]; omega),if_neg [20]]
 have cq:∀ (f:T3->Pt) (i:Int) (K:VK3) (μ:Mu),(∀ s ∈ ts,∀ μ' R,R (encQ (f s)) μ'->(o3 ixR (vc0 ur0 (za0 (v3 0) nil3)) (c3 (.int i))) [some (encT s)] μ' R)->(∀ r μ',Ext μ μ'->μ' r=some (.lst ((ts.map f).map encQ))->K (.ref r) μ')->∀ r,μ r=none->tg2 (λ _=>True) r (gn3 0) tt3 (o3 ixR (vc0 ur0 (za0 (v3 0) nil3)) (c3 (.int i))) K (ts.map encT) [none] (updM μ r (.lst [])):=by
  intro f i K μ hf k r hr;refine wj0 (rest:=[]) (λ d=>encQ (f (decT d))) hr (zl hl) (λ _ _=>trivial) ?_ ?_
  ·intro x hx μ' R ex kk;obtain ⟨s,hs,rfl⟩:=List.mem_map.mp hx;exact hf s hs μ' R (kk μ' (Ext.refl _))
  ·intro μ' ex e;have el:(ts.map encT).map (λ d=>encQ (f (decT d)))=(ts.map f).map encQ:=by rw [map_map,map_map]; rfl
   rw [el] at e;exact k r μ' ex e
 refine cq e0 0 _ μ (λ s hs μ' R kk=>⟨s,rfl,hw s hs,kk⟩) λ r1 μ1 ex1 er1=>?_;refine cq e1 1 _ μ1 (λ s hs μ' R kk=>⟨s,rfl,hw s hs,kk⟩) λ r2 μ2 ex2 er2=>?_;have er1':=ex2 _ _ er1;show uf0 ur0 _ [some [25],some (.ref r1),some (.ref r2),none] μ2;have l60:(ts.map e0).length < 1000:=by rw [length_map]; omega
 have l61:(ts.map e1).length < 1000:=by rw [length_map]; omega
 unfold uf0;dsimp only [seq3,set3,tup3,za0,vc0];refine sj1 (i:=0) (.inl ⟨rfl,rfl⟩) rfl er1' l60 λ r3 μ3 ex3 er3=>?_
 try dsimp only [nil3]
 refine xj3 er3 ⟨by simp only [length_map]; exact hpos,λ x0 a1 b1=>?_⟩;refine sj1 (i:=1) (.inr ⟨rfl,rfl⟩) rfl (ex3 _ _ er1') l60 λ r4 μ4 ex4 er4=>?_
 try dsimp only [nil3]
 refine xj3 er4 ⟨by simp only [length_map]; exact hpos,λ y0 a2 b2=>⟨z2,?_⟩⟩;have er2':=ex4 _ _ (ex3 _ _ er2);unfold xi0;dsimp only [ret3,o3,seq3,set3,tup3,za0,vc0];refine sj1 (i:=0) (.inl ⟨rfl,rfl⟩) rfl er2' l61 λ r5 μ5 ex5 er5=>?_
 try dsimp only [nil3]
 refine ui3 er5 ⟨by simp only [length_map]; exact hpos,λ x1 a3 b3=>?_⟩;refine sj1 (i:=1) (.inr ⟨rfl,rfl⟩) rfl (ex5 _ _ er2') l61 λ r6 μ6 ex6 er6=>?_
 try dsimp only [nil3]
 refine ui3 er6 ⟨by simp only [length_map]; exact hpos,λ y1 a4 b4=>⟨z2,Z0,?_⟩⟩;refine q1 c x0 y0 x1 y1 μ6 ?_ (ex1.trans (ex2.trans (ex3.trans (ex4.trans (ex5.trans ex6)))));simp only [map_map,mem_map,Function.comp] at a1 a2 a3 a4 b1 b2 b3 b4;obtain ⟨s1,h1,rfl⟩:=a1;obtain ⟨s2,h2,rfl⟩:=a2;obtain ⟨s3,h3,rfl⟩:=a3;obtain ⟨s4,h4,rfl⟩:=a4;exact ⟨⟨s1,h1,rfl⟩,λ s hs=>b1 _ ⟨s,hs,rfl⟩,⟨s2,h2,rfl⟩,λ s hs=>b2 _ ⟨s,hs,rfl⟩,⟨s3,h3,rfl⟩,λ s hs=>b3 _ ⟨s,hs,rfl⟩,⟨s4,h4,rfl⟩,λ s hs=>b4 _ ⟨s,hs,rfl⟩⟩
def tk3 (t:T3):List Int:=[t.1,t.2.1,t.2.2]
def ptk (p:Pt):List Int:=[p.1,p.2]
theorem um1 (p:Pt):keyI (encQ p)=some (ptk p):=rfl
theorem tj0 {p q:Pt} (h:ptk p=ptk q):p=q:=by
 unfold ptk at h;injection h with h1 h2
 injection h2 with h2 _
 exact Prod.ext h1 h2
theorem tn1 {a b:T3} (h:tk3 a=tk3 b):a=b:=by
 unfold tk3 at h;injection h with h1 h2
 injection h2 with h2 h3
 injection h3 with h3 _
 exact Prod.ext h1 (Prod.ext h2 h3)
theorem ul3 {p q:Addr} {l m:List D} {μ:Mu} {Q:VK3} (h1:μ p=some (.lst l)) (h2:μ q=some (.lst m)) (hl:l.length + m.length<=sizeLine) (k:Q .non (updM μ p (.lst (l ++ m)))):extR (.ref p) [.ref q] μ Q:=by
 unfold extR;simp only [h1,h2];exact ⟨hl,k⟩
theorem ExtB.updn {μ0 μ:Mu} {s p:Addr} {o:MO} (e:ExtB s μ0 μ) (h:μ0 p=none):ExtB s μ0 (updM μ p o):=λ a u n q=>by
 rw [yb0 (sb0 q h)]; exact e a u n q
def encS (p:Pt × T3):D:=.tup [encQ p.1,encT p.2]
def spSd:Sp3:=λ ds μ Q=>∃ c:Pt,ds=[encQ c] /\ Q (.tup ((sds c).map encS)) μ
theorem vd3 (ds:List D) (μ:Mu) (Q:VK3) (h:spSd ds μ Q):xz2 { nx:=λ _ μ'=>Q .non μ',rt:=Q } (ye0 sx2 ds) μ:=by
 obtain ⟨c,rfl,q⟩:=h;exact ⟨z2,z3,z2,z2,z3,z2,z2,z3,z2,z2,z3,z2,Z0,q⟩
theorem sw2 {S:Mu->Prop} {p:Addr} {tc:TT3} {te:TE3} {Q:VK3} {l:List D} {o:Option D} {rest:St3} {μ:Mu} (f:D->Bool) (g:D->D) (hp:μ p=none) (hl:l.length<=sizeLine) (hS:∀ μ',Ext μ μ'->S μ')
    (hc:∀ x ∈ l,∀ μ' R,Ext μ μ'->R (f x) μ'->tc (some x :: rest) μ' R) (hx:∀ x ∈ l,∀ μ' R,Ext μ μ'->R (g x) μ'->te (some x :: rest) μ' R) (hQ:∀ μ',Ext μ μ'->μ' p=some (.lst ((l.filter f).map g))->Q (.ref p) μ'):tg2 S p (gn3 0) tc te Q l (o :: rest) (updM μ p (.lst [])):=by
 refine ⟨λ r ys ρ μ'=>Ext μ μ' /\ μ' p=some (.lst ys) /\ (∃ o',ρ=o' :: rest) /\ ∃ a,a ++ r=l /\ ys=(a.filter f).map g,?_,?_,?_,?_⟩
 ·exact ⟨Ext.new hp,va0,⟨o,rfl⟩,[],rfl,rfl⟩
 ·rintro r ys ρ μ' ⟨h1,h2,_⟩;exact ⟨hS _ h1,h2⟩
 ·rintro ys ρ μ' ⟨h1,h2,_,a,e,rfl⟩;rw [append_nil] at e;subst e;exact hQ _ h1 h2
 ·rintro x r ys ρ μ' ⟨h1,h2,⟨o',rfl⟩,a,e,rfl⟩;have hm:x ∈ l:=by rw [<- e]; simp
  refine ⟨?_,hc x hm μ' _ h1 ?_⟩
  ·have h3:=congrArg List.length e;rw [length_append,length_cons] at h3;have:=List.length_filter_le f a;rw [length_map];omega
  ·have e2:(a ++ [x]) ++ r=l:=by rw [<- e]; simp
   cases c:f x with
   | true =>
    refine hx x hm μ' _ h1 ⟨h2,λ b v hb=>?_,va0,⟨_,rfl⟩,a ++ [x],e2,?_⟩
    ·rw [yb0 (sb0 hb hp)];exact h1 b v hb
    ·rw [List.filter_append];simp [c]
   | false =>
    refine ⟨h1,h2,⟨_,rfl⟩,a ++ [x],e2,?_⟩;rw [List.filter_append];simp [c]
def decS (d:D):Pt × T3:=match d with
 | .tup [.tup [.int a,.int b],.tup [.int x,.int y,.int z]]=>((a,b),(x,y,z))
 | _=>((0,0),(0,0,0))
def nbs (kvs:[16]) (c:Pt):List Pt:=((sds c).filter λ p=>!(valL kvs (tk3 p.2)).isSome).map (·.1)
def spNb:Sp3:=λ ds μ Q=>∃ (c:Pt) (d:Addr) (kvs:[16]),ds=[encQ c,.ref d] /\ μ d=some (.dcp kvs) /\ ∀ r μ',Ext μ μ'->μ r=none->μ' r=some (.lst ((nbs kvs c).map encQ))->Q (.ref r) μ'
theorem sd3 (ds:List D) (μ:Mu) (Q:VK3) (h:spNb ds μ Q):wz2 spSd { nx:=λ _ μ'=>Q .non μ',rt:=Q } (ye0 zy2 ds) μ:=by
 obtain ⟨c,d,kvs,rfl,hd,q⟩:=h;refine ⟨c,rfl,λ r hr=>?_⟩;refine sw2 (rest:=[some (.ref d)]) (λ x=>!(valL kvs (tk3 (decS x).2)).isSome) (λ x=>encQ (decS x).1) hr Z0 (λ _ _=>trivial) ?_ ?_ ?_
 ·intro x hx μ' R ex k;obtain ⟨p,_,rfl⟩:=List.mem_map.mp hx;have hd':=ex _ _ hd
  conv=>whnf
  rw [hd'];exact k
 ·intro x hx μ' R ex k;obtain ⟨p,_,rfl⟩:=List.mem_map.mp hx;exact k
 ·intro μ' ex e;refine q r μ' ex hr ?_;rw [e];congr 2;unfold nbs;rw [List.filter_map,map_map,map_map];rfl
def col (x y:Int) (h:Nat):List Pt:=(List.range h).map λ j:Nat=>(x,y + (j:Int))
def grid (x y:Int) (w h:Nat):List Pt:=(List.range w).flatMap λ i:Nat=>col (x + (i:Int)) y h
theorem vj1 (x y:Int) (w h:Nat):(grid x y w h).length=w * h:=by
 unfold grid col;rw [List.length_flatMap];simp [List.map_const',List.sum_replicate_nat]
theorem za1 (x y:Int) (w h:Nat):grid x y (w + 1) h=grid x y w h ++ col (x + (w:Int)) y h:=by
 unfold grid;rw [List.range_succ,List.flatMap_append];simp
theorem xn1 {x y:Int} {w h:Nat} (hw:0 < w) (hh:0 < h):(x,y) ∈ grid x y w h:=by
 unfold grid col;rw [mem_flatMap];exact ⟨0,List.mem_range.mpr hw,List.mem_map.mpr ⟨0,List.mem_range.mpr hh,by simp⟩⟩
def encB (x0 y0 x1 y1:Int):D:=.tup [.int x0,.int y0,.int x1,.int y1]
def spCr:Sp3:=λ ds μ Q=>∃ (x0 y0 x1 y1:Int) (w h:Nat),ds=[encB x0 y0 x1 y1] /\ x1 - x0 + 2=w /\ y1 - y0 + 2=h /\ w * h<=2500 /\ 0 < w /\ 0 < h /\ (-(2 ^ 61)<=x0 /\ x0<=2 ^ 61 /\ -(2 ^ 61)<=y0 /\ y0<=2 ^ 61) /\ ∀ r μ',Ext μ μ'->μ r=none->μ' r=some (.lst ((grid (x0 - 1) (y0 - 1) w h).map encQ))->Q (.ref r) μ'
theorem wt3 (ds:List D) (μ:Mu) (Q:VK3) (h:spCr ds μ Q):t_q5 { nx:=λ _ μ'=>Q .non μ',rt:=Q } (ye0 N_q5 ds) μ:=by
 obtain ⟨x0,y0,x1,y1,w,h,rfl,ew,eh,hz,hw,hh,⟨b1,b2,b3,b4⟩,q⟩:=h;have hs:(1000000:Nat) < sizeLine:=by decide
 have w5:w<=2500:=Nat.le_trans (Nat.le_mul_of_pos_right w hh) hz;have h5:h<=2500:=Nat.le_trans (Nat.le_mul_of_pos_left h hw) hz;refine ⟨Nat.zero_le _,λ r hr=>?_⟩;refine ⟨⟨by omega,by omega,by omega,by omega⟩,?_⟩;rw [show (x1 + 1 - (x0 - 1)).toNat=w by omega];refine tg0 (λ l ρ μ'=>∃ (i:Nat) (o:Option D),i<=w /\ l=rngD (x0 - 1 + (i:Int)) (w - i) /\ ρ=[some (encB x0 y0 x1 y1),some (.ref r),o] /\ Ext μ μ' /\ μ' r=some (.lst ((grid (x0 - 1) (y0 - 1) i h).map encQ))) ?_ (λ _ _ _ _=>trivial) ?_ ?_
 ·exact ⟨0,none,Nat.zero_le _,by simp,rfl,Ext.new hr,va0⟩
 ·rintro ρ μ' ⟨i,o,hi,e,rfl,ex,er⟩
  have:w - i=0:=by
   have:=congrArg List.length e;simpa [rngD] using this.symm
  have e2:i=w:=by omega
  subst e2;exact q r μ' ex hr er
 ·rintro GG hG x rest ρ μ' ⟨i,o,hi,e,rfl,ex,er⟩;cases hk:w - i with
  | zero=>rw [hk] at e; cases e
  | succ k =>
   rw [hk,xp0] at e;injection e with e1 e2
   subst e1 e2;subst hG;have gl:=vj1 (x0 - 1) (y0 - 1) i h
   have il:i * h + h<=2500:=by
    have:(i + 1) * h<=w * h:=Nat.mul_le_mul_right h [1];rw [Nat.add_mul,Nat.one_mul] at this;omega
   conv=>whnf
   rw [er];refine ⟨⟨by omega,by omega,by omega,by omega⟩,λ p hp=>?_⟩;rw [show (y1 + 1 - (y0 - 1)).toNat=h by omega];refine wj0 (rest:=[some (.int (x0 - 1 + (i:Int)))]) (λ d=>.tup [.int (x0 - 1 + (i:Int)),d]) hp (by simp [rngD]; omega) (λ _ _=>trivial) ?_ ?_
   ·intro y hy μ2 R ex2 kk;exact ⟨z2,kk μ2 (Ext.refl _)⟩
   ·intro μ2 ex2 e2
    have el:(rngD (y0 - 1) h).map (λ d=>D.tup [.int (x0 - 1 + (i:Int)),d])=(col (x0 - 1 + (i:Int)) (y0 - 1) h).map encQ:=by
     unfold rngD col;rw [map_map,map_map];rfl
    rw [el] at e2;have er2:=ex2 _ _ er;have np:r ≠ p:=sb0 er hp;dsimp only [nil3];refine ul3 er2 e2 (by rw [length_map,length_map,gl]; unfold col; simp; omega) ?_;refine ⟨i + 1,_,by omega,?_,rfl,λ a o ha=>?_,?_⟩
    ·rw [show w - (i + 1)=k by omega];congr 1;omega
    ·rw [yb0 (sb0 ha hr)]; exact ex2 _ _ (ex _ _ ha)
    ·rw [va0,<- map_append,<- za1]
theorem xg2 {kvs:[16]} {k:List Int} (h:(valL kvs k).isSome=true):(wb1 kvs k).length + 1<=kvs.length:=by
 unfold wb1
 induction kvs with
 | nil=>cases h
 | cons a r ih =>
  rw [filter_cons];by_cases c:a.1=k
  ·rw [if_neg (by simp [c])];have:=List.length_filter_le (λ kv:List Int × D=>decide (kv.1 ≠ k)) r;rw [length_cons];omega
  ·have h':(valL r k).isSome=true:=by simpa [valL,c] using h
   rw [if_pos (by simp [c]),length_cons,length_cons];have:=ih h';omega
theorem sf3 {u:Addr} {kvs:[16]} {i j:Nat} {c:Pt} {ρ:St3} {μ:Mu} {R:VK3} (hi:getI ρ i=some (.ref u)) (hj:getI ρ j=some (encQ c)) (hu:μ u=some (.dcp kvs)) (hv:(valL kvs (ptk c)).isSome=true) (k:∀ v,R v (updM μ u (.dcp (wb1 kvs (ptk c))))):dm3 true (v3 i) (za0 (v3 j) nil3) ρ μ R:=by
 unfold dm3 za0 v3 nil3;rw [hi];dsimp only;rw [show dOf true (μ u)=some kvs by rw [hu]; rfl];dsimp only;rw [hj];dsimp only;rw [um1];dsimp only;cases e:valL kvs (ptk c) with
 | none=>rw [e] at hv; cases hv
 | some v=>exact k v
theorem ap_d {i j:Nat} {p:Addr} {l:List D} {x:D} {ρ:St3} {μ:Mu} {D':Ends3} (hi:getI ρ i=some (.ref p)) (hj:getI ρ j=some x) (h:μ p=some (.lst l)) (k:l.length < sizeLine /\ D'.nx ρ (updM μ p (.lst (l ++ [x])))):zk0 (mt3 appR (v3 i) (za0 (v3 j) nil3)) D' ρ μ:=by
 unfold zk0 mt3 za0 v3 nil3;rw [hi];dsimp only;rw [h];dsimp only;rw [hj];simp only [appR,h];exact k
theorem sa3 {p:Addr} {ps:List Pt} {μ:Mu} {Q:VK3} (h:μ p=some (.lst (ps.map encQ))) (h64:ps.length < 100000) (k:∀ us:List Pt,us.Perm ps->us.Pairwise le2->∀ r,μ r=none->Q (.ref r) (updM μ r (.lst (us.map encQ)))):sk1 [.ref p] μ Q:=by
 have e:t2s? (ps.map encQ)=some ps:=xo1 ps;unfold sk1;simp only [h,e]
 exact ⟨by have:(100000:Nat) < sizeLine:=by decide
           omega,k⟩
theorem ExtB.free {u r:Addr} {μ μ':Mu} (e:ExtB u μ μ') (h:μ' r=none) (n:r ≠ u):μ r=none:=by
 cases q:μ r with
 | none=>rfl
 | some o=>rw [e r o n q] at h; cases h
def ud (U:List Pt):List (List Int × D):=U.map λ c=>(ptk c,.bl true)
theorem vr0 (c:Pt):∀ U:List Pt,(valL (ud U) (ptk c)).isSome=decide (c ∈ U)
 | []=>by simp [valL,ud]
 | d :: U=>by
  have ih:=vr0 c U;by_cases e:d=c
  ·subst e; simp [valL,ud]
  ·have e':¬ ptk d=ptk c:=λ z=>e (tj0 z);have e2:¬ c=d:=λ z=>e z.symm;simp only [valL,ud,map_cons,find?_cons,e',decide_false,mem_cons,e2,false_or] at ih ⊢;exact ih
theorem yf1 (c:Pt) (U:List Pt):wb1 (ud U) (ptk c)=ud (U.filter λ d=>decide (d ≠ c)):=by
 unfold wb1 ud;rw [List.filter_map];congr 1;refine List.filter_congr λ d _=>?_;show decide (ptk d ≠ ptk c)=_;by_cases e:d=c
 ·subst e; simp
 ·rw [decide_eq_true e];exact decide_eq_true λ z=>e (tj0 z)
def Sd (fs:[16]) (ts:List T3):Prop:=∀ s,(valL fs (tk3 s)).isSome=decide (s ∈ ts)
theorem tr1 {fs:[16]} {ts:List T3} (h:Sd fs ts) (c e:Pt):e ∈ nbs fs c ↔ nxt (· ∈ ts) c e:=by
 unfold nbs nxt;rw [mem_map];constructor
 ·rintro ⟨p,hp,rfl⟩;obtain ⟨h1,h2⟩:=List.mem_filter.mp hp;rw [h p.2] at h2;exact ⟨p.2,h1,λ z=>by rw [decide_eq_true z] at h2; cases h2⟩
 ·rintro ⟨s,h1,h2⟩;exact ⟨(e,s),List.mem_filter.mpr ⟨h1,by rw [h s,decide_eq_false h2]; rfl⟩,rfl⟩
def spTc:Sp3:=λ ds μ Q=>∃ (c:Pt) (d u:Addr) (fs:[16]) (ts:List T3) (U:List Pt),ds=[encQ c,.ref d,.ref u] /\ μ d=some (.dcp fs) /\ Sd fs ts /\ μ u=some (.dcp (ud U)) /\ d ≠ u /\ c ∈ U /\ U.length<=2600 ∧
 ∀ r (ps us U':List Pt) n μ',ExtB u μ μ'->μ r=none->r ≠ u->μ' r=some (.lst (us.map encQ))->μ' u=some (.dcp (ud U'))->Fl (· ∈ ts) U c ps n->ps.length<=n->us.Perm ps->us.Pairwise le2->(∀ e,e ∈ U' ↔ e ∈ U /\ e ∉ ps)->U'.length<=U.length->Q (.ref r) μ'
structure Wt (μ μ':Mu) (u tk:Addr) (B:T3->Prop) (U U':List Pt) (c:Pt) (ps:List Pt) (n:Nat):Prop where
 eb:ExtB u μ μ'
 un:μ' u=some (.dcp (ud U'))
 pl:μ' tk=some (.lst (ps.map encQ))
 le:ps.length + U'.length<=U.length
 fl:Fl B U c ps n
 mm:∀ e,e ∈ U' ↔ e ∈ U /\ e ∉ ps
theorem yw1 {U:List Pt} {y:Pt} (h:y ∈ U):(U.filter λ d=>decide (d ≠ y)).length + 1<=U.length:=by
 have:=xg2 (kvs:=ud U) (k:=ptk y) (by rw [vr0,decide_eq_true h]);rw [yf1] at this;simpa [ud] using this
theorem wd3 (ds:List D) (μ:Mu) (Q:VK3) (h:spTc ds μ Q):sy2 spNb { nx:=λ _ μ'=>Q .non μ',rt:=Q } (ye0 tx2 ds) μ:=by
 obtain ⟨c,d,u,fs,ts,U,rfl,hd,hS,hu,ne,hc,hl,q⟩:=h;have hz:(1000000:Nat) < sizeLine:=by decide
 refine sf3 (i:=2) (j:=0) (c:=c) (ρ:=[some (encQ c),some (.ref d),some (.ref u),none,none,none,none]) rfl rfl hu (by rw [vr0,decide_eq_true hc]) λ _=>?_;have dl:=yw1 hc;rw [yf1];refine ⟨(show 1<=sizeLine by decide),λ tk htk=>?_⟩;have ntu:tk ≠ u:=λ z=>by subst z; rw [va0] at htk; cases htk
 have htf:μ tk=none:=by rw [yb0 ntu] at htk; exact htk
 have ndt:d ≠ tk:=sb0 hd htf;refine ⟨λ m ρ μ'=>∃ (n:Nat) (ps U':List Pt) (o5 o6:Option D),m=U'.length + (ps.length - n) /\ n<=ps.length /\ ρ=[some (encQ c),some (.ref d),some (.ref u),some (.ref tk),some (.int n),o5,o6] /\ Wt μ μ' u tk (· ∈ ts) U U' c ps n,⟨_,0,[c],U.filter (λ d=>decide (d ≠ c)),none,none,rfl,Nat.zero_le _,rfl,⟨ExtB.upd.updn htf,?_,va0,by rw [length_singleton]; omega,Fl.one hc,λ e=>?_⟩⟩,?_⟩
 ·rw [yb0 (Ne.symm ntu),va0]
 ·rw [mem_filter,decide_eq_true_eq,mem_singleton]
 ·rintro m ρ μ' ⟨n,ps,U',o5,o6,rfl,hn,rfl,W⟩;have hle:=W.le
  conv=>whnf
  rw [W.pl];show if decide ((n:Int) < ((ps.map encQ).length:Int))=true then _ else _;by_cases cn:n < ps.length
  ·rw [if_pos (decide_eq_true (by rw [length_map]; omega))];refine ⟨λ ρ1 μ1=>∃ (ps1 U1:List Pt) (o5 o6:Option D),n + 1<=ps1.length /\ U1.length + ps1.length<=U'.length + ps.length /\ ρ1=[some (encQ c),some (.ref d),some (.ref u),some (.ref tk),some (.int ((n:Int) + 1)),o5,o6] /\ Wt μ μ1 u tk (· ∈ ts) U U1 c ps1 (n + 1),?_,?_⟩
   ·rintro ρ1 μ1 ⟨ps1,U1,o5',o6',hn1,hl1,rfl,W1⟩;exact ⟨U1.length + (ps1.length - (n + 1)),by omega,n + 1,ps1,U1,o5',o6',rfl,hn1,rfl,W1⟩
   ·have ea:atI (ps.map encQ) (n:Int)=some (encQ ps[n]):=by
      unfold atI ixN;rw [if_pos [1],if_pos (by rw [length_map]; omega),Int.toNat_natCast];simp [cn]
    refine yq0 W.pl ea ?_;have hd':=W.eb d _ ne hd;refine ⟨_,d,fs,rfl,hd',λ r μ1 ex1 hr er=>?_⟩;have nru:r ≠ u:=(sb0 W.un hr).symm;have nrt:r ≠ tk:=(sb0 W.pl hr).symm
    conv=>whnf
    rw [er];refine tg0 (λ l ρ μ2=>∃ (js qs ps1 U1:List Pt) (o6:Option D),l=qs.map encQ /\ js ++ qs=nbs fs ps[n] /\ (∀ e ∈ js,e ∈ U->e ∈ ps1) /\ (∃ h:n < ps1.length,ps1[n]=ps[n]) /\ U1.length + ps1.length<=U'.length + ps.length /\ ρ=[some (encQ c),some (.ref d),some (.ref u),some (.ref tk),some (.int n),some (encQ ps[n]),o6] /\ Wt μ μ2 u tk (· ∈ ts) U U1 c ps1 n /\ μ2 r=some (.lst ((nbs fs ps[n]).map encQ))) ?_ ?_ ?_ ?_
    ·exact ⟨[],_,ps,U',_,rfl,rfl,(λ e h=>nomatch h),⟨cn,rfl⟩,Nat.le_refl _,rfl,⟨W.eb.trans (Ext.b u ex1),ex1 _ _ W.un,ex1 _ _ W.pl,W.le,W.fl,W.mm⟩,er⟩
    ·rintro l ρ μ2 ⟨_,_,_,_,_,_,_,_,_,_,_,_,h⟩;exact h
    ·rintro ρ μ2 ⟨js,qs,ps1,U1,o6',e,ej,hj,⟨h1,e1⟩,h2,rfl,W1,_⟩;cases qs with
     | cons _ _=>cases e
     | nil =>
     rw [append_nil] at ej;exact ⟨ps1,U1,_,o6',h1,h2,rfl,⟨W1.eb,W1.un,W1.pl,W1.le,W1.fl.next h1 λ e hx he=>hj e (by rw [ej]; exact (tr1 hS _ _).mpr (by rw [<- e1]; exact hx)) he,W1.mm⟩⟩
    ·rintro GG hG x rest ρ μ2 ⟨js,qs,ps1,U1,o6',e,ej,hj,⟨h1,e1⟩,h2,rfl,W1,er1⟩;cases qs with
     | nil=>cases e
     | cons y qs =>
      rw [map_cons] at e;injection e with e1' e2'
      subst e1' e2';subst hG;have l1:=W1.le;have hyn:nxt (· ∈ ts) ps1[n] y:=by rw [e1]; exact (tr1 hS _ _).mp (by rw [<- ej]; simp)
      have ej':(js ++ [y]) ++ qs=nbs fs ps[n]:=by rw [<- ej]; simp
      conv=>whnf
      rw [W1.un];show if (valL (ud U1) (ptk y)).isSome=true then _ else _;rw [vr0];by_cases cv:y ∈ U1
      ·rw [if_pos (decide_eq_true cv)];have dl1:=yw1 cv;have hyu:=(W1.mm y).mp cv;refine sf3 (i:=2) (j:=6) (c:=y) (ρ:=[some (encQ c),some (.ref d),some (.ref u),some (.ref tk),some (.int n),some (encQ ps[n]),some (encQ y)]) rfl rfl W1.un (by rw [vr0,decide_eq_true cv]) λ _=>?_;rw [yf1];have pl1:updM μ2 u (.dcp (ud (U1.filter λ d=>decide (d ≠ y)))) tk=some (.lst (ps1.map encQ)):=by rw [yb0 ntu]; exact W1.pl
       refine ap_d (i:=3) (j:=6) (x:=encQ y) (ρ:=[some (encQ c),some (.ref d),some (.ref u),some (.ref tk),some (.int n),some (encQ ps[n]),some (encQ y)]) rfl rfl pl1 ⟨by rw [length_map]; omega,js ++ [y],qs,ps1 ++ [y],U1.filter (λ d=>decide (d ≠ y)),_,rfl,ej',λ e he heU=>?_,⟨by rw [length_append]; omega,by rw [List.getElem_append_left h1]; exact e1⟩,by rw [length_append,length_singleton]; omega,rfl,⟨?_,?_,?_,?_,W1.fl.add (Nat.le_of_lt h1) (getElem_mem h1) hyn hyu.1 hyu.2,λ e=>?_⟩,?_⟩
       ·rcases List.mem_append.mp he with he | he
        ·exact mem_append_left _ (hj e he heU)
        ·exact mem_append_right _ he
       ·exact λ a o na ha=>by rw [yb0 (sb0 ha htf),yb0 na]; exact W1.eb a o na ha
       ·rw [yb0 (Ne.symm ntu),va0]
       ·rw [va0,map_append]; rfl
       ·rw [length_append,length_singleton]; omega
       ·rw [mem_filter,decide_eq_true_eq,W1.mm,mem_append,mem_singleton];exact ⟨λ ⟨⟨h1,h2⟩,h3⟩=>⟨h1,λ z=>z.elim h2 h3⟩,λ ⟨h1,h2⟩=>⟨⟨h1,λ z=>h2 (.inl z)⟩,λ z=>h2 (.inr z)⟩⟩
       ·rw [yb0 nrt,yb0 nru]; exact er1
      ·rw [if_neg (by rw [decide_eq_false cv]; decide)];refine ⟨js ++ [y],qs,ps1,U1,_,rfl,ej',λ e he heU=>?_,⟨h1,e1⟩,h2,rfl,W1,er1⟩;rcases List.mem_append.mp he with he | he
       ·exact hj e he heU
       ·rw [List.mem_singleton.mp he] at heU ⊢
        false_or_by_contra
        rename_i z;exact cv ((W1.mm y).mpr ⟨heU,z⟩)
  ·rw [if_neg (λ z=>cn (by have:=of_decide_eq_true z; rw [length_map] at this; omega))];show sk1 [.ref tk] μ' Q;refine sa3 W.pl [1] λ us a1 a2 r hr=>q r ps us U' n _ (W.eb.trans (Ext.b u (Ext.new hr))) ?_ (sb0 W.un hr).symm va0 ?_ W.fl [1] a1 a2 W.mm [1]
   ·exact W.eb.free hr (sb0 W.un hr).symm
   ·rw [yb0 (sb0 W.un hr)]; exact W.un
theorem grid_mem {x y:Int} {w h:Nat} {c:Pt}:c ∈ grid x y w h ↔ inF x y (x + w) (y + h) c:=by
 unfold grid col inF;rw [mem_flatMap];constructor
 ·rintro ⟨i,hi,hc⟩;obtain ⟨j,hj,rfl⟩:=List.mem_map.mp hc;rw [List.mem_range] at hi hj;dsimp only;omega
 ·rintro ⟨h1,h2,h3,h4⟩;refine ⟨(c.1 - x).toNat,List.mem_range.mpr [1],List.mem_map.mpr ⟨(c.2 - y).toNat,List.mem_range.mpr [1],?_⟩⟩;exact Prod.ext (by dsimp only; omega) (by dsimp only; omega)
theorem zn3 (x y:Int) (h:Nat):(col x y h).Pairwise λ a b=>lt2 a b=true:=by
 unfold col;refine List.pairwise_map.mpr ?_;refine List.pairwise_lt_range.imp λ {a b} lt=>?_;unfold lt2;simp only [Bool.or_eq_true,Bool.and_eq_true,decide_eq_true_eq,beq_iff_eq];exact .inr ⟨trivial,by omega⟩
theorem ve1 (x y:Int) (h:Nat):∀ w:Nat,(grid x y w h).Pairwise λ a b=>lt2 a b=true
 | 0=>List.Pairwise.nil
 | w + 1=>by
  rw [za1,List.pairwise_append];refine ⟨ve1 x y h w,zn3 _ _ _,λ a ha b hb=>?_⟩;have h1:=grid_mem.mp ha;unfold col at hb;obtain ⟨j,_,rfl⟩:=List.mem_map.mp hb;unfold inF at h1;unfold lt2;simp only [Bool.or_eq_true,Bool.and_eq_true,decide_eq_true_eq,beq_iff_eq];omega
theorem zv2 (x y:Int) (w h:Nat):(grid x y w h).Nodup:=by
 unfold List.Nodup;refine (ve1 x y h w).imp λ {a b} l e=>?_;subst e;exact sp0 _ l
theorem tw1:∀ {L acc:[16]},((acc ++ L).map (·.1)).Nodup->L.foldl (λ kvs p=>putL kvs p.1 p.2) acc=acc ++ L
 | [],acc,_=>by rw [append_nil]; rfl
 | p :: L,acc,h=>by
  rw [foldl_cons]
  have e:putL acc p.1 p.2=acc ++ [p]:=by
   unfold putL;rw [if_neg];intro z;obtain ⟨kv,h1,h2⟩:=List.any_eq_true.mp z;have h2:=of_decide_eq_true h2;rw [map_append,nodup_append] at h;exact h.2.2 kv.1 (mem_map_of_mem h1) p.1 [24] h2
  rw [e,tw1 (L:=L) (acc:=acc ++ [p]) (by rw [append_assoc]; exact h),append_assoc];rfl
theorem wm3 {U:List Pt} (h:U.Nodup):dof (U.map λ t=>(ptk t,.bl true))=ud U:=by
 have:=tw1 (L:=ud U) (acc:=[]) (by
  rw [nil_append];unfold ud;rw [map_map];exact List.pairwise_map.mpr (h.imp λ {a b} ne z=>ne (tj0 z)))
 exact this
theorem sh2 (s:T3):∀ ts:List T3,(valL (ts.map λ t=>(tk3 t,D.bl true)) (tk3 s)).isSome=decide (s ∈ ts)
 | []=>by simp [valL]
 | t :: ts=>by
  have ih:=sh2 s ts;by_cases e:t=s
  ·subst e; simp [valL]
  ·have e':¬ tk3 t=tk3 s:=λ z=>e (tn1 z);have e2:¬ s=t:=λ z=>e z.symm;simp only [valL,map_cons,find?_cons,e',decide_false,mem_cons,e2,false_or] at ih ⊢;exact ih
theorem vm3 {ts:List T3} (h:ts.Nodup):Sd (dof (ts.map λ t=>(tk3 t,.bl true))) ts:=λ s=>by
 have:dof (ts.map λ t=>(tk3 t,D.bl true))=ts.map λ t=>(tk3 t,D.bl true):=tw1 (acc:=[]) (by
  rw [nil_append,map_map];exact List.pairwise_map.mpr (h.imp λ {a b} ne z=>ne (tn1 z)))
 rw [this];exact sh2 s ts
def spCz:Sp3:=λ ds μ Q=>∃ x0 y0 x1 y1:Int,ds=[encB x0 y0 x1 y1] /\ (-(2 ^ 64) < x1 - x0 + 2 /\ x1 - x0 + 2 < 2 ^ 64) /\ (x1 - x0 + 2) * (y1 - y0 + 2)<=2500 /\ Q .non μ
theorem yt3 (ds:List D) (μ:Mu) (Q:VK3) (h:spCz ds μ Q):t_q7 { nx:=λ _ μ'=>Q .non μ',rt:=Q } (ye0 N_q7 ds) μ:=by
 obtain ⟨x0,y0,x1,y1,rfl,hb,c,q⟩:=h;refine ⟨.inl (.inl hb),?_⟩;show if decide ((2500:Int) < (x1 - x0 + 2) * (y1 - y0 + 2))=true then _ else _;rw [decide_eq_false [1],if_neg [20]];exact q
theorem zo3 {p:Addr} {l:List D} {d:D} {μ:Mu} {Q:VK3} (h1:μ p=some (.lst l)) (hl:l.length < sizeLine) (k:Q .non (updM μ p (.lst (l ++ [d])))):appR (.ref p) [d] μ Q:=by
 unfold appR;simp only [h1];exact ⟨hl,k⟩
theorem ss1:∀ ts:List T3,yr0 ((ts.map encT).map λ d=>.tup [d,.bl true])=some (ts.map λ t=>(tk3 t,.bl true))
 | []=>rfl
 | t :: ts=>by
  have:=ss1 ts;simp only [map_cons,yr0,this];rfl
theorem xt1:∀ ts:List Pt,yr0 ((ts.map encQ).map λ d=>.tup [d,.bl true])=some (ts.map λ t=>(ptk t,.bl true))
 | []=>rfl
 | t :: ts=>by
  have:=xt1 ts;simp only [map_cons,yr0,this];rfl
theorem zm3 {p:Addr} {l:List D} {ps:[16]} {μ:Mu} {K:VK3} (h:μ p=some (.lst l)) (e:yr0 l=some ps) (hl:ps.length<=3000) (k:∀ r,μ r=none->K (.ref r) (updM μ r (.dcp (dof ps)))):dolR [.ref p] μ K:=by
 have:(3000:Nat) < sizeLine:=by decide
 simp only [dolR,h,e];exact ⟨by omega,k⟩
structure Rl (μ:Mu) (r:Addr) (rs:List (Addr × List Pt)):Prop where
 li:μ r=some (.lst (rs.map λ x=>.ref x.1))
 at':∀ x ∈ rs,μ x.1=some (.lst (x.2.map encQ))
 nd:(rs.map (·.1)).Nodup
 ln:rs.length<=2500
theorem Rl.mono {μ μ':Mu} {r:Addr} {rs:List (Addr × List Pt)} (h:Rl μ r rs) (e:Ext μ μ'):Rl μ' r rs:=⟨e _ _ h.li,λ x hx=>e _ _ (h.at' x hx),h.nd,h.ln⟩
def BxS (ts:List T3) (x0 y0 x1 y1:Int) (w h:Nat):Prop:=Bx ts x0 y0 x1 y1 /\ x1 - x0 + 2=w /\ y1 - y0 + 2=h /\ (-(2 ^ 61)<=x0 /\ x0<=2 ^ 61 /\ -(2 ^ 61)<=y0 /\ y0<=2 ^ 61) /\ 1 < w /\ 1 < h /\ w < 2 ^ 61 /\ w * h<=2500
theorem un3 {ts:List T3} {x0 y0 x1 y1:Int} {w h:Nat} (b:BxS ts x0 y0 x1 y1 w h):Fr (· ∈ ts) (x0 - 1) (y0 - 1) (x0 - 1 + w) (y0 - 1 + h):=by
 obtain ⟨bx,ew,eh,_⟩:=b;refine ⟨λ x y hs=>?_,λ x y hs=>?_⟩
 ·have h1:=bx.l0 _ hs; have h2:=bx.m0 _ hs; have h3:=bx.l1 _ hs; have h4:=bx.m1 _ hs;unfold gx at h3;unfold gy at h4;dsimp only at h1 h2 h3 h4;omega
 ·have h1:=bx.l0 _ hs; have h2:=bx.m0 _ hs; have h3:=bx.l1 _ hs; have h4:=bx.m1 _ hs;unfold gx at h3;unfold gy at h4;dsimp only at h1 h2 h3 h4;omega
def spRo:Sp3:=λ ds μ Q=>∃ ts:List T3,ds=[.tup (ts.map encT)] /\ Pc ts /\ (ts=[]->∀ r,μ r=none->Q (.ref r) (updM μ r (.lst []))) /\ (ts ≠ []->∃ x0 y0 x1 y1 w h,BxS ts x0 y0 x1 y1 w h /\ ∀ r rs μ',Ext μ μ'->μ r=none->Rl μ' r rs->(∀ x ∈ rs,μ x.1=none /\ x.1 ≠ r)->IsRo (· ∈ ts) (x0 - 1,y0 - 1) (rs.map (·.2))->Q (.ref r) μ')
theorem ud3 (ds:List D) (μ:Mu) (Q:VK3) (h:spRo ds μ Q):yz2 spCr vg1 spCz xb2 spTc { nx:=λ _ μ'=>Q .non μ',rt:=Q } (ye0 xy2 ds) μ:=by
 obtain ⟨ts,rfl,hP,qe,qn⟩:=h;have hz:(1000000:Nat) < sizeLine:=by decide
 refine ⟨ts,rfl,hP,?_⟩;refine ⟨ts,rfl,hP.2.1,hP.2.2,λ c=>⟨Nat.zero_le _,qe c⟩,λ hn x0 y0 x1 y1 μ1 bx' ex1=>?_⟩;obtain ⟨u0,v0,u1,v1,w,h,bs,q⟩:=qn hn;have F:=un3 bs;obtain ⟨bx,ew,eh,b,hw,hh,w6,c5⟩:=bs;obtain ⟨rfl,rfl,rfl,rfl⟩:=bx.one bx';show vk0 spCr vg1 spCz xb2 spTc _ [some [25],some (encB u0 v0 u1 v1),none,none,none,none] μ1;have em:(u1 - u0 + 2) * (v1 - v0 + 2)=((w * h:Nat):Int):=by rw [ew,eh]; push_cast; rfl
 refine ⟨u0,v0,u1,v1,rfl,⟨by omega,by omega⟩,by rw [em]; omega,?_⟩;have hw0:0 < w:=by omega
 have hh0:0 < h:=by omega
 intro r2 hr2;refine wj0 (rest:=[]) (λ d=>.tup [d,.bl true]) hr2 (zl hP.2.2) (λ _ _=>trivial) (λ x hx μ' R ex kk=>⟨z2,kk μ' (Ext.refl _)⟩) λ μ2 ex2 e2=>?_;dsimp only [nil3];have tl:=hP.2.2;refine zm3 e2 (ss1 ts) (by rw [length_map]; omega) λ d hd=>?_;have hS:=vm3 (xh3 hP);have hd3:updM μ2 d (.dcp (dof (ts.map λ t=>(tk3 t,.bl true)))) d=some (.dcp (dof (ts.map λ t=>(tk3 t,.bl true)))):=va0;have ex3:Ext μ2 (updM μ2 d (.dcp (dof (ts.map λ t=>(tk3 t,.bl true))))):=Ext.new hd;generalize updM μ2 d (.dcp (dof (ts.map λ t=>(tk3 t,.bl true))))=μ3 at hd3 ex3;generalize dof (ts.map λ t=>(tk3 t,.bl true))=fs at hd3 hS;have E3:Ext μ μ3:=ex1.trans (ex2.trans ex3);have gl:=vj1 (u0 - 1) (v0 - 1) w h;have hG:∀ c,c ∈ grid (u0 - 1) (v0 - 1) w h ↔ inF (u0 - 1) (v0 - 1) (u0 - 1 + w) (v0 - 1 + h) c:=λ c=>grid_mem;have uG:=ve1 (u0 - 1) (v0 - 1) h w;have nG:=zv2 (u0 - 1) (v0 - 1) w h;have hx:u0 - 1 < u0 - 1 + (w:Int):=by omega
 have hy:v0 - 1 < v0 - 1 + (h:Int):=by omega
 have g1:=xn1 (x:=u0 - 1) (y:=v0 - 1) hw0 hh0;generalize eG:grid (u0 - 1) (v0 - 1) w h=G at gl hG uG nG g1;refine ⟨u0,v0,u1,v1,w,h,rfl,ew,eh,c5,hw0,hh0,b,λ r4 μ4 ex4 hr4 e4=>?_⟩;rw [eG] at e4
 conv=>whnf
 rw [e4];intro r5 hr5;refine wj0 (rest:=[]) (λ d=>.tup [d,.bl true]) hr5 (by rw [length_map,gl]; omega) (λ _ e=>e _ _ e4) (λ x hx μ' R ex kk=>⟨z2,kk μ' (Ext.refl _)⟩) λ μ5 ex5 e5=>?_;dsimp only [nil3];refine zm3 e5 (xt1 _) (by rw [length_map,gl]; omega) λ u hu=>?_;rw [wm3 nG];have hu6:updM μ5 u (.dcp (ud G)) u=some (.dcp (ud G)):=va0;have ex6:Ext μ5 (updM μ5 u (.dcp (ud G))):=Ext.new hu;generalize updM μ5 u (.dcp (ud G))=μ6 at hu6 ex6;have E6:Ext μ3 μ6:=ex4.trans (ex5.trans ex6);have hd6:=E6 _ _ hd3;have u3:μ3 u=none:=(ex4.trans ex5).free hu;have ndu:d ≠ u:=sb0 hd3 u3;refine ⟨z2,(u0 - 1,v0 - 1),d,u,fs,ts,G,rfl,hd6,hS,hu6,ndu,g1,by omega,λ r7 ps us U7 n7' μ7 eb7 hr7 n7 e7 u7 fl7 nn7 _ _ mm7 le7=>?_⟩;have R7:=Rm.first F hx hy hG fl7 nn7 mm7;refine ⟨Nat.zero_le _,λ rl hrl=>?_⟩;have nlu:rl ≠ u:=(sb0 u7 hrl).symm
 have E7:Ext μ3 (updM μ7 rl (.lst [])):=λ a o ha=>by
  have:a ≠ u:=sb0 ha u3;have z:=eb7 a o this (E6 a o ha);rw [yb0 (sb0 z hrl)]; exact z
 have l8:updM μ7 rl (.lst []) rl=some (.lst []):=va0;have u8:updM μ7 rl (.lst []) u=some (.dcp (ud U7)):=by rw [yb0 (Ne.symm nlu)]; exact u7
 have rl3:μ3 rl=none:=by
  cases z:μ3 rl with
  | none=>rfl
  | some o=>have:=eb7 rl o nlu (E6 _ _ z); rw [hrl] at this; cases this
 generalize updM μ7 rl (.lst [])=μ8 at E7 l8 u8;refine ⟨u0,v0,u1,v1,w,h,rfl,ew,eh,c5,hw0,hh0,b,λ r9 μ9 ex9 hr9 e9=>?_⟩;rw [eG] at e9;have n9u:r9 ≠ u:=(sb0 u8 hr9).symm;have n9l:r9 ≠ rl:=(sb0 l8 hr9).symm
 conv=>whnf
 rw [e9];refine tg0 (λ l ρ μ'=>∃ (dn qs U:List Pt) (rs:List (Addr × List Pt)) (o:Option D),l=qs.map encQ /\ dn ++ qs=G /\ ρ=[some [25],some (encB u0 v0 u1 v1),some (.ref d),some (.ref u),some (.ref rl),o] /\ Ext μ3 μ' /\ μ' u=some (.dcp (ud U)) /\ μ' rl=some (.lst (rs.map λ x=>.ref x.1)) /\ (∀ x ∈ rs,x.1 ≠ u /\ x.1 ≠ rl /\ μ' x.1=some (.lst (x.2.map encQ)) /\ μ x.1=none) /\ (rs.map (·.1)).Nodup /\ rs.length<=dn.length /\ U.length<=2500 /\ Rm (· ∈ ts) G (u0 - 1,v0 - 1) dn (rs.map (·.2)) U /\ μ' r9=some (.lst (G.map encQ))) ?_ ?_ ?_ ?_
 ·exact ⟨[],G,U7,[],_,rfl,rfl,rfl,E7.trans ex9,ex9 _ _ u8,ex9 _ _ l8,(λ _ h=>nomatch h),nodup_nil,Nat.le_refl _,by omega,R7,e9⟩
 ·rintro l ρ μ' ⟨_,_,_,_,_,_,_,_,_,_,_,_,_,_,_,_,z⟩;exact z
 ·rintro ρ μ' ⟨dn,qs,U,rs,o,e,eg,rfl,ex,_,el,ea,nd,ln,_,R,_⟩;cases qs with
  | cons _ _=>cases e
  | nil =>
  rw [append_nil] at eg;subst eg;exact q rl rs μ' (E3.trans ex) (E3.free rl3) ⟨el,λ x hx=>(ea x hx).2.2.1,nd,by omega⟩ (λ x hx=>⟨(ea x hx).2.2.2,(ea x hx).2.1⟩) (R.last F hG)
 ·rintro GG hG x rest ρ μ' ⟨dn,qs,U,rs,o,e,eg,rfl,ex,eu,el,ea,nd,ln,ul,R,e9'⟩;cases qs with
  | nil=>cases e
  | cons y qs =>
   rw [map_cons] at e;injection e with e1 e2
   subst e1 e2;subst hG;have eg':(dn ++ [y]) ++ qs=G:=by rw [<- eg]; simp
   have dl:dn.length + (qs.length + 1)=w * h:=by rw [<- gl,<- eg,length_append,length_cons]
   conv=>whnf
   rw [eu];show if (valL (ud U) (ptk y)).isSome=true then _ else _;rw [vr0];by_cases cv:y ∈ U
   ·rw [if_pos (decide_eq_true cv)]
    conv=>whnf
    rw [el];refine ⟨y,d,u,fs,ts,U,rfl,ex _ _ hd3,hS,eu,ndu,cv,by omega,λ r ps1 us1 U1 n1 μ2 eb hr nr er eu2 fl1 nn1 pm1 so1 mm1 le1=>?_⟩;have el2:=eb rl _ nlu el;have nrl:r ≠ rl:=λ z=>by subst z; rw [el] at hr; cases hr
    dsimp only [nil3];refine zo3 el2 (by rw [length_map]; omega) ?_;refine ⟨dn ++ [y],qs,U1,rs ++ [(r,us1)],_,rfl,eg',rfl,λ a o' ha=>?_,?_,?_,λ z hz'=>?_,?_,?_,by omega,?_,?_⟩
    ·rw [yb0 (sb0 ha rl3)]; exact eb a o' (sb0 ha u3) (ex a o' ha)
    ·rw [yb0 (Ne.symm nlu)]; exact eu2
    ·rw [va0,map_append]; rfl
    ·rcases List.mem_append.mp hz' with hz' | hz'
     ·obtain ⟨z1,z2',z3',z4'⟩:=ea z hz';exact ⟨z1,z2',by rw [yb0 z2']; exact eb _ _ z1 z3',z4'⟩
     ·rw [mem_singleton] at hz';subst hz';exact ⟨nr,nrl,by rw [yb0 nrl]; exact er,(E3.trans ex).free hr⟩
    ·rw [map_append,nodup_append];refine ⟨nd,pairwise_singleton _ _,λ a ha b' hb z=>?_⟩;obtain ⟨x,hx',rfl⟩:=List.mem_map.mp ha;rw [map_cons,map_nil,mem_singleton] at hb;have:=(ea x hx').2.2.1;rw [z,hb,hr] at this;cases this
    ·rw [length_append,length_append,length_singleton,length_singleton]; omega
    ·rw [map_append];exact R.take F hx hy hG uG eg fl1 nn1 pm1 so1 mm1
    ·rw [yb0 n9l]; exact eb _ _ n9u e9'
   ·rw [if_neg (by rw [decide_eq_false cv]; decide)];exact ⟨dn ++ [y],qs,U,rs,_,rfl,eg',rfl,ex,eu,el,ea,nd,by rw [length_append]; omega,ul,R.skip cv,e9'⟩
def mkd (G:List Pt) (M:Pt->Int):List (List Int × D):=G.map λ c=>(ptk c,.int (M c))
theorem xz0 {G:List Pt} {f g:Pt->Int} (h:∀ t ∈ G,f t=g t):mkd G f=mkd G g:=by
 unfold mkd;exact List.map_congr_left λ t ht=>by rw [h t ht]
theorem ud1 {M:Pt->Int} {c:Pt}:∀ {G:List Pt},c ∈ G->valL (mkd G M) (ptk c)=some (.int (M c))
 | x :: r,h=>by
  unfold valL mkd;rw [map_cons,find?_cons];by_cases e:x=c
  ·subst e; simp
  ·have e1:¬ ptk x=ptk c:=λ z=>e (tj0 z);simp only [e1,decide_false];exact ud1 (M:=M) ((List.mem_cons.mp h).resolve_left (Ne.symm e))
theorem zk2 (M:Pt->Int) (c:Pt):∀ G:List Pt,(valL (mkd G M) (ptk c)).isSome=decide (c ∈ G)
 | []=>by simp [valL,mkd]
 | d :: G=>by
  have ih:=zk2 M c G;by_cases e:d=c
  ·subst e; simp [valL,mkd]
  ·have e':¬ ptk d=ptk c:=λ z=>e (tj0 z);have e2:¬ c=d:=λ z=>e z.symm;simp only [valL,mkd,map_cons,find?_cons,e',decide_false,mem_cons,e2,false_or] at ih ⊢;exact ih
theorem xs1 {M:Pt->Int} {c:Pt} {m:Int} {G:List Pt} (h:c ∈ G):putL (mkd G M) (ptk c) (.int m)=mkd G (λ x=>if x=c then m else M x):=by
 unfold putL;rw [if_pos]
 ·unfold mkd;rw [map_map];apply List.map_congr_left;intro x _;show (if ptk x=ptk c then (ptk x,D.int m) else (ptk x,D.int (M x)))=_;by_cases e:x=c
  ·subst e; rw [if_pos rfl]; simp
  ·rw [if_neg (λ z=>e (tj0 z))]; dsimp only; rw [if_neg e]
 ·exact List.any_eq_true.mpr ⟨(ptk c,.int (M c)),List.mem_map.mpr ⟨c,h,rfl⟩,decide_eq_true rfl⟩
theorem ys1 {M:Pt->Int} {c:Pt} {G:List Pt} (h:c ∉ G):putL (mkd G M) (ptk c) (.int (M c))=mkd (G ++ [c]) M:=by
 unfold putL;rw [if_neg]
 ·unfold mkd; rw [map_append]; rfl
 ·intro z;obtain ⟨x,hx,e⟩:=List.any_eq_true.mp z;obtain ⟨y,hy,rfl⟩:=List.mem_map.mp hx;have:=tj0 (of_decide_eq_true e);subst this;exact h hy
theorem wo3 (t:T3):∀ A:List T3,((A.map pT).any λ e=>PyData.eqv e (pT t))=decide (t ∈ A)
 | []=>by simp
 | a :: A=>by
  rw [map_cons,any_cons,wo3 t A,tl3];by_cases h:a=t
  ·subst h; simp
  ·simp [h,Ne.symm h]
theorem wg2 (t:T3):(pT t).depth<=64:=by simp [pT,PyData.depth,PyData.depthAll]
theorem in_T (neg:Bool) (t:T3) (A:List T3) (μ:Mu) (K:VK3):inR neg (encT t) (.tup (A.map encT)) μ K=K (.bl (if neg then !decide (t ∈ A) else decide (t ∈ A))) μ:=by
 show inD neg (encT t) (.tup (A.map encT)) μ K=_;unfold inD;rw [show datM μ (encT t)=some (pT t) from rfl,show datM μ (.tup (A.map encT))=some (.tuple (A.map pT)) from by simp only [datM,dat,wm2]];dsimp only;rw [wo3];exact propext ⟨λ h=>h.2,λ h=>⟨⟨wg2 t,vg2 A⟩,h⟩⟩
theorem dg_k {d:Addr} {G:List Pt} {M:Pt->Int} {c:Pt} {μ:Mu} {Q:VK3} (h:μ d=some (.dcl (mkd G M))) (hc:c ∈ G) (k:Q (.int (M c)) μ):dgR (.ref d) (encQ c) μ Q:=by
 have hv:=ud1 (M:=M) hc;unfold dgR;simp only [um1,h,hv];exact k
theorem zf3 {d:Addr} {G:List Pt} {M:Pt->Int} {c:Pt} {m:Int} {μ:Mu} {D':Ends3} {ρ:St3} {to ti tv:TE3} (h:μ d=some (.dcl (mkd G M))) (hl:G.length < 90000) (hc:c ∈ G) (h0:∀ R,R (.int m) μ->tv ρ μ R) (h1:∀ R,R (.ref d) μ->to ρ μ R) (h2:∀ R,R (encQ c) μ->ti ρ μ R) (k:D'.nx ρ (updM μ d (.dcl (mkd G λ x=>if x=c then m else M x)))):wr0 to ti tv D' ρ μ:=by
 refine h0 _ (h1 _ (h2 _ ?_));simp only [um1,h];refine ⟨by unfold mkd; rw [length_map]; exact hl,?_⟩;rw [xs1 hc];exact k
theorem xe2 (G:List Pt) (M:Pt->Int):((mkd G M).map λ kv=>tupI kv.1)=G.map encQ:=by
 unfold mkd;rw [map_map];rfl
def Sm (ts:List T3):Prop:=∀ s ∈ ts,-2<=s.1 /\ s.1<=17 /\ -2<=s.2.1 /\ s.2.1<=17
theorem uu2 {p:Addr} {l:[16]} {μ:Mu} {Q:VK3} (h:μ p=some (.dcl l)) (k:Q (.int l.length) μ):vz0 [.ref p] μ Q:=by
 simp only [vz0,h];exact k
theorem vv3 {d:Addr} {G:List Pt} {M:Pt->Int} {c:Pt} {μ:Mu} {D':Ends3} {ρ:St3} {to ti tv:TE3} (h:μ d=some (.dcl (mkd G M))) (hl:G.length < 90000) (hc:c ∉ G) (h0:∀ R,R (.int (M c)) μ->tv ρ μ R) (h1:∀ R,R (.ref d) μ->to ρ μ R) (h2:∀ R,R (encQ c) μ->ti ρ μ R) (k:D'.nx ρ (updM μ d (.dcl (mkd (G ++ [c]) M)))):wr0 to ti tv D' ρ μ:=by
 refine h0 _ (h1 _ (h2 _ ?_));simp only [um1,h];refine ⟨by unfold mkd; rw [length_map]; exact hl,?_⟩;rw [ys1 hc];exact k
def dQ (d:D):Pt:=match d with
 | .tup [.int a,.int b]=>(a,b)
 | _=>(0,0)
theorem tn3 {ns:List Int} (h:ns.length < 511):BI ns:=λ l nd hl=>Nat.lt_of_le_of_lt (List.Nodup.length_le_of_subset nd λ x hx=>hl x hx) h
theorem forR {S:Mu->Prop} {g:TG3} {tb:TS3} {D':Ends3} (V:Nat->St3->Mu->Prop) {n:Nat} {ρ:St3} {μ:Mu} (hS:∀ μ,S μ) (h0:V 0 ρ μ) (hn:∀ ρ μ,V n ρ μ->D'.nx ρ μ)
    (hs:∀ i ρ μ,i < n->V i ρ μ->g (.int (i:Int)) ρ μ λ ρ1 μ1=>tb { D' with nx:=V (i + 1),ct:=V (i + 1),bk:=D'.nx } ρ1 μ1):se1 S g tb D' (rngD 0 n) ρ μ:=by
 have main:∀ k i ρ μ,i + k=n->V i ρ μ->se1 S g tb D' (rngD (i:Int) k) ρ μ:=by
  intro k
  induction k with
  | zero =>
   intro i ρ μ e v;have e':i=n:=e;rw [e'] at v;exact ⟨hS μ,hn _ _ v⟩
  | succ k ih =>
   intro i ρ μ e v;rw [xp0];exact ⟨hS μ,V (i + 1),λ ρ' μ' v'=>ih (i + 1) ρ' μ' [1] v',hs i ρ μ [1] v⟩
 exact main n 0 ρ μ (Nat.zero_add n) h0
theorem wp3 {p:Addr} {l:List D} {μ:Mu} {Q:VK3} (h:μ p=some (.lst l)) (k:Q (.tup l) μ):tupR [.ref p] μ Q:=by
 unfold tupR;simp only [h];exact k
def ixr (L:List (List Pt)) (c:Pt):Option Nat:=L.findIdx? λ r=>decide (c ∈ r)
def Dj (L:List (List Pt)):Prop:=∀ (i j:Nat) (r s:List Pt) (c:Pt),L[i]?=some r->L[j]?=some s->c ∈ r->c ∈ s->i=j
theorem vs0 {L:List (List Pt)} {c:Pt} {i:Nat} (h:ixr L c=some i):∃ r,L[i]?=some r /\ c ∈ r:=by
 obtain ⟨hi,h1,_⟩:=List.findIdx?_eq_some_iff_getElem.mp h;exact ⟨L[i],getElem?_eq_getElem hi,of_decide_eq_true h1⟩
theorem yl2 {L:List (List Pt)} {c:Pt} {i:Nat} {r:List Pt} (d:Dj L) (h:L[i]?=some r) (hc:c ∈ r):ixr L c=some i:=by
 cases e:ixr L c with
 | none =>
  have:=List.findIdx?_eq_none_iff.mp e r (mem_of_getElem? h);rw [decide_eq_true hc] at this;cases this
 | some j =>
  obtain ⟨s,hs,hcs⟩:=vs0 e;rw [d j i s r c hs h hcs hc]
theorem IsRo.dj {B:T3->Prop} {o:Pt} {L:List (List Pt)} (h:IsRo B o L):Dj L:=by
 intro i j r s c hi hj hr hs;have mr:=mem_of_getElem? hi;have ms:=mem_of_getElem? hj;have e:r=s:=tr0 sp0 wk2 (h.srt r mr).1 (h.srt s ms).1 λ x=>(((h.mem r mr c hr).2 x).trans ((h.mem s ms c hs).2 x).symm);obtain ⟨li,ei⟩:=List.getElem?_eq_some_iff.mp hi;obtain ⟨lj,ej⟩:=List.getElem?_eq_some_iff.mp hj
 have key:∀ a b (ha:a < L.length) (hb:b < L.length),L[a]=L[b]->¬ a < b:=λ a b ha hb e lt=>by
  have:=List.pairwise_iff_getElem.mp h.asc a b ha hb lt;rw [e] at this;exact sp0 _ this
 have e2:L[i]=L[j]:=by rw [ei,ej,e]
 have h1:=key i j li lj e2;have h2:=key j i lj li e2.symm;omega
theorem IsRo.flat {B:T3->Prop} {o:Pt} {L:List (List Pt)} (h:IsRo B o L):L.flatten.Nodup:=by
 unfold List.Nodup;rw [List.pairwise_flatten];refine ⟨λ r hr=>(h.srt r hr).1.imp λ {a b} l e=>by subst e; exact sp0 _ l,?_⟩;refine List.pairwise_iff_getElem.mpr λ i j hi hj lt x hx y hy e=>?_;subst e;have:=h.dj i j _ _ x (getElem?_eq_getElem hi) (getElem?_eq_getElem hj) hx hy;omega
def pQ (c:Pt):PyData:=.tuple [.int c.1,.int c.2]
theorem sl3 (s t:Pt):PyData.eqv (pQ s) (pQ t)=decide (s=t):=by
 obtain ⟨a,b⟩:=s;obtain ⟨d,e⟩:=t;have q:∀ x y:Int,(x == y)=decide (x=y):=λ x y=>by by_cases h:x=y <;> simp [h]
 simp [pQ,PyData.eqv,PyData.eqvAll,q]
theorem vm2:∀ L:List Pt,dats (L.map encQ)=some (L.map pQ)
 | []=>rfl
 | t :: r=>by simp only [map_cons,dats,encQ,dat,vm2 r,pQ]
theorem ux1:∀ L:List Pt,PyData.depthAll (L.map pQ)<=2
 | []=>by simp [PyData.depthAll]
 | t :: r=>by
  have:=ux1 r;simp only [map_cons,PyData.depthAll,pQ,PyData.depth];omega
theorem vo3 (t:Pt):∀ A:List Pt,((A.map pQ).any λ e=>PyData.eqv e (pQ t))=decide (t ∈ A)
 | []=>by simp
 | a :: A=>by
  rw [map_cons,any_cons,vo3 t A,sl3];by_cases h:a=t
  ·subst h; simp
  ·simp [h,Ne.symm h]
theorem in_Q {neg:Bool} {t:Pt} {A:List Pt} {p:Addr} {μ:Mu} (h:μ p=some (.lst (A.map encQ))) (K:VK3):inR neg (encQ t) (.ref p) μ K=K (.bl (if neg then !decide (t ∈ A) else decide (t ∈ A))) μ:=by
 show inD neg (encQ t) (.ref p) μ K=_;unfold inD;rw [show datM μ (encQ t)=some (pQ t) from rfl,show datM μ (.ref p)=some (.list (A.map pQ)) from by simp only [datM,h,vm2]];dsimp only;rw [vo3];have d1:(pQ t).depth<=64:=by simp [pQ,PyData.depth,PyData.depthAll]
 have d2:(PyData.list (A.map pQ)).depth<=64:=by
  have:=ux1 A;simp only [PyData.depth];omega
 exact propext ⟨λ h=>h.2,λ h=>⟨⟨d1,d2⟩,h⟩⟩
def enL (ts:List T3):List Pt:=ts.flatMap λ s=>[end0 s,end1 s]
theorem enL_mem {ts:List T3} {p:Pt}:p ∈ enL ts ↔ ∃ s ∈ ts,p=end0 s \/ p=end1 s:=by
 unfold enL;rw [mem_flatMap];refine exists_congr λ s=>and_congr_right λ _=>?_;rw [mem_cons,mem_singleton]
def spEn:Sp3:=λ ds μ Q=>∃ ts:List T3,ds=[.tup (ts.map encT)] /\ ts.length < 300 /\ ∀ d E μ',Ext μ μ'->μ d=none->E.Nodup->(∀ p,p ∈ E ↔ p ∈ enL ts)->μ' d=some (.dcl (mkd E λ p=>((enL ts).count p:Nat)))->Q (.ref d) μ'
theorem gd_k {d:Addr} {E:List Pt} {M:Pt->Int} {c:Pt} {ρ:St3} {μ:Mu} {Q:VK3} (h1:getI ρ 1=some (.ref d)) (h5:getI ρ 5=some (encQ c)) (h:μ d=some (.dcl (mkd E M))) (h0:c ∉ E->M c=0) (k:Q (.int (M c)) μ):gdf3 (v3 1) (za0 (v3 5) (za0 (c3 (.int 0)) nil3)) ρ μ Q:=by
 unfold gdf3 za0 v3 c3 nil3;rw [h1];dsimp only;rw [h];dsimp only;rw [h5];dsimp only;rw [um1];dsimp only;by_cases e:c ∈ E
 ·rw [ud1 e]; exact k
 ·have:valL (mkd E M) (ptk c)=none:=by
    have:=zk2 M c E;rw [decide_eq_false e] at this;cases q:valL (mkd E M) (ptk c) with
    | none=>rfl
    | some v=>rw [q] at this; cases this
  rw [this];rw [h0 e] at k;exact k
theorem wv3 {d:Addr} {E:List Pt} {M:Pt->Int} {c:Pt} {m:Int} {μ:Mu} {D':Ends3} {ρ:St3} {to ti tv:TE3} (h:μ d=some (.dcl (mkd E M))) (hl:E.length < 90000) (h0:∀ R,R (.int m) μ->tv ρ μ R) (h1:∀ R,R (.ref d) μ->to ρ μ R) (h2:∀ R,R (encQ c) μ->ti ρ μ R)
    (k:∀ E',(E'=E /\ c ∈ E \/ E'=E ++ [c] /\ c ∉ E)->D'.nx ρ (updM μ d (.dcl (mkd E' λ x=>if x=c then m else M x)))):wr0 to ti tv D' ρ μ:=by
 refine h0 _ (h1 _ (h2 _ ?_));simp only [um1,h];refine ⟨by unfold mkd; rw [length_map]; exact hl,?_⟩;by_cases e:c ∈ E
 ·rw [xs1 e];exact k E (.inl ⟨rfl,e⟩)
 ·have q:mkd E M=mkd E λ x=>if x=c then m else M x:=xz0 λ t ht=>by
    have z:¬ t=c:=λ z=>e (z ▸ ht);rw [if_neg z]
  have q2:=ys1 (M:=λ x=>if x=c then m else M x) e;rw [if_pos rfl] at q2;rw [q,q2];exact k _ (.inr ⟨rfl,e⟩)
theorem zu3 (ds:List D) (μ:Mu) (Q:VK3) (h:spEn ds μ Q):t_q0 { nx:=λ _ μ'=>Q .non μ',rt:=Q } (ye0 N_q0 ds) μ:=by
 obtain ⟨ts,rfl,tl,q⟩:=h;intro d hd;show (for3 (is3 (v3 0)) (ya1 3 (zf0 (gn3 2) (zf0 (gn3 3) (zf0 (gn3 4) ua1)))) _) _ [some [25],some (.ref d),none,none,none,none] (updM μ d (.dcl []));refine tg0 (λ l ρ μ'=>∃ (js ks:List T3) (E:List Pt) (o2 o3' o4 o5:Option D),l=ks.map encT /\ js ++ ks=ts /\ ρ=[some [25],some (.ref d),o2,o3',o4,o5] /\ Ext μ μ' /\ E.Nodup /\ (∀ p,p ∈ E ↔ p ∈ enL js) /\ E.length<=2 * js.length /\ μ' d=some (.dcl (mkd E λ p=>((enL js).count p:Nat)))) ?_ (λ _ _ _ _=>trivial) ?_ ?_
 ·exact ⟨[],ts,[],none,none,none,none,rfl,rfl,rfl,Ext.new hd,nodup_nil,λ p=>Iff.rfl,Nat.zero_le _,va0⟩
 ·rintro ρ μ' ⟨js,ks,E,o2,o3',o4,o5,e,ej,rfl,ex,nd,mm,_,ed⟩;cases ks with
  | cons _ _=>cases e
  | nil =>
  rw [append_nil] at ej;subst ej;exact q d E μ' ex hd nd mm ed
 ·rintro GG hG x rest ρ μ' ⟨js,ks,E,o2,o3',o4,o5,e,ej,rfl,ex,nd,mm,ln,ed⟩;cases ks with
  | nil=>cases e
  | cons s ks =>
   rw [map_cons] at e;injection e with e1 e2
   subst e1 e2;subst hG;have jl:js.length + (ks.length + 1)=ts.length:=by rw [<- ej,length_append,length_cons]
   refine ⟨rfl,?_⟩;refine ⟨z2,z2,z2,λ p hp=>?_⟩;have np:d ≠ p:=sb0 ed hp
   conv=>whnf
   rw [va0];have er:enL (js ++ [s])=enL js ++ [end0 s,end1 s]:=by unfold enL; rw [List.flatMap_append]; simp
   refine tg0 (λ l ρ μ2=>∃ (as bs E:List Pt) (o5:Option D),l=bs.map encQ /\ as ++ bs=[end0 s,end1 s] /\ ρ=[some [25],some (.ref d),some (.int s.1),some (.int s.2.1),some (.int s.2.2),o5] /\ Ext μ μ2 /\ E.Nodup /\ (∀ p,p ∈ E ↔ p ∈ enL js ++ as) /\ E.length<=2 * js.length + as.length /\ μ2 d=some (.dcl (mkd E λ p=>((enL js ++ as).count p:Nat))) /\ μ2 p=some (.lst ([end0 s,end1 s].map encQ))) ?_ ?_ ?_ ?_
   ·refine ⟨[],[end0 s,end1 s],E,_,rfl,rfl,rfl,λ a o ha=>?_,nd,by simpa using mm,by simpa using ln,?_,va0⟩
    ·have:=ex a o ha;rw [yb0 (sb0 this hp)]; exact this
    ·rw [yb0 np,append_nil]; exact ed
   ·rintro l ρ μ2 ⟨_,_,_,_,_,_,_,_,_,_,_,_,z⟩;exact z
   ·rintro ρ μ2 ⟨as,bs,E2,o5',e,ea,rfl,ex2,nd2,mm2,ln2,ed2,_⟩;cases bs with
    | cons _ _=>cases e
    | nil =>
    rw [append_nil] at ea;subst ea;rw [<- er] at mm2 ed2;refine ⟨js ++ [s],ks,E2,_,_,_,_,rfl,by rw [<- ej]; simp,rfl,ex2,nd2,mm2,?_,ed2⟩;rw [length_append,length_singleton];simp only [length_cons,length_nil] at ln2;omega
   ·rintro GG hG x rest ρ μ2 ⟨as,bs,E2,o5',e,ea,rfl,ex2,nd2,mm2,ln2,ed2,ep⟩;cases bs with
    | nil=>cases e
    | cons c bs =>
     rw [map_cons] at e;injection e with e1 e2
     subst e1 e2;subst hG;have al:as.length + (bs.length + 1)=2:=by have:=congrArg List.length ea; rw [length_append,length_cons] at this; exact this
     refine wv3 (c:=c) (m:=((enL js ++ as).count c:Nat) + 1) ed2 [1] (λ R r=>?_) (λ R r=>r) (λ R r=>r) λ E' hE=>?_
     ·refine gd_k (d:=d) (E:=E2) (c:=c) rfl rfl ed2 (λ z=>?_) r;rw [List.count_eq_zero.mpr (λ h=>z ((mm2 c).mpr h))]; rfl
     ·have ct:(λ x=>if x=c then (((enL js ++ as).count c:Nat):Int) + 1 else ((enL js ++ as).count x:Nat))=λ x=>(((enL js ++ (as ++ [c])).count x:Nat):Int):=by
        funext x;have h:(enL js ++ (as ++ [c])).count x=(enL js ++ as).count x + [c].count x:=by rw [<- append_assoc]; exact List.count_append
        rw [h];by_cases z:x=c
        ·rw [if_pos z,z,List.count_singleton_self]; push_cast; rfl
        ·rw [if_neg z,List.count_singleton,if_neg (by simpa using Ne.symm z),Nat.add_zero]
      rw [ct];refine ⟨as ++ [c],bs,E',_,rfl,by rw [<- ea]; simp,rfl,λ a o ha=>?_,?_,λ p=>?_,?_,va0,?_⟩
      ·rw [yb0 (sb0 ha hd)]; exact ex2 a o ha
      ·rcases hE with ⟨rfl,_⟩ | ⟨rfl,nc⟩
       ·exact nd2
       ·rw [nodup_append];exact ⟨nd2,pairwise_singleton _ _,λ a ha b hb e=>nc (by rw [List.mem_singleton.mp hb] at e; exact e ▸ ha)⟩
      ·rw [<- append_assoc,mem_append,<- mm2 p,mem_singleton];rcases hE with ⟨rfl,hc⟩ | ⟨rfl,_⟩
       ·exact ⟨.inl,λ z=>z.elim id λ e=>e ▸ hc⟩
       ·rw [mem_append,mem_singleton]
      ·rw [length_append,length_singleton];rcases hE with ⟨rfl,_⟩ | ⟨rfl,_⟩
       ·omega
       ·rw [length_append,length_singleton]; omega
      ·rw [yb0 (Ne.symm np)]; exact ep
theorem ua3 {p:Addr} {E:List Pt} {M:Pt->Int} {μ:Mu} {Q:VK3} (h:μ p=some (.dcl (mkd E M))) (k:∀ us:List Pt,us.Perm E->us.Pairwise le2->∀ r,μ r=none->Q (.ref r) (updM μ r (.lst (us.map encQ)))):yo1 [.ref p] μ Q:=by
 simp only [yo1,h];refine ⟨E,?_,k⟩;unfold mkd;rw [map_map];rfl
def ixU (us:List Pt):Pt->Int:=λ p=>(us.idxOf p:Nat)
theorem su2 {us:List Pt}:∀ a ∈ us,∀ b ∈ us,ixU us a=ixU us b->a=b:=λ a ha b hb e=>by
 have e':us.idxOf a=us.idxOf b:=by unfold ixU at e; omega
 have h1:=List.getElem_idxOf (List.idxOf_lt_length_of_mem ha);have h2:=List.getElem_idxOf (List.idxOf_lt_length_of_mem hb);rw [<- h1,<- h2];congr 1
def spPi:Sp3:=λ ds μ Q=>∃ ts:List T3,ds=[.tup (ts.map encT)] /\ ts.length < 300 /\ (∀ s ∈ ts,wy s) /\ (∀ E:List Pt,E.Nodup->(∀ p ∈ E,p ∈ enL ts)->E.length < 511) /\ ∀ n us μ',Ext μ μ'->us.Nodup->(∀ p,p ∈ us ↔ p ∈ enL ts)->n=Nc (Pn (· ∈ ts)) us->Q (.int (n:Nat)) μ'
abbrev lowB:TS3:=[28]
theorem ze2 {us:List Pt} {M:Pt->Int} {s:T3} {d:Addr} {μ:Mu} {o0 o2 o3' o7:Option D} {D':Ends3} (hl:us.length < 90000) (h0:end0 s ∈ us) (h1:end1 s ∈ us) (hd:μ d=some (.dcl (mkd us M)))
    (k:D'.nx [o0,some (.ref d),o2,o3',some (.int s.1),some (.int s.2.1),some (.int s.2.2),some (.int (min (M (end1 s)) (M (end0 s))))] (updM μ d (.dcl (mkd us (low M (end0 s) (end1 s)))))) :
    lowB D' [o0,some (.ref d),o2,o3',some (.int s.1),some (.int s.2.1),some (.int s.2.2),o7] μ:=by
 refine ⟨z2,?_⟩;show dgR (.ref d) (encQ (end0 s)) μ (λ x μ1=>_);refine dg_k hd h0 ⟨z2,?_⟩;show dgR (.ref d) (encQ (end1 s)) μ (λ x μ1=>_);refine dg_k hd h1 ?_;have em:(if M (end1 s) < M (end0 s) then M (end1 s) else M (end0 s))=min (M (end1 s)) (M (end0 s)):=by split <;> omega
 have el:mkd us (λ x=>if x=end1 s then min (M (end1 s)) (M (end0 s)) else (λ x=>if x=end0 s then min (M (end1 s)) (M (end0 s)) else M x) x)=mkd us (low M (end0 s) (end1 s)):=xz0 λ x _=>by
  unfold low;by_cases q:x=end1 s
  ·rw [if_pos q,if_pos (.inr q)]
  ·rw [if_neg q];by_cases q2:x=end0 s
   ·rw [if_pos (.inl q2)]; exact if_pos q2
   ·rw [if_neg (λ z=>z.elim q2 q)]; exact if_neg q2
 rw [<- em] at k el;refine zf3 (to:=v3 1) (ti:=tup3 (za0 (v3 4) (za0 (v3 5) nil3))) (tv:=v3 7) (c:=end0 s) (m:=if M (end1 s) < M (end0 s) then M (end1 s) else M (end0 s)) (ρ:=[o0,some (.ref d),o2,o3',some (.int s.1),some (.int s.2.1),some (.int s.2.2),some (.int (if M (end1 s) < M (end0 s) then M (end1 s) else M (end0 s)))]) hd hl h0 (λ R r=>r) (λ R r=>r) (λ R r=>⟨z2,r⟩) ?_;refine zf3 (to:=v3 1) (ti:=tup3 (za0 (o3 subR (o3 addR (v3 4) [12]) (v3 6)) (za0 (o3 addR (v3 5) (v3 6)) nil3))) (tv:=v3 7) (c:=end1 s) (m:=if M (end1 s) < M (end0 s) then M (end1 s) else M (end0 s)) (ρ:=[o0,some (.ref d),o2,o3',some (.int s.1),some (.int s.2.1),some (.int s.2.2),some (.int (if M (end1 s) < M (end0 s) then M (end1 s) else M (end0 s)))]) va0 hl h1 (λ R r=>r) (λ R r=>r) (λ R r=>⟨z2,r⟩) ?_;rw [vi0,el];exact k
theorem zq1 {ts:List T3} {us:List Pt} {d:Addr} {μ0 μ:Mu} {Q:VK3} {o2:Option D} (hw:∀ s ∈ ts,wy s) (nd:us.Nodup) (mm:∀ p,p ∈ us ↔ p ∈ enL ts) (hl:us.length < 511) (hd0:μ0 d=none) (ex:Ext μ0 μ) (hd:μ d=some (.dcl (mkd us (ixU us))))
    (q:∀ n μ',Ext μ0 μ'->n=Nc (Pn (· ∈ ts)) us->Q (.int (n:Nat)) μ'):tf0 spEn { nx:=λ _ μ'=>Q .non μ',rt:=Q } [some [25],some (.ref d),o2,none,none,none,none,none] μ:=by
 have hz:(1000000:Nat) < sizeLine:=by decide
 have hE:∀ s ∈ ts,end0 s ∈ us /\ end1 s ∈ us:=λ s hs=>⟨(mm _).mpr (enL_mem.mpr ⟨s,hs,.inl rfl⟩),(mm _).mpr (enL_mem.mpr ⟨s,hs,.inr rfl⟩)⟩;unfold tf0;dsimp only [seq3,for3,ir3,za0,vc0,v3,getI,nil3];refine uu2 hd ?_;have lm:(mkd us (ixU us)).length=us.length:=length_map _;rw [lm];refine ⟨⟨by omega,by omega⟩,?_⟩;rw [Int.toNat_natCast];refine forR (λ i ρ μ'=>∃ (M:Pt->Int) (o3' o4 o5 o6 o7:Option D),ρ=[some [25],some (.ref d),o2,o3',o4,o5,o6,o7] /\ Ext μ0 μ' /\ μ' d=some (.dcl (mkd us M)) /\ Mk ts us (ixU us) M i) (λ _=>trivial) ⟨_,_,_,_,_,_,rfl,ex,hd,Mk.first⟩ ?_ ?_
 ·rintro ρ μ' ⟨M,o3',o4,o5,o6,o7,rfl,ex',ed,mk⟩;show yi0 spEn { nx:=λ _ μ'=>Q .non μ',rt:=Q } [some [25],some (.ref d),o2,o3',o4,o5,o6,o7] μ'
  conv=>whnf
  rw [ed];intro r3 hr3;rw [xe2];refine wj0 (rest:=[some (.ref d)]) (λ z=>.int (M (dQ z))) hr3 (by rw [length_map]; omega) (λ _ e=>e _ _ ed) ?_ λ μ3 ex3 e3=>?_
  ·intro x hx' μ'' R ex kk;obtain ⟨c',hc',rfl⟩:=List.mem_map.mp hx';exact dg_k (ex _ _ ed) hc' (kk μ'' (Ext.refl _))
  have el:(us.map encQ).map (λ z=>D.int (M (dQ z)))=(us.map M).map D.int:=by
   rw [map_map,map_map]; rfl
  rw [el] at e3;refine ⟨us.map M,e3,tn3 (by rw [length_map]; exact hl),λ ms ndm mmm=>?_⟩;exact q _ μ3 (ex'.trans ex3) (Nc.vals (mk.last hE su2) ndm mmm).symm
 ·rintro i ρ μ' hi ⟨M,o3',o4,o5,o6,o7,rfl,ex',ed,mk⟩;refine tg0 (λ l ρ μ2=>∃ (js ks:List T3) (M':Pt->Int) (o4 o5 o6 o7:Option D),l=ks.map encT /\ js ++ ks=ts /\ ρ=[some [25],some (.ref d),o2,some (.int i),o4,o5,o6,o7] /\ Ext μ0 μ2 /\ μ2 d=some (.dcl (mkd us M')) /\ Ps M M' js /\ (∀ v ∈ us,∃ u ∈ us,Pn (· ∈ ts) v u /\ M' v=ixU us u)) ⟨[],ts,M,_,_,_,_,rfl,rfl,rfl,ex',ed,⟨λ _=>Int.le_refl _,λ _ h=>nomatch h⟩,mk.fr⟩ (λ _ _ _ _=>trivial) ?_ ?_
  ·rintro ρ μ2 ⟨js,ks,M',p4,p5,p6,p7,e,ej,rfl,ex2,ed2,P,fr⟩;cases ks with
   | cons _ _=>cases e
   | nil =>
   rw [append_nil] at ej;subst ej;exact ⟨M',_,_,_,_,_,rfl,ex2,ed2,mk.next P fr⟩
  ·rintro GG hG x rest ρ μ2 ⟨js,ks,M',p4,p5,p6,p7,e,ej,rfl,ex2,ed2,P,fr⟩;cases ks with
   | nil=>cases e
   | cons s ks =>
    rw [map_cons] at e;injection e with e1 e2
    subst e1 e2;subst hG;have hs:s ∈ ts:=by rw [<- ej]; simp
    refine ⟨rfl,?_⟩;refine ze2 (s:=s) [1] (hE s hs).1 (hE s hs).2 ed2 ?_;exact ⟨js ++ [s],ks,_,_,_,_,_,rfl,by rw [<- ej]; simp,rfl,λ a o ha=>by rw [yb0 (sb0 ha hd0)]; exact ex2 a o ha,va0,P.step s,vl3 (hw s hs) hs (hE s hs).1 (hE s hs).2 fr⟩
theorem xu3 (ds:List D) (μ:Mu) (Q:VK3) (h:spPi ds μ Q):t_q2 spEn { nx:=λ _ μ'=>Q .non μ',rt:=Q } (ye0 N_q2 ds) μ:=by
 obtain ⟨ts,rfl,tl,hw,hb,q⟩:=h;have hz:(1000000:Nat) < sizeLine:=by decide
 intro d hd;refine ⟨ts,rfl,tl,λ d1 E μ1 ex1 hd1 nd mm ed1=>?_⟩;have hd2:=ex1 _ _ (va0 (μ:=μ) (a:=d) (o:=.dcl []));have ex2:Ext μ μ1:=(Ext.new hd).trans ex1;dsimp only [nil3];refine ua3 ed1 λ us pm so r hr=>?_;have ndu:us.Nodup:=pm.nodup_iff.mpr nd;have mmu:∀ p,p ∈ us ↔ p ∈ enL ts:=λ p=>pm.mem_iff.trans (mm p);have hl:=hb us ndu λ p hp=>(mmu p).mp hp;have ndr:d ≠ r:=sb0 hd2 hr
 conv=>whnf
 rw [va0];refine tg0 (λ l ρ μ'=>∃ (js ks:List Pt) (o2:Option D),l=ks.map encQ /\ js ++ ks=us /\ ρ=[some [25],some (.ref d),o2,none,none,none,none,none] /\ Ext μ μ' /\ μ' d=some (.dcl (mkd js (ixU us))) /\ μ' r=some (.lst (us.map encQ))) ?_ ?_ ?_ ?_
 ·exact ⟨[],us,_,rfl,rfl,rfl,ex2.trans (Ext.new hr),by rw [yb0 ndr]; exact hd2,va0⟩
 ·rintro l ρ μ' ⟨_,_,_,_,_,_,_,_,z⟩;exact z
 ·rintro ρ μ' ⟨js,ks,o2,e,ej,rfl,ex,ed,_⟩;cases ks with
  | cons _ _=>cases e
  | nil =>
  rw [append_nil] at ej;subst ej;exact zq1 hw ndu mmu hl hd ex ed λ n μ' ex' en=>q n js μ' ex' ndu mmu en
 ·rintro GG hG x rest ρ μ' ⟨js,ks,o2,e,ej,rfl,ex,ed,er⟩;cases ks with
  | nil=>cases e
  | cons c ks =>
   rw [map_cons] at e;injection e with e1 e2
   subst e1 e2;subst hG
   have nc:c ∉ js:=λ z=>by
    rw [<- ej,nodup_append] at ndu;exact ndu.2.2 c z c (.head _) rfl
   have jl:js.length + (ks.length + 1)=us.length:=by rw [<- ej,length_append,length_cons]
   refine vv3 (c:=c) ed [1] nc (λ R r'=>?_) (λ R r'=>r') (λ R r'=>r') ?_
   ·show vz0 [.ref d] μ' R;refine uu2 ed ?_
    have:(((mkd js (ixU us)).length:Nat):Int)=ixU us c:=by
     unfold mkd ixU;rw [length_map,<- ej,List.idxOf_append,if_neg nc,List.idxOf_cons_self,Nat.zero_add]
    rw [this];exact r'
   ·refine ⟨js ++ [c],ks,_,rfl,by rw [<- ej]; simp,rfl,λ a o ha=>?_,va0,by rw [yb0 (Ne.symm ndr)]; exact er⟩;rw [yb0 (sb0 ha hd)]; exact ex a o ha
def Sq (x y:Int):List T3:=[(x,y,0),(x,y,1),(x,y + 1,0),(x + 1,y,1)]
def spLn:Sp3:=λ ds μ Q=>∃ (p:Addr) (a b:Int),ds=[.ref p,.int 14] /\ μ p=some (.lst [.int a,.int b]) /\ 0<=a /\ ∀ (us:List T3) a' b' μ',Pc us->Sm us->0<=a'->μ' p=some (.lst [.int a',.int b'])->ExtB p μ μ'->Q (.tup (us.map encT)) μ'
def wz (t:T3):Prop:=wy t /\ -2<=t.1 /\ t.1<=17 /\ -2<=t.2.1 /\ t.2.1<=17
structure Wn (μ μ':Mu) (p f:Addr) (fs:List T3) (c:Nat):Prop where
 eb:ExtB p μ μ'
 st:∃ a b:Int,μ' p=some (.lst [.int a,.int b]) /\ 0<=a
 fl:μ' f=some (.lst (fs.map encT))
 nf:f ≠ p
 ff:μ f=none
 wa:∀ t ∈ fs,wz t
 le:fs.length + 4 * c<=224
theorem yu3 (ds:List D) (μ:Mu) (Q:VK3) (h:spLn ds μ Q):t_q1 spTk { nx:=λ _ μ'=>Q .non μ',rt:=Q } (ye0 N_q1 ds) μ:=by
 obtain ⟨p,a,b,rfl,hp,ha,q⟩:=h;have hz:(1000:Nat) < sizeLine:=by decide
 refine ⟨Z0,λ g0 hg0=>?_⟩;have ng:p ≠ g0:=sb0 hp hg0;refine ⟨p,4,a,b,rfl,by decide,by decide,by rw [yb0 ng]; exact hp,ha,λ r a0 b0 r0 r4 h00=>?_⟩
 obtain ⟨far,ef,hfar⟩:∃ far:Int,atI [D.int 5,.int 5,.int 5,.int 18] r=some (.int far) /\ (far=5 \/ far=18):=by
  have c:r=0 \/ r=1 \/ r=2 \/ r=3:=by omega
  rcases c with rfl | rfl | rfl | rfl
  ·exact ⟨5,rfl,.inl rfl⟩
  ·exact ⟨5,rfl,.inl rfl⟩
  ·exact ⟨5,rfl,.inl rfl⟩
  ·exact ⟨18,rfl,.inr rfl⟩
 show ixR (.ref g0) (.int r) (updM (updM μ g0 (.lst [D.int 5,.int 5,.int 5,.int 18])) p (.lst [.int a0,.int b0])) (λ d μ1=>_);refine yq0 (by rw [yb0 (Ne.symm ng),va0]) ef ?_;have hpa:updM (updM μ g0 (.lst [D.int 5,.int 5,.int 5,.int 18])) p (.lst [.int a0,.int b0]) p=some (.lst [.int a0,.int b0]):=va0;have eba:ExtB p μ (updM (updM μ g0 (.lst [D.int 5,.int 5,.int 5,.int 18])) p (.lst [.int a0,.int b0])):=((Ext.new hg0).b p).trans ExtB.upd;generalize updM (updM μ g0 (.lst [D.int 5,.int 5,.int 5,.int 18])) p (.lst [.int a0,.int b0])=μa at hpa eba;refine ⟨p,far,a0,b0,rfl,by omega,by omega,hpa,h00,λ w a1 b1 w0 w1 h1=>?_⟩;refine ⟨p,far,a1,b1,rfl,by omega,by omega,va0,h1,λ hh a2 b2 h0 h5 h2=>?_⟩;rw [vi0];refine ⟨Nat.zero_le _,λ f hf=>?_⟩;have nf:f ≠ p:=λ z=>by subst z; rw [va0] at hf; cases hf
 have hfa:μa f=none:=by rw [yb0 nf] at hf; exact hf
 have hf0:μ f=none:=eba.free hfa nf;have hp3:updM (updM μa p (.lst [.int a2,.int b2])) f (.lst []) p=some (.lst [.int a2,.int b2]):=by rw [yb0 (Ne.symm nf),va0]
 have eb3:ExtB p μ (updM (updM μa p (.lst [.int a2,.int b2])) f (.lst [])):=λ c o n hc=>by rw [yb0 (sb0 hc hf0),yb0 n]; exact eba c o n hc
 have hf3:updM (updM μa p (.lst [.int a2,.int b2])) f (.lst []) f=some (.lst []):=va0;generalize updM (updM μa p (.lst [.int a2,.int b2])) f (.lst [])=μ3 at hp3 eb3 hf3;refine ⟨p,15,a2,b2,rfl,by decide,by decide,hp3,h2,λ n a4 b4 n0 n7 h4=>?_⟩;have hn:n * (1 + far / 6)<=56:=by rcases hfar with rfl | rfl <;> omega
 have hn0:0<=n * (1 + far / 6):=by rcases hfar with rfl | rfl <;> omega
 refine ⟨⟨by decide,by decide⟩,.inl (.inl ⟨by omega,by omega⟩),⟨by omega,by omega⟩,?_⟩;refine tg0 (λ l ρ μ'=>∃ (f:Addr) (fs:List T3) (o5 o6 o7 o8:Option D),ρ=[some (.ref p),some (.int 14),some (.int far),some (.int (2 + w)),some (.int (2 + hh)),some (.ref f),o5,o6,o7,o8] /\ Wn μ μ' p f fs l.length) ?_ (λ _ _ _ _=>trivial) ?_ ?_
 ·refine ⟨f,[],none,none,none,none,rfl,⟨eb3.trans ExtB.upd,⟨a4,b4,va0,h4⟩,by rw [yb0 nf]; exact hf3,nf,hf0,λ _ h=>(nomatch h),?_⟩⟩;unfold rngD;simp only [length_map,length_range,length_nil];omega
 ·rintro ρ μ' ⟨f,fs,o5,o6,o7,o8,rfl,W⟩;obtain ⟨a',b',e',h'⟩:=W.st;have le:=W.le;refine ⟨fs,W.fl,λ l nd hl=>?_,λ ks nd mk us pm su r hr=>?_⟩
  ·have:=List.Nodup.length_le_of_subset nd hl;omega
  ·dsimp only [nil3];have kl:=List.Nodup.length_le_of_subset nd λ x hx=>(mk x).mp hx;refine wp3 va0 (q us a' b' _ (yw3 nd (λ t ht=>(W.wa t ((mk t).mp ht)).1) [1] pm su) (λ t ht=>(W.wa t ((mk t).mp (pm.mem_iff.mp ht))).2) h' ?_ (W.eb.trans (Ext.b p (Ext.new hr))))
   ·rw [yb0 (sb0 e' hr)]; exact e'
 ·rintro GG hG x rest ρ μ' ⟨f,fs,o5,o6,o7,o8,rfl,W⟩;subst hG;obtain ⟨a',b',e',h'⟩:=W.st;have le:=W.le;rw [length_cons] at le;refine ⟨p,2 + w,a',b',rfl,by omega,by omega,e',h',λ x' a5 b5 x0 x1 h5'=>?_⟩;refine ⟨p,2 + hh,a5,b5,rfl,by omega,by omega,va0,h5',λ y' a6 b6 y0 y1 h6=>?_⟩;refine ⟨p,6,a6,b6,rfl,by decide,by decide,va0,h6,λ wa a7 b7 wa0 wa1 h7=>?_⟩;rw [vi0,vi0];have fl:updM μ' p (.lst [.int a7,.int b7]) f=some (.lst (fs.map encT)):=by rw [yb0 W.nf]; exact W.fl
  have ep:updM μ' p (.lst [.int a7,.int b7]) p=some (.lst [.int a7,.int b7]):=va0;have eb:ExtB p μ (updM μ' p (.lst [.int a7,.int b7])):=W.eb.trans ExtB.upd;generalize updM μ' p (.lst [.int a7,.int b7])=μ4 at fl ep eb;show if decide (wa < 4)=true then _ else _;by_cases c:wa < 4
  ·rw [decide_eq_true c,if_pos rfl]
   conv=>whnf
   rw [fl];refine ⟨(by decide:(0:Int) < 2),z3,?_⟩;dsimp only [nil3];refine zo3 fl (by rw [length_map]; omega) ?_;refine ⟨f,fs ++ [(x' - 2,y' - 2,wa % 2)],_,_,_,_,rfl,⟨λ c o n hc=>by rw [yb0 (sb0 hc W.ff)]; exact eb c o n hc,⟨a7,b7,by rw [yb0 (Ne.symm W.nf)]; exact ep,h7⟩,by rw [va0,map_append]; rfl,W.nf,W.ff,λ t ht=>?_,by rw [length_append,length_singleton]; omega⟩⟩;rcases List.mem_append.mp ht with ht | ht
   ·exact W.wa t ht
   ·rw [mem_singleton] at ht;subst ht;refine ⟨?_,?_⟩
    ·show wa % 2=0 \/ wa % 2=1;omega
    ·dsimp only;omega
  ·rw [decide_eq_false c,if_neg [20]];refine ⟨z3,z3,z3,z3,Z0,λ g hg=>?_⟩;have fl2:=(Ext.new (o:=.lst ((Sq (x' - 2) (y' - 2)).map encT)) hg) _ _ fl;have eg:updM μ4 g (.lst ((Sq (x' - 2) (y' - 2)).map encT)) g=some (.lst ((Sq (x' - 2) (y' - 2)).map encT)):=va0;have ep2:=(Ext.new (o:=.lst ((Sq (x' - 2) (y' - 2)).map encT)) hg) _ _ ep;have eb2:=eb.trans (Ext.b p (Ext.new (o:=.lst ((Sq (x' - 2) (y' - 2)).map encT)) hg));show addR (.ref f) (.ref g) (updM μ4 g (.lst ((Sq (x' - 2) (y' - 2)).map encT))) (λ d μ1=>_);generalize updM μ4 g (.lst ((Sq (x' - 2) (y' - 2)).map encT))=μ5 at fl2 eg ep2 eb2;simp only [addR,fl2,eg];refine ⟨by simp only [length_map,Sq,length_cons,length_nil]; omega,λ h hh'=>?_⟩;have nhp:h ≠ p:=(sb0 ep2 hh').symm;refine ⟨h,fs ++ Sq (x' - 2) (y' - 2),_,_,_,_,rfl,⟨eb2.trans (Ext.b p (Ext.new hh')),⟨a7,b7,by rw [yb0 (Ne.symm nhp)]; exact ep2,h7⟩,by rw [va0,map_append],nhp,?_,λ t ht=>?_,by rw [length_append]; simp only [Sq,length_cons,length_nil]; omega⟩⟩
   ·cases z:μ h with
    | none=>rfl
    | some o=>have:=eb2 h o nhp z; rw [hh'] at this; cases this
   ·rcases List.mem_append.mp ht with ht | ht
    ·exact W.wa t ht
    ·simp only [Sq,mem_cons,not_mem_nil,or_false] at ht;unfold wz wy;rcases ht with rfl | rfl | rfl | rfl <;> dsimp only <;> omega
theorem yz0 (f:T3->Int):∀ ts:List T3,ts ≠ []->∃ s ∈ ts,∀ t ∈ ts,f s<=f t
 | [],h=>absurd rfl h
 | a :: r,_=>by
  by_cases c:r=[]
  ·subst c;exact ⟨a,.head _,λ t ht=>by rw [List.mem_singleton.mp ht]; exact Int.le_refl _⟩
  ·obtain ⟨s,hs,hm⟩:=yz0 f r c;by_cases l:f a<=f s
   ·refine ⟨a,.head _,λ t ht=>?_⟩;rcases List.mem_cons.mp ht with e | e
    ·rw [e]; exact Int.le_refl _
    ·exact Int.le_trans l (hm t e)
   ·refine ⟨s,.tail _ hs,λ t ht=>?_⟩;rcases List.mem_cons.mp ht with e | e
    ·rw [e]; omega
    ·exact hm t e
theorem vn3 {ts:List T3} (hw:∀ t ∈ ts,wy t) (hS:Sm ts) (h:ts ≠ []):∃ x0 y0 x1 y1 w h,BxS ts x0 y0 x1 y1 w h /\ w * h<=484:=by
 obtain ⟨s1,a1,m1⟩:=yz0 (λ s=>s.1) ts h;obtain ⟨s2,a2,m2⟩:=yz0 (λ s=>s.2.1) ts h;obtain ⟨s3,a3,m3⟩:=yz0 (λ s=>- gx s) ts h;obtain ⟨s4,a4,m4⟩:=yz0 (λ s=>- gy s) ts h;have b1:=hS s1 a1; have b2:=hS s2 a2; have b3':=hS s3 a3; have b4:=hS s4 a4;have w3:=hw s3 a3; have w4:=hw s4 a4; have w1:=hw s1 a1; have w2:=hw s2 a2;have c1:=m3 s1 a1; have c2:=m4 s2 a2;unfold gx at c1;unfold gy at c2;unfold wy at w1 w2 w3 w4;have e1:0<=gx s3 - s1.1 /\ gx s3 - s1.1 + 2<=22:=by unfold gx; omega
 have e2:0<=gy s4 - s2.2.1 /\ gy s4 - s2.2.1 + 2<=22:=by unfold gy; omega
 have wh:(gx s3 - s1.1 + 2).toNat * (gy s4 - s2.2.1 + 2).toNat<=484:=Nat.le_trans (Nat.mul_le_mul (show _<=22 by omega) (show _<=22 by omega)) [20];exact ⟨s1.1,s2.2.1,gx s3,gy s4,(gx s3 - s1.1 + 2).toNat,(gy s4 - s2.2.1 + 2).toNat,⟨⟨⟨s1,a1,rfl⟩,m1,⟨s2,a2,rfl⟩,m2,⟨s3,a3,rfl⟩,λ s hs=>(by have:=m3 s hs; omega),⟨s4,a4,rfl⟩,λ s hs=>(by have:=m4 s hs; omega)⟩,by omega,by omega,⟨by omega,by omega,by omega,by omega⟩,by omega,by omega,by omega,by omega⟩,wh⟩
theorem sb2 {B:T3->Prop} {xa ya:Int} {w h:Nat} {L:List (List Pt)} (F:Fr B xa ya (xa + w) (ya + h)) (hw:0 < w) (hh:0 < h) (I:IsRo B (xa,ya) L):Nc (Cn B) (gpt xa ya w h)=L.length + 1:=by
 have key:∀ c,ixr L c=none ↔ Cn B (xa,ya) c:=λ c=>by
  constructor
  ·intro e;by_cases z:Cn B (xa,ya) c
   ·exact z
   ·obtain ⟨r,hr,hc⟩:=I.cov c z;have:=List.findIdx?_eq_none_iff.mp e r hr;rw [decide_eq_true hc] at this;cases this
  ·intro z;cases e:ixr L c with
   | none=>rfl
   | some i =>
    obtain ⟨r,h1,h2⟩:=vs0 e;exact absurd z (I.mem r (mem_of_getElem? h1) c h2).1
 have hR:∀ a ∈ gpt xa ya w h,∀ b ∈ gpt xa ya w h,Cn B a b ↔ ixr L a=ixr L b:=λ a _ b _=>by
  constructor
  ·intro h;cases e:ixr L a with
   | none=>exact ((key b).mpr (((key a).mp e).trans h)).symm
   | some i =>
    obtain ⟨r,h1,h2⟩:=vs0 e;exact (yl2 I.dj h1 (((I.mem r (mem_of_getElem? h1) a h2).2 b).mpr h)).symm
  ·intro e;cases e':ixr L a with
   | none=>exact ((key a).mp e').symm.trans ((key b).mp (e ▸ e'))
   | some i =>
    obtain ⟨r,h1,h2⟩:=vs0 e';obtain ⟨r',h3,h4⟩:=vs0 (e ▸ e');rw [h1] at h3;injection h3 with h3
    subst h3;exact ((I.mem r (mem_of_getElem? h1) a h2).2 b).mp h4
 have nd:(none :: (List.range L.length).map some).Nodup:=List.nodup_cons.mpr ⟨λ h=>(by obtain ⟨_,_,e⟩:=List.mem_map.mp h; cases e),List.pairwise_map.mpr (List.nodup_range.imp λ {a b} ne e=>ne (Option.some.inj e))⟩
 have:=Nc.vals hR nd λ y=>by
  rw [mem_cons,mem_map,mem_map];constructor
  ·rintro (rfl | ⟨i,hi,rfl⟩)
   ·exact ⟨(xa,ya),gpt_mem.mpr ⟨by dsimp only; omega,by dsimp only; omega,by dsimp only; omega,by dsimp only; omega⟩,(key _).mpr .refl⟩
   ·rw [List.mem_range] at hi;have hr:=getElem_mem hi;obtain ⟨c,hc⟩:=List.exists_mem_of_ne_nil _ (I.srt _ hr).2;exact ⟨c,gpt_mem.mpr (zu1 F (I.mem _ hr c hc).1),yl2 I.dj (getElem?_eq_getElem hi) hc⟩
  ·rintro ⟨c,_,rfl⟩;cases e:ixr L c with
   | none=>exact .inl rfl
   | some i =>
    obtain ⟨r,h1,_⟩:=vs0 e;exact .inr ⟨i,List.mem_range.mpr (List.getElem?_eq_some_iff.mp h1).1,rfl⟩
 rw [this,length_cons,length_map,length_range]
structure HE (ts:List T3) (L:List (List Pt)):Prop where
 eu:∀ us:List Pt,us.Nodup->(∀ p,p ∈ us ↔ p ∈ enL ts)->L.length + us.length=ts.length + Nc (Pn (· ∈ ts)) us
 nd:L.flatten.Nodup
 ln:L.flatten.length<=484
 cl:∀ r ∈ L,∀ c ∈ r,∀ e s,(e,s) ∈ sds c->e ∉ r->s ∈ ts
theorem tx3 {ts:List T3} {x0 y0 x1 y1:Int} {w h:Nat} {L:List (List Pt)} (hP:Pc ts) (b:BxS ts x0 y0 x1 y1 w h) (hb:w * h<=484) (I:IsRo (· ∈ ts) (x0 - 1,y0 - 1) L):HE ts L:=by
 have F:=un3 b;obtain ⟨_,ew,eh,_,hw,hh,_⟩:=b;refine ⟨λ us nd mm=>?_,I.flat,?_,λ r hr c hc e s hs he=>?_⟩
 ·obtain ⟨n,rfl⟩:∃ n,w=n + 2:=⟨w - 2,by omega⟩;obtain ⟨m,rfl⟩:∃ m,h=m + 2:=⟨h - 2,by omega⟩;have e1:=yy3 (xh3 hP) hP.2.1 F nd (λ s hs=>⟨(mm _).mpr (enL_mem.mpr ⟨s,hs,.inl rfl⟩),(mm _).mpr (enL_mem.mpr ⟨s,hs,.inr rfl⟩)⟩) λ p hp=>enL_mem.mp ((mm p).mp hp);have e2:=sb2 F [1] [1] I;omega
 ·have:=List.Nodup.length_le_of_subset I.flat (l₂:=gpt (x0 - 1) (y0 - 1) w h) λ c hc=>by
    obtain ⟨r,hr,hc'⟩:=List.mem_flatten.mp hc;exact gpt_mem.mpr (zu1 F (I.mem r hr c hc').1)
  rw [yk0] at this;omega
 ·false_or_by_contra
  rename_i z;exact he (((I.mem r hr c hc).2 e).mpr (Cn.refl.step ⟨s,hs,z⟩))
theorem tf2 {ts:List T3} (hw:∀ s ∈ ts,wy s) (hS:Sm ts) (E:List Pt) (nd:E.Nodup) (h:∀ p ∈ E,p ∈ enL ts):E.length < 511:=by
 have:=List.Nodup.length_le_of_subset nd (l₂:=gpt (-2) (-2) 21 21) λ p hp=>by
  obtain ⟨s,hs,e⟩:=enL_mem.mp (h p hp);have a:=hS s hs;have b:=hw s hs;unfold wy at b;rw [gpt_mem];unfold inF;rcases e with rfl | rfl
  ·unfold end0; dsimp only; omega
  ·unfold end1; dsimp only; omega
 rw [yk0] at this;omega
def sa2:Sp3:=λ ds μ Q=>∃ ns:List Int,ds=[.fls (ns.map D.int)] /\ ns.length<=63 /\ ∀ μ',Q (.bl true) μ'
abbrev EL (Q:VK3):Ends3:={ nx:=λ _ μ'=>Q .non μ',rt:=Q }
def thr (c:Pt):List (Pt × T3):=[((c.1 + 1,c.2),(c.1 + 1,c.2,1)),((c.1,c.2 + 1),(c.1,c.2 + 1,0)),((c.1 - 1,c.2),(c.1,c.2,1))]
theorem sn2 {c:Pt} {x:Pt × T3} (h:x ∈ thr c):x ∈ sds c:=by
 unfold thr at h;unfold sds;simp only [mem_cons,not_mem_nil,or_false] at h ⊢;rcases h with h | h | h
 ·exact .inl h
 ·exact .inr (.inl h)
 ·exact .inr (.inr (.inl h))
theorem up2 {ts:List T3} {r:List Pt} {a:Addr} {μ:Mu} {o0 o1 o3' o4 o6 o7 o8 o9:Option D} {D':Ends3} (hl:∀ c ∈ r,∀ e s,(e,s) ∈ sds c->e ∉ r->s ∈ ts) (ha:μ a=some (.lst (r.map encQ)))
    (k:∀ μ' o6 o7 o8 o9,Ext μ μ'->D'.nx [o0,o1,some [25],o3',o4,some (.ref a),o6,o7,o8,o9] μ') :
    (for3 (is3 (v3 5)) (ya1 2 (zf0 (gn3 6) (zf0 (gn3 7) ua1))) (for3 [22] (ya1 2 (zf0 (gn3 8) (zf0 (gn3 9) ua1))) (ifs3 (and3 (b3 (o3 (inR true) (v3 8) (v3 5))) (b3 (o3 (inR true) (v3 9) (v3 2)))) (ret3 (c3 (.bl false))) ti0))) D' [o0,o1,some [25],o3',o4,some (.ref a),o6,o7,o8,o9] μ:=by
 dsimp only [for3,is3,v3,getI];rw [ha];refine tg0 (λ l ρ μ'=>∃ (js ks:List Pt) (o6 o7 o8 o9:Option D),l=ks.map encQ /\ js ++ ks=r /\ ρ=[o0,o1,some [25],o3',o4,some (.ref a),o6,o7,o8,o9] /\ Ext μ μ') ?_ ?_ ?_ ?_
 ·exact ⟨[],r,_,_,_,_,rfl,rfl,rfl,Ext.refl _⟩
 ·rintro l ρ μ' ⟨_,_,_,_,_,_,_,_,_,z⟩;exact z _ _ ha
 ·rintro ρ μ' ⟨_,_,p6,p7,p8,p9,_,_,rfl,ex⟩;exact k μ' p6 p7 p8 p9 ex
 ·rintro GG hG x rest ρ μ' ⟨js,ks,p6,p7,p8,p9,e,ej,rfl,ex⟩;cases ks with
  | nil=>cases e
  | cons c ks =>
   rw [map_cons] at e;injection e with e1 e2
   subst e1 e2;subst hG;have hc:c ∈ r:=by rw [<- ej]; simp
   refine ⟨rfl,?_⟩;refine ⟨z2,z3,z2,z2,z3,z2,z2,z3,z2,z3,λ p hp=>?_⟩
   conv=>whnf
   rw [va0];refine tg0 (λ l ρ μ2=>∃ (as bs:List (Pt × T3)) (o8 o9:Option D),l=bs.map encS /\ as ++ bs=thr c /\ ρ=[o0,o1,some [25],o3',o4,some (.ref a),some (.int c.1),some (.int c.2),o8,o9] /\ Ext μ μ2 /\ μ2 p=some (.lst ((thr c).map encS))) ?_ ?_ ?_ ?_
   ·exact ⟨[],thr c,_,_,rfl,rfl,rfl,ex.trans (Ext.new hp),va0⟩
   ·rintro l ρ μ2 ⟨_,_,_,_,_,_,_,_,z⟩;exact z
   ·rintro ρ μ2 ⟨_,_,q8,q9,_,_,rfl,ex2,_⟩;exact ⟨js ++ [c],ks,_,_,_,_,rfl,by rw [<- ej]; simp,rfl,ex2⟩
   ·rintro GG hG x rest ρ μ2 ⟨as,bs,q8,q9,e,ea,rfl,ex2,ep⟩;cases bs with
    | nil=>cases e
    | cons y bs =>
     rw [map_cons] at e;injection e with e1 e2
     subst e1 e2;subst hG;have hy:y ∈ sds c:=sn2 (by rw [<- ea]; simp);refine ⟨rfl,?_⟩
     show inR true (encQ y.1) (.ref a) μ2 (λ d μ1=>match d with
      | .bl b=>(if b=true then _ else _)
      | _=>False)
     rw [in_Q (ex2 _ _ ha)];dsimp only;by_cases h1:y.1 ∈ r
     ·rw [decide_eq_true h1];exact ⟨as ++ [y],bs,_,_,rfl,by rw [<- ea]; simp,rfl,ex2,ep⟩
     ·rw [decide_eq_false h1]
      show inR true (encT y.2) [25] μ2 (λ d μ1=>match d with
       | .bl b=>(if b=true then _ else _)
       | _=>False)
      rw [in_T,decide_eq_true (hl c hc y.1 y.2 hy h1)];exact ⟨as ++ [y],bs,_,_,rfl,by rw [<- ea]; simp,rfl,ex2,ep⟩
theorem xk3 {ts:List T3} {L:List (List Pt)} {r:Addr} {rs:List (Addr × List Pt)} {μ:Mu} {Q:VK3} {o0 o1:Option D} (hP:Pc ts) (hS:Sm ts) (H:HE ts L) (R:Rl μ r rs) (eL:rs.map (·.2)=L) (k:∀ μ',Q (.bl true) μ') :
    zg1 spEn spLn spPi uk0 spRo (EL Q) [o0,o1,some [25],some (.ref r),none,none,none,none,none,none] μ:=by
 have hz:(1000000:Nat) < sizeLine:=by decide
 have ln:=R.ln;have tl:=hP.2.2;have Ll:L.length=rs.length:=by rw [<- eL,length_map]
 conv=>whnf
 rw [R.li];refine ⟨ts,rfl,tl,λ d E μ1 ex1 hd nd mm ed=>?_⟩;dsimp only [nil3];refine uu2 ed ?_;refine ⟨ts,rfl,tl,hP.2.1,tf2 hP.2.1 hS,λ n us μ2 ex2 ndu mmu en=>?_⟩;have eu:=H.eu us ndu mmu;have pe:E.length=us.length:=((List.perm_ext_iff_of_nodup nd ndu).mpr λ p=>(mm p).trans (mmu p).symm).length_eq;have le:(mkd E λ p=>(((enL ts).count p:Nat):Int)).length=E.length:=length_map _;show if (!decide (((rs.map λ x=>D.ref x.1).length:Int)=((ts.map encT).length:Int) - ((mkd E λ p=>(((enL ts).count p:Nat):Int)).length:Int) + (n:Int)))=true then _ else _;rw [decide_eq_true (by rw [length_map,length_map,le]; omega),if_neg [20]];have R2:=(R.mono ex1).mono ex2;refine ⟨Nat.zero_le _,λ ev hev=>?_⟩;have R3:=R2.mono (Ext.new (o:=.lst []) hev);have ev3:updM μ2 ev (.lst []) ev=some (.lst []):=va0;have nev:∀ x ∈ rs,x.1 ≠ ev:=λ x hx=>sb0 (R2.at' x hx) hev;have ner:r ≠ ev:=sb0 R2.li hev;show (for3 (is3 (v3 3)) (gn3 5) (zk0 (mt3 extR (v3 4) (za0 (v3 5) nil3)))) _ [o0,o1,some [25],some (.ref r),some (.ref ev),none,none,none,none,none] (updM μ2 ev (.lst []));generalize updM μ2 ev (.lst [])=μ3 at R3 ev3;dsimp only [for3,is3,v3,getI];rw [R3.li];refine tg0 (λ l ρ μ'=>∃ (js ks:List (Addr × List Pt)) (o5:Option D),l=ks.map (λ x=>.ref x.1) /\ js ++ ks=rs /\ ρ=[o0,o1,some [25],some (.ref r),some (.ref ev),o5,none,none,none,none] /\ Rl μ' r rs /\ μ' ev=some (.lst ((js.map (·.2)).flatten.map encQ))) ⟨[],rs,_,rfl,rfl,rfl,R3,ev3⟩ ?_ ?_ ?_
 ·rintro l ρ μ' ⟨_,_,_,_,_,_,z,_⟩;exact z.li
 ·rintro ρ μ' ⟨js,ks,o5,e,ej,rfl,R4,e4⟩;cases ks with
  | cons _ _=>cases e
  | nil =>
  rw [append_nil] at ej;subst ej;rw [eL] at e4;show yg1 spEn spLn spPi uk0 spRo (EL Q) [o0,o1,some [25],some (.ref r),some (.ref ev),o5,none,none,none,none] μ';refine ⟨L.flatten,e4,λ l nd hl=>?_,λ ms ndm mmm=>?_⟩
  ·have:=List.Nodup.length_le_of_subset nd hl;have:=H.ln;omega
  conv=>whnf
  rw [e4];show if (!decide ((ms.length:Int)=((L.flatten.map encQ).length:Int)))=true then _ else _;rw [decide_eq_true (by rw [length_map,((List.perm_ext_iff_of_nodup ndm H.nd).mpr mmm).length_eq]),if_neg [20]];show (for3 (is3 (v3 3)) (gn3 5) _) _ [o0,o1,some [25],some (.ref r),some (.ref ev),o5,none,none,none,none] μ';dsimp only [for3,is3,v3,getI];rw [R4.li];refine tg0 (λ l ρ μ5=>∃ (as ks:List (Addr × List Pt)) (o5 o6 o7 o8 o9:Option D),l=ks.map (λ x=>.ref x.1) /\ as ++ ks=js /\ ρ=[o0,o1,some [25],some (.ref r),some (.ref ev),o5,o6,o7,o8,o9] /\ Rl μ5 r js) ⟨[],js,_,_,_,_,_,rfl,rfl,rfl,R4⟩ ?_ ?_ ?_
  ·rintro l ρ μ5 ⟨_,_,_,_,_,_,_,_,_,_,z⟩;exact z.li
  ·rintro ρ μ5 ⟨_,_,_,_,_,_,_,_,_,rfl,_⟩;exact k μ5
  ·rintro GG hG x rest ρ μ5 ⟨as,ks,p5,p6,p7,p8,p9,e,ea,rfl,R5⟩;cases ks with
   | nil=>cases e
   | cons y ks =>
    rw [map_cons] at e;injection e with e1 e2
    subst e1 e2;subst hG;have hy:y ∈ js:=by rw [<- ea]; simp
    refine up2 (a:=y.1) (r:=y.2) (H.cl y.2 (by rw [<- eL]; exact mem_map_of_mem hy)) (R5.at' y hy) λ μ6 q6 q7 q8 q9 ex6=>?_;exact ⟨as ++ [y],ks,_,_,_,_,_,rfl,by rw [<- ea]; simp,rfl,R5.mono ex6⟩
 ·rintro GG hG x rest ρ μ' ⟨js,ks,o5,e,ej,rfl,R4,e4⟩;cases ks with
  | nil=>cases e
  | cons y ks =>
   rw [map_cons] at e;injection e with e1 e2
   subst e1 e2;subst hG;have hy:y ∈ rs:=by rw [<- ej]; simp
   have hl:=H.ln
   have l1:(js.map (·.2)).flatten.length + y.2.length<=L.flatten.length:=by
    rw [<- eL,<- ej,map_append,map_cons,List.flatten_append,flatten_cons,length_append,length_append];omega
   conv=>whnf
   rw [e4];dsimp only [za0,v3,nil3,getI,List.set];refine ul3 e4 (R4.at' y hy) (by rw [length_map,length_map]; omega) ?_;refine ⟨js ++ [y],ks,_,rfl,by rw [<- ej]; simp,rfl,⟨by rw [yb0 ner]; exact R4.li,λ x hx=>by rw [yb0 (nev x hx)]; exact R4.at' x hx,R4.nd,R4.ln⟩,?_⟩;rw [va0,map_append,List.flatten_append,map_append];simp
theorem xe3 (ds:List D) (μ:Mu) (Q:VK3) (h:sa2 ds μ Q):vz2 spEn spLn spPi uk0 spRo (EL Q) (ye0 wy2 ds) μ:=by
 obtain ⟨ns,rfl,_,k⟩:=h;refine ⟨ns,0,rfl,by decide,λ a b p ha hp=>?_⟩;refine ⟨p,a,b,rfl,va0,ha,λ us a1 b1 μ1 hP hS h1 e1 _=>?_⟩;refine ⟨us,rfl,hP,λ c r hr=>?_,λ c=>?_⟩
 ·subst c;refine xk3 (L:=[]) (rs:=[]) hP hS ⟨λ us nd mm=>?_,nodup_nil,Nat.zero_le _,λ _ h=>nomatch h⟩ ⟨va0,(λ _ h=>nomatch h),nodup_nil,Nat.zero_le _⟩ rfl k;cases us with
  | nil=>rfl
  | cons p us=>exact nomatch (mm p).mp (.head _)
 ·obtain ⟨x0,y0,x1,y1,w,h,b,hb⟩:=vn3 hP.2.1 hS c;exact ⟨x0,y0,x1,y1,w,h,b,λ r rs μ2 ex2 hr R _ I=>xk3 hP hS (tx3 hP b hb I) R rfl k⟩
end Pv
namespace Pv
open PySem PySem.Spec PyProof.Rows L2
theorem bn1 {P:List Value->Prop} (h:∀ a,P [a]) (us:[23]) (e:us.length=1):P us:=by
 match us,e with
 | [a],_=>exact h a
theorem bn2 {P:List Value->Prop} (h:∀ a b,P [a,b]) (us:[23]) (e:us.length=2):P us:=by
 match us,e with
 | [a,b],_=>exact h a b
theorem bn3 {P:List Value->Prop} (h:∀ a b c,P [a,b,c]) (us:[23]) (e:us.length=3):P us:=by
 match us,e with
 | [a,b,c],_=>exact h a b c
abbrev NsR (K:Fg) (x:Str) (p:Addr):Prop:=nsIn K mainGlobals x=some (some (.ref p))
def FnA (K:Fg) (x:Str) (st:Stmt) (p:Addr):Prop:=∃ oc od sl kV dc pm an cd ct,K.lookup p=some ⟨oc,od,.func (fnOf x x (xj0 st) (wc0 st) (sa0 st) .none kV dc pm an cd ct),sl⟩ /\ codeIn K cd x=true /\ keepIn K (.ref p)=true
theorem fnA_mk {K:Fg} {x:Str} {st:Stmt} {p:Addr} {oc kV dc pm cd ct:Value} {od an:Option Addr} {sl:Array (Option Value)} (l:K.lookup p=some ⟨oc,od,.func (fnOf x x (xj0 st) (wc0 st) (sa0 st) .none kV dc pm an cd ct),sl⟩) (c:codeIn K cd x=true) (k:keepIn K (.ref p)=true):FnA K x st p:=⟨_,_,_,_,_,_,_,_,_,l,c,k⟩
theorem FnA.fn {K:Fg} {x:Str} {st:Stmt} {p:Addr} (h:FnA K x st p):∃ fd,Fun K x x st p fd:=by
 obtain ⟨_,_,_,_,_,_,_,_,_,l,c,k⟩:=h;exact ⟨_,vl2 (st:=st) l c k⟩
theorem all_mk {l:PySem.W.OpenLaw} {w:World} {K:Fg} {h:Heap} {mg:Str->Option Value} {fa:Addr} (X:K.In h) (G:h.Ns mainGlobals mg) (hfa:mg "law" = some (.ref fa))
    {p_q6:Addr}
    {p_q8:Addr}
    {p_q9:Addr}
    {jaw:Addr}
    {jax:Addr}
    {p_q7:Addr}
    {p_q5:Addr}
    {jay:Addr}
    {jaz:Addr}
    {ja0:Addr}
    {p_q3:Addr}
    {p_q4:Addr}
    {p_q1:Addr}
    {p_q0:Addr}
    {p_q2:Addr}
    {ja1:Addr}
    {t_2:Tok}
    {t_3:Tok}
    {q_1:Addr} {qo_1:Option Addr} {qn_1:Nat} {qs_1:Array (Option Value)}
    {t_4:Tok}
    (a_q6:NsR K "check_picture" p_q6) (A_q6:FnA K "check_picture" s_q6 p_q6)
    (a_q8:NsR K "check_stroke" p_q8) (A_q8:FnA K "check_stroke" s_q8 p_q8)
    (a_q9:NsR K "ends_of" p_q9) (A_q9:FnA K "ends_of" s_q9 p_q9)
    (jal:NsR K "picture_box" jaw) (jam:FnA K "picture_box" vl1 jaw)
    (jan:NsR K "rooms_of" jax) (jao:FnA K "rooms_of" wl1 jax)
    (a_q7:NsR K "check_size" p_q7) (A_q7:FnA K "check_size" s_q7 p_q7)
    (a_q5:NsR K "cells_round" p_q5) (A_q5:FnA K "cells_round" s_q5 p_q5)
    (jap:NsR K "take_cells" jay) (jaq:FnA K "take_cells" yl1 jay)
    (jar:NsR K "neighbours_of" jaz) (jas:FnA K "neighbours_of" ul1 jaz)
    (jat:NsR K "sides_of_cell" ja0) (jau:FnA K "sides_of_cell" zl1 ja0)
    (a_q3:NsR K "_law_state" p_q3) (A_q3:FnA K "_law_state" s_q3 p_q3)
    (a_q4:NsR K "_law_take" p_q4) (A_q4:FnA K "_law_take" s_q4 p_q4)
    (a_q1:NsR K "_law_lines" p_q1) (A_q1:FnA K "_law_lines" s_q1 p_q1)
    (a_q0:NsR K "_law_ends" p_q0) (A_q0:FnA K "_law_ends" s_q0 p_q0)
    (a_q2:NsR K "_law_pieces" p_q2) (A_q2:FnA K "_law_pieces" s_q2 p_q2)
    (jak:NsR K "law" ja1) (jav:FnA K "law" xr0 ja1)
    (jaf:nsIn K mainGlobals "WAYS" = some (some (.ref q_1)))
    (ql_1:K.lookup q_1=some ⟨.type "tuple",qo_1,.seq #[.int (0) t_2,.int (1) t_3] qn_1,qs_1⟩)
    (jaa:nsIn K mainGlobals "MOST_CELLS" = some (some (.int (2500) t_4)))
    (jae:nsIn K mainGlobals "dict" = some none)
    (jag:nsIn K mainGlobals "len" = some none)
    (jah:nsIn K mainGlobals "max" = some none)
    (jai:nsIn K mainGlobals "min" = some none)
    (jac:nsIn K mainGlobals "range" = some none)
    (jaj:nsIn K mainGlobals "set" = some none)
    (jab:nsIn K mainGlobals "sorted" = some none)
    (jad:nsIn K mainGlobals "tuple" = some none) :
    ∃ fd:FuncData,(∀ (s:Shared) (v:Value),BindsTo s fd ⟨[v],[]⟩ [("script",v)]) /\ ∀ base:Heap,K.In base->base.Ns mainGlobals mg->FnOk l.prog w K mg base CX0 5 fa fd ["script"] (lift K sa2):=by
 have e:=hfa.symm.trans (mg_of X G jak);cases e;have g_WAYS:Gd K mg "WAYS" uz0:=yl3 X G jaf (TupK.mk ql_1 (show 2<=sizeLine by decide) (.int (.int .nil)));have g_MOST_CELLS:Gd K mg "MOST_CELLS" si0:=zl3 X G jaa;have z_dict:=mg_none_of X G jae;have z_len:=mg_none_of X G jag;have z_max:=mg_none_of X G jah;have z_min:=mg_none_of X G jai;have z_range:=mg_none_of X G jac;have z_set:=mg_none_of X G jaj;have z_sorted:=mg_none_of X G jab;have z_tuple:=mg_none_of X G jad;obtain ⟨_,F_q6⟩:=A_q6.fn;have b_q6:=F_q6.binds (ps:=["picture"]) λ _ _ _ _ _ _=>bn1 λ _=>rfl;have m_q6:=mg_of X G a_q6;obtain ⟨_,F_q8⟩:=A_q8.fn;have b_q8:=F_q8.binds (ps:=["stroke"]) λ _ _ _ _ _ _=>bn1 λ _=>rfl;have m_q8:=mg_of X G a_q8;obtain ⟨_,F_q9⟩:=A_q9.fn;have b_q9:=F_q9.binds (ps:=["stroke"]) λ _ _ _ _ _ _=>bn1 λ _=>rfl;have m_q9:=mg_of X G a_q9;obtain ⟨_,ja2⟩:=jam.fn;have jbe:=ja2.binds (ps:=["picture"]) λ _ _ _ _ _ _=>bn1 λ _=>rfl;have jbf:=mg_of X G jal;obtain ⟨_,ja3⟩:=jao.fn;have jbg:=ja3.binds (ps:=["picture"]) λ _ _ _ _ _ _=>bn1 λ _=>rfl;have jbh:=mg_of X G jan;obtain ⟨_,F_q7⟩:=A_q7.fn;have b_q7:=F_q7.binds (ps:=["box"]) λ _ _ _ _ _ _=>bn1 λ _=>rfl;have m_q7:=mg_of X G a_q7;obtain ⟨_,F_q5⟩:=A_q5.fn;have b_q5:=F_q5.binds (ps:=["box"]) λ _ _ _ _ _ _=>bn1 λ _=>rfl;have m_q5:=mg_of X G a_q5;obtain ⟨_,ja4⟩:=jaq.fn;have jbi:=ja4.binds (ps:=["cell", "strokes", "unseen"]) λ _ _ _ _ _ _=>bn3 λ _ _ _=>rfl;have jbj:=mg_of X G jap;obtain ⟨_,ja5⟩:=jas.fn;have jbk:=ja5.binds (ps:=["cell", "strokes"]) λ _ _ _ _ _ _=>bn2 λ _ _=>rfl;have jbl:=mg_of X G jar;obtain ⟨_,ja6⟩:=jau.fn;have jbm:=ja6.binds (ps:=["cell"]) λ _ _ _ _ _ _=>bn1 λ _=>rfl;have jbn:=mg_of X G jat;obtain ⟨_,F_q3⟩:=A_q3.fn;have b_q3:=F_q3.binds (ps:=["script", "k"]) λ _ _ _ _ _ _=>bn2 λ _ _=>rfl;have m_q3:=mg_of X G a_q3;obtain ⟨_,F_q4⟩:=A_q4.fn;have b_q4:=F_q4.binds (ps:=["state", "many"]) λ _ _ _ _ _ _=>bn2 λ _ _=>rfl;have m_q4:=mg_of X G a_q4;obtain ⟨_,F_q1⟩:=A_q1.fn;have b_q1:=F_q1.binds (ps:=["state", "most"]) λ _ _ _ _ _ _=>bn2 λ _ _=>rfl;have m_q1:=mg_of X G a_q1;obtain ⟨_,F_q0⟩:=A_q0.fn;have b_q0:=F_q0.binds (ps:=["lines"]) λ _ _ _ _ _ _=>bn1 λ _=>rfl;have m_q0:=mg_of X G a_q0;obtain ⟨_,F_q2⟩:=A_q2.fn;have b_q2:=F_q2.binds (ps:=["lines"]) λ _ _ _ _ _ _=>bn1 λ _=>rfl;have m_q2:=mg_of X G a_q2;obtain ⟨_,_,_,ja7,ja8,ja9,jba,jbb,jbc,jbo,jbp,jbq⟩:=jav;have jbd:=vl2 (st:=xr0) jbo jbp jbq;have jbw:=jbd.binds (ps:=["script"]) λ _ _ _ _ _ _=>bn1 λ _=>rfl;have jbx:=mg_of X G jak;refine ⟨fnOf "law" "law" (xj0 xr0) (wc0 xr0) (sa0 xr0) .none ja7 ja8 ja9 jba jbb jbc,λ s v=>.of_eq rfl,λ base KB GB=>?_⟩;have h_q8:Cal l.prog w K mg base (1) "check_stroke" ["stroke"] zo1:=ug0 F_q8 m_q8 b_q8 xr3 (by rintro _ _ _ ⟨_,rfl,_⟩; rfl) (k:=0) (λ cdv A outer s H E hr=>ur3 z_len g_WAYS hr) xt3;have h_q6:Cal l.prog w K mg base (2) "check_picture" ["picture"] vg1:=ug0 F_q6 m_q6 b_q6 sc_q6 (by rintro _ _ _ ⟨_,rfl,_⟩; rfl) (k:=1) (λ cdv A outer s H E hr=>sr3 h_q8 [20] z_len z_range hr) zt3;have h_q9:Cal l.prog w K mg base (1) "ends_of" ["stroke"] ur0:=ug0 F_q9 m_q9 b_q9 sq3 (by rintro _ _ _ ⟨_,rfl,_⟩; rfl) (k:=0) (λ cdv A outer s H E hr=>vr3 hr) ss3;have jbr:Cal l.prog w K mg base (2) "picture_box" ["picture"] xb2:=ug0 ja2 jbf jbe sc_q12 (by rintro _ _ _ ⟨_,rfl,_⟩; rfl) (k:=1) (λ cdv A outer s H E hr=>zc3 h_q9 [20] z_len z_max z_min hr) td3;have h_q7:Cal l.prog w K mg base (1) "check_size" ["box"] spCz:=ug0 F_q7 m_q7 b_q7 yr3 (by rintro _ _ _ ⟨_,_,_,_,rfl,_⟩; rfl) (k:=0) (λ cdv A outer s H E hr=>tr3 g_MOST_CELLS hr) yt3;have h_q5:Cal l.prog w K mg base (1) "cells_round" ["box"] spCr:=ug0 F_q5 m_q5 b_q5 sc_q5 (by rintro _ _ _ ⟨_,_,_,_,_,_,rfl,_⟩; rfl) (k:=0) (λ cdv A outer s H E hr=>xs3 z_range hr) wt3;have jbs:Cal l.prog w K mg base (1) "sides_of_cell" ["cell"] spSd:=ug0 ja6 jbn jbm sc_q14 (by rintro _ _ _ ⟨_,rfl,_⟩; rfl) (k:=0) (λ cdv A outer s H E hr=>xc3 hr) vd3;have jbt:Cal l.prog w K mg base (2) "neighbours_of" ["cell", "strokes"] spNb:=ug0 ja5 jbl jbk zb3 (by rintro _ _ _ ⟨_,_,_,rfl,_⟩; rfl) (k:=1) (λ cdv A outer s H E hr=>wc3 jbs [20] hr) sd3;have jbu:Cal l.prog w K mg base (3) "take_cells" ["cell", "strokes", "unseen"] spTc:=ug0 ja4 jbj jbi sc_q15 (by rintro _ _ _ ⟨_,_,_,_,_,_,rfl,_⟩; rfl) (k:=2) (λ cdv A outer s H E hr=>sb3 jbt [20] z_len z_sorted hr) wd3;have jbv:Cal l.prog w K mg base (4) "rooms_of" ["picture"] spRo:=ug0 ja3 jbh jbg sc_q13 (by rintro _ _ _ ⟨_,rfl,_⟩; rfl) (k:=3) (λ cdv A outer s H E hr=>yc3 h_q5 [20] h_q6 [20] h_q7 [20] jbr [20] jbu [20] z_dict hr) ud3;have h_q3:Cal l.prog w K mg base (1) "_law_state" ["script", "k"] uk0:=ug0 F_q3 m_q3 b_q3 sc_q3 (by rintro _ _ _ ⟨_,_,rfl,_⟩; rfl) (k:=0) (λ cdv A outer s H E hr=>zs3 z_len hr) ut3;have h_q4:Cal l.prog w K mg base (1) "_law_take" ["state", "many"] spTk:=ug0 F_q4 m_q4 b_q4 sc_q4 (by rintro _ _ _ ⟨_,_,_,_,rfl,_⟩; rfl) (k:=0) (λ cdv A outer s H E hr=>ys3 hr) vt3;have h_q1:Cal l.prog w K mg base (2) "_law_lines" ["state", "most"] spLn:=ug0 F_q1 m_q1 b_q1 sc_q1 (by rintro _ _ _ ⟨_,_,_,rfl,_⟩; rfl) (k:=1) (λ cdv A outer s H E hr=>vs3 h_q4 [20] z_range z_set z_sorted z_tuple hr) yu3;have h_q0:Cal l.prog w K mg base (1) "_law_ends" ["lines"] spEn:=ug0 F_q0 m_q0 b_q0 sc_q0 (by rintro _ _ _ ⟨_,rfl,_⟩; rfl) (k:=0) (λ cdv A outer s H E hr=>us3 hr) zu3;have h_q2:Cal l.prog w K mg base (2) "_law_pieces" ["lines"] spPi:=ug0 F_q2 m_q2 b_q2 sc_q2 (by rintro _ _ _ ⟨_,rfl,_⟩; rfl) (k:=1) (λ cdv A outer s H E hr=>ws3 h_q0 [20] z_len z_min z_range z_set z_sorted hr) xu3;exact xw1 jbd sc_q10 (by rintro _ _ _ ⟨_,rfl,_⟩; rfl) (k:=4) (λ cdv A outer s H E hr=>vc3 h_q0 [20] h_q1 [20] h_q2 [20] h_q3 [20] jbv [20] z_len z_set hr) xe3
theorem walk {l:PySem.W.OpenLaw} {q:Program} {loose:List Str} {XP:(Str->Option Value)->Heap->Prop} {YP:World->Heap->Prop} {d:DefRec} {K:Params->Fg} (hn:l.most=some 63) (hdf:d.params.defaults=[])
    (hY:∀ (w:World) (h:Heap),YP w h->(K w.params).In h)
    (F:∀ (w:World) (mg:Str->Option Value) (fa:Addr) (h:Heap),(K w.params).In h->h.Ns mainGlobals mg->mg d.name=some (.ref fa) ->
     ∃ fd:FuncData,(∀ (s:Shared) (u:Value),BindsTo s fd ⟨[u],[]⟩ [("script",u)]) /\ ∀ base:Heap,(K w.params).In base->base.Ns mainGlobals mg->FnOk l.prog w (K w.params) mg base CX0 5 fa fd ["script"] (lift (K w.params) sa2)) :
    PySem.W.WalkO q loose XP YP l.row.toRowW d [] (λ f vs=>PySem.call f vs) :=
 L2.walk_of (n:=63) (k:=5) (x := "script") (CX:=λ _=>CX0) (sp:=λ w=>lift (K w.params) sa2) hn [20] hdf ⟨rfl,by decide,by decide⟩ hY F (λ _ _ a ns hl hO hS=>we2 hO hS ⟨ns,rfl,hl,λ _=>rfl⟩) λ _ _ _ _ _ z=>z
end Pv
open PySem PySem.W PyProof.Rows
set_option maxRecDepth 100000 in
set_option maxHeartbeats 0 in
theorem PySem.Challenge.cw_penwright_k62_whole_how_many_rooms_holds : PySem.Challenge.rw_penwright_k62_whole_how_many_rooms.Holds := by
 w_on
 refine PySem.W.holds_law Pv.h_said λ said=>?_;refine PySem.W.holds_open (YP:=PySem.W.Hook.says (kHook Pv.KK Pv.KA Pv.ke)) Pv.h_left (PySem.W.Hook.of (kHook Pv.KK Pv.KA Pv.ke)) (PySem.W.Hook.keeps (kHook Pv.KK Pv.KA Pv.ke)) (λ s e=>PySem.W.xl_of s (Bool.and_eq_true_iff.mp e).1) PySem.W.XL.keeps (by rfl) (by rfl) (by rfl) (λ s e=>PySem.W.recFacts_of (Bool.and_eq_true_iff.mp e).2) (by rfl) said (by decide +kernel) ⟨rfl,rfl,rfl,rfl,rfl,by decide +kernel⟩ ?hw ?hc
 case hw=>w_witness2
 k_fill
 refine Pv.walk (l:=PySem.Challenge.rw_penwright_k62_whole_how_many_rooms) rfl rfl (λ w h Y=>PySem.W.kIn_of Y) ?F
 case F =>
  intro w mg fa h KX G hmg;refine' Pv.all_mk KX G hmg ?a_q6 ?A_q6 ?a_q8 ?A_q8 ?a_q9 ?A_q9 ?jal ?jam ?jan ?jao ?a_q7 ?A_q7 ?a_q5 ?A_q5 ?jap ?jaq ?jar ?jas ?jat ?jau ?a_q3 ?A_q3 ?a_q4 ?A_q4 ?a_q1 ?A_q1 ?a_q0 ?A_q0 ?a_q2 ?A_q2 ?jak ?jav ?jaf ?ql_1 ?jaa ?jae ?jag ?jah ?jai ?jac ?jaj ?jab ?jad
  (case jaf | ql_1 | jaa | jae | jag | jah | jai | jac | jaj | jab | jad=>k_is)
  (case a_q6 | a_q8 | a_q9 | jal | jan | a_q7 | a_q5 | jap | jar | jat | a_q3 | a_q4 | a_q1 | a_q0 | a_q2 | jak=>(show _=_; k_is))
  (case A_q6 | A_q8 | A_q9 | jam | jao | A_q7 | A_q5 | jaq | jas | jau | A_q3 | A_q4 | A_q1 | A_q0 | A_q2 | jav=>(refine' Pv.fnA_mk ?l ?c ?k; (case l=>k_is); (case c=>k_is); (case k=>k_is)))
