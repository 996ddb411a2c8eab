import PyProof.Rows.All
import Wide.All
import OpenK.AllK
import Wide.FinOn
import Lean
import PyProof.EqAt
import PyProof.EqKinds
import PyProof.TupleCall
import PyProof.P3Statements
import KE.KIntText
import KE.KRevSl
import KE.KSortTup
import KE.KDictSum
import KE.KIsAll
import PyProof.ExcAttrAll.ValueError
import PySem.Challenge.RW_penwright_k66_pictures_refused
open List(length_map length_append getElem?_eq_getElem append_assoc length_cons map_cons getElem?_append_right mem_singleton length_take size_toArray getD_eq_getElem?_getD append_nil mem_cons_of_mem mem_append_right map_append length_nil mem_cons_self getElem?_map mem_append_left getElem?_append_left take_append_drop length_singleton map_map pairwise_singleton mem_of_getElem? length_drop nil_append find?_cons mem_cons getElem?_take_of_lt flatten_cons getElem_mem length_reverse filter_cons any_cons take_zero take_of_length_le length_filter_le not_mem_nil replicate_succ mem_of_mem_take getElem?_cons_succ map_nil foldl_cons lookup_cons drop_sublist getElem?_drop drop_eq_nil_of_le nodup_nil filter_append mem_filter filterMap_cons getElem?_set_ne take_sublist mem_of_mem_drop nodup_append mem_append of_mem_zip length_range ext_getElem? reverse_perm ext_getElem nodup_cons)
open Array(length_toList getElem?_toList toList_append getElem?_eq_none toList_push toList_extract size_map)
set_option Elab.async false
set_option linter.all false
set_option maxRecDepth 100000
set_option maxHeartbeats 4000000
open PySem.W (fnOf kHook methodObj hideAll hideAll_get of_hideAll findIn specialIn takesIn mroIn keepIn callWith_K cellsFrom_some codeIn codeRec_of nsIn mg_of clsIn looks_findIn looks_mroIn kitOne kitCls kit_cls excIn typeIn subIn mg_none_of)
open PySem.F (slot_tuple_add entry_tuple_add args_tuple_add_2 slot_dict_get entry_dict_get excBase_ValueError slot_dict_pop type_dict_pop type_dict_get)
noncomputable section
set_option compiler.extract_closed false
set_option hygiene false
local macro_rules|`([1])=>`(by omega)|`([2])=>`(⟨rfl,rfl,rfl,by decide +kernel,rfl,by decide +kernel,by decide +kernel⟩)|`([3])=>`(envOfC qual scope s0.heap.objs.size f cd)|`([4])=>`(Value->Shared->Prop)|`([5])=>`(model prog w)|`([6])=>`(((s.heap.push (seqObj "list" #[] 0)).update s.heap.objs.size (Obj.mapSeq (· ++ vs.toArray))))|`([7])=>`(Inv X pins σ H s)|`([8])=>`(List (Addr × Obj))|`([9])=>`(by decide)|`([10])=>`(model X.prog X.w)|`([11])=>`(cxOf (CXn P w) P w K mg base N qual scope f cd A outer s0 H0 E)|`([12])=>`(by decide +kernel)|`([13])=>`(yd0 X NN scope cl C fp s₀ H₀ pn)|`([14])=>`(.ListComp elt [⟨target,iter,ifs,0⟩] scope pos)|`([15])=>`(uc0 q_ix (ya0 0) ua0)|`([16])=>`((s.heap.update a (Obj.mapSeq λ _=>(#[]:Array Value))).push (seqObj "tuple" vs.toArray 0))|`([17])=>`(List.toArray (List.range vs.length))|`([18])=>`(List (List Int × D))|`([19])=>`(c3 (.int 0))|`([20])=>`(by simp)|`([21])=>`(c3 (.int 1))|`([22])=>`(List Value)|`([23])=>`(Str->Option Value)|`([24])=>`((e :: es).length + ([]:List Keyword).length + (if ([]:List Keyword).isEmpty then 0 else 1) < 30)|`([25])=>`(x == ("__debug__" : Str))|`([26])=>`(Nat.le_refl _)|`([27])=>`(vs.toArray.zip vs.toArray)|`([28])=>`(cons3 (v3 0) nil3)|`([29])=>`((false,eval e X.env))|`([30])=>`(Cm prog w A s κ lt M)|`([31])=>`((grid (u0 - 1) (v0 - 1) w h).map λ t=>(ptk t,.bl true))|`([32])=>`(wpAny_pure ?_)|`([33])=>`(.lst [.tup [.int 0,.int 0,.int 2],.tup [.int 0,.int 0,.int (-1)],.tup [.int 0,.int 0,.int (10 ^ (20:Int).toNat)],.tup [.int 0,.int 0],.tup [],.tup [.int 0,.int 0,.int 0,.int 0]])|`([34])=>`(Option Nat)|`([35])=>`(∀ sl wd,k ∉ xs.map (·.1)->sl ∉ t.place.toList->(∃ m,tr t.mask (hf k) m=sl /\ ∀ l,l < m->Occ t (tr t.mask (hf k) l))->(wd=true->t.slot sl=.dummy)->Q (.free sl wd) s)|`([36])=>`(hs.2 b (Nat.ne_of_lt (Nat.lt_of_lt_of_le (Heap.lt_size e) I.ok.above)))|`([37])=>`(List Keyed)|`([38])=>`(ts.map encT)|`([39])=>`(Shared)
theorem Z0:4<=PySem.sizeLine:=by decide
namespace L2
open PySem PySem.Spec PyProof.Rows
def si0 (s:Stmt):Arguments:=match s with
 | .FunctionDef _ a _ _ _ _ _ _ _ _=>a
 | _=>{ posonlyargs:=[],args:=[],vararg:=none,kwonlyargs:=[],kw_defaults:=[],kwarg:=none,defaults:=[] }
def vb0 (s:Stmt):List Stmt:=match s with
 | .FunctionDef _ _ b _ _ _ _ _ _ _=>b
 | _=>[]
def va0 (s:Stmt):Scope:=match s with
 | .FunctionDef _ _ _ _ _ _ sc _ _ _=>sc
 | _=>{ kind:=.function,names:=[],isGenerator:=false,isCoroutine:=false }
end L2
namespace Pv
open PySem PySem.Spec PyProof.Rows L2
noncomputable def top (i:Nat):Stmt:=PySem.Challenge.pw_penwright_k66_pictures_refused.main.body.getD i (.Pass ⟨0,0,0,0⟩)
abbrev xe4:Stmt:=top 19
abbrev vd4:Stmt:=top 20
abbrev wd4:Stmt:=top 21
abbrev zd4:Stmt:=top 22
abbrev ye4:Stmt:=top 23
abbrev ud4:Stmt:=top 24
abbrev sd4:Stmt:=top 25
abbrev td4:Stmt:=top 26
abbrev ze4:Stmt:=top 41
abbrev yq1:Stmt:=top 10
abbrev sp1:Stmt:=top 11
abbrev tp1:Stmt:=top 12
abbrev zp1:Stmt:=top 13
abbrev yp1:Stmt:=top 15
abbrev wo1:Stmt:=top 16
abbrev xp1:Stmt:=top 17
abbrev yo1:Stmt:=top 18
abbrev uo1:Stmt:=top 29
abbrev xq1:Stmt:=top 30
abbrev s_q9:Stmt:=top 31
abbrev zo1:Stmt:=top 32
abbrev vp1:Stmt:=top 33
abbrev vo1:Stmt:=top 34
abbrev to1:Stmt:=top 35
abbrev wp1:Stmt:=top 36
abbrev xo1:Stmt:=top 37
abbrev s_q8:Stmt:=top 38
abbrev up1:Stmt:=top 39
abbrev s_q7:Stmt:=top 40
abbrev s_q4:Stmt:=top 43
abbrev s_q5:Stmt:=top 44
abbrev s_q3:Stmt:=top 45
abbrev s_q6:Stmt:=top 46
abbrev s_q0:Stmt:=top 47
abbrev s_q2:Stmt:=top 48
abbrev s_q1:Stmt:=top 49
abbrev vq0:Stmt:=top 50
abbrev vb:Value:=.bool true
abbrev vi:Value:=.int 181 0
noncomputable def en (P:Params) (x:Str) (t:Tok) (v:Value):DictEntry:=⟨PyData.keyHash P x,.str x t,v⟩
noncomputable def fo (x y:Str) (st:Stmt) (m c:Value):Obj:=⟨.type "function",none,.func (fnOf x y (si0 st) (vb0 st) (va0 st) .none .none .none m none c .none),#[]⟩
noncomputable def co (x:Str) (a:Tok) (y:Str) (b c:Tok) (ns:List Int) (vs:[22]) (d e:Int) (f:Tok):Obj:=⟨.type "code",none,.fields (.str x a :: .str y b :: .str "/claim/cut.py" c :: (ns.map (λ n=>Value.int n 0) ++ (vs ++ [.int d 0,.int e 0,.str "/claim/cut.py" f]))).toArray,#[]⟩
noncomputable def tO (vs:[22]):Obj:=⟨.type "tuple",none,.seq vs.toArray 0,#[]⟩
abbrev z6:Value:=.str "law_penwright_k66_pictures_refused" 559
def z7 (x:Str) (s:Stmt) (c:Addr):Obj:=fo x x s z6 (.ref c)
def z8 (x:Str) (a:Tok):=co x a x
def z9 (P:Params) (x:Str) (t:Tok) (a:Addr):DictEntry:=en P x t (.ref a)
def Z1 (x:Str):=fo x x
abbrev Z2:Value:=.str "penwright.errors" 187
abbrev Z3:Value:=.str "penwright.pictures" 303
abbrev Z4:Value:=.str "penwright.trails" 337
abbrev Z5:Value:=.str "penwright.rooms" 451
noncomputable def KK:PySem.Params->PySem.W.Frag:=λ P=>(nat_lit 2,⟨.none,none,.dict #[] 0,#[]⟩) :: (nat_lit 3,⟨.type "dict",none,.dict #[en P "__name__" 165 z6,en P "__doc__" 166 (.none),en P "__package__" 167 (.none),en P "__loader__" 168 (.builtin "__main__.__loader__#opaque"),en P "__spec__" 169 (.none),z9 P "__annotations__" 170 6,z9 P "__builtins__" 171 4,en P "__file__" 173 (.str "/claim/cut.py" 172),en P "__cached__" 174 (.none),z9 P "PenError" 206 24,z9 P "NoWord" 222 37,z9 P "NoPicture" 238 49,z9 P "NoRoom" 254 61,z9 P "NoStep" 270 73,z9 P "NoNumber" 286 85,z9 P "BadNote" 302 97,z9 P "WAYS" 307 100,z9 P "check_picture" 316 107,z9 P "check_stroke" 323 114,z9 P "ends_of" 330 121,z9 P "picture_box" 336 126,z9 P "picture_pieces" 349 133,z9 P "strokes_at" 359 140,z9 P "piece_with" 372 147,z9 P "take_unseen" 378 152,z9 P "odd_points" 384 157,z9 P "trails_of" 393 164,z9 P "trails_of_piece" 399 169,z9 P "way_along" 413 176,z9 P "links_at" 423 183,z9 P "take_unused" 432 190,z9 P "other_end" 440 197,z9 P "parted_at_bridges" 450 204,en P "MOST_CELLS" 454 (.int 2500 453),z9 P "rooms_of" 460 209,z9 P "check_size" 467 216,z9 P "cells_round" 473 221,z9 P "take_cells" 486 228,z9 P "neighbours_of" 492 233,z9 P "sides_of_cell" 505 240,z9 P "room_at" 513 247,z9 P "numbers_of_cells" 523 254,z9 P "walls_of" 529 259,z9 P "cells_beside" 538 266,z9 P "is_ring" 544 271,z9 P "area_of" 550 276,z9 P "crossed" 558 283,z9 P "_law_state" 569 290,z9 P "_law_take" 579 297,z9 P "_law_lines" 594 304,z9 P "_law_which" 602 311,z9 P "_law_asked" 610 318,z9 P "_law_flags" 620 325,z9 P "_law_bad" 631 332,z9 P "law" 637 337] 55,#[]⟩) :: (nat_lit 15,tO [.type "ValueError"]) :: (nat_lit 22,tO []) :: (nat_lit 23,⟨.type "dict",none,.dict #[en P "__module__" 196 Z2,en P "__firstlineno__" 200 (.int 2 199),z9 P "__static_attributes__" 201 22,z9 P "__weakref__" 203 25,en P "__doc__" 204 (.none)] 3,#[]⟩) :: (nat_lit 24,⟨.type "type",none,.cls ⟨"PenError",[.type "ValueError"],[.ref 24,.type "ValueError",.type "Exception",.type "BaseException",.type "object"],23, "PenError",true,[],[.ref 37,.ref 49,.ref 61,.ref 73,.ref 85,.ref 97],false,none,false⟩,#[some (.ref 15),none,some (.str "PenError" 189),some (.str "PenError" 197),some (.builtin "ValueError.__new__"),some (.bool true)]⟩) :: (nat_lit 25,⟨.type "getset_descriptor",none,.fields #[.str "__weakref__" 202,.ref 24,.builtin "ExceptionGroup.__weakref__",.none],#[]⟩) :: (nat_lit 28,tO [.ref 24]) :: (nat_lit 35,tO []) :: (nat_lit 36,⟨.type "dict",none,.dict #[en P "__module__" 214 Z2,en P "__firstlineno__" 218 (.int 4 217),z9 P "__static_attributes__" 219 35,en P "__doc__" 220 (.none)] 2,#[]⟩) :: (nat_lit 37,⟨.type "type",none,.cls ⟨"NoWord",[.ref 24],[.ref 37,.ref 24,.type "ValueError",.type "Exception",.type "BaseException",.type "object"],36, "NoWord",true,[],[],false,none,false⟩,#[some (.ref 28),none,some (.str "NoWord" 207),some (.str "NoWord" 215),some (.builtin "ValueError.__new__"),some (.bool true)]⟩) :: (nat_lit 40,tO [.ref 24]) :: (nat_lit 47,tO []) :: (nat_lit 48,⟨.type "dict",none,.dict #[en P "__module__" 230 Z2,en P "__firstlineno__" 234 (.int 6 233),z9 P "__static_attributes__" 235 47,en P "__doc__" 236 (.none)] 2,#[]⟩) :: (nat_lit 49,⟨.type "type",none,.cls ⟨"NoPicture",[.ref 24],[.ref 49,.ref 24,.type "ValueError",.type "Exception",.type "BaseException",.type "object"],48, "NoPicture",true,[],[],false,none,false⟩,#[some (.ref 40),none,some (.str "NoPicture" 223),some (.str "NoPicture" 231),some (.builtin "ValueError.__new__"),some (.bool true)]⟩) :: (nat_lit 52,tO [.ref 24]) :: (nat_lit 59,tO []) :: (nat_lit 60,⟨.type "dict",none,.dict #[en P "__module__" 246 Z2,en P "__firstlineno__" 250 (.int 8 249),z9 P "__static_attributes__" 251 59,en P "__doc__" 252 (.none)] 2,#[]⟩) :: (nat_lit 61,⟨.type "type",none,.cls ⟨"NoRoom",[.ref 24],[.ref 61,.ref 24,.type "ValueError",.type "Exception",.type "BaseException",.type "object"],60, "NoRoom",true,[],[],false,none,false⟩,#[some (.ref 52),none,some (.str "NoRoom" 239),some (.str "NoRoom" 247),some (.builtin "ValueError.__new__"),some (.bool true)]⟩) :: (nat_lit 64,tO [.ref 24]) :: (nat_lit 71,tO []) :: (nat_lit 72,⟨.type "dict",none,.dict #[en P "__module__" 262 Z2,en P "__firstlineno__" 266 (.int 10 265),z9 P "__static_attributes__" 267 71,en P "__doc__" 268 (.none)] 2,#[]⟩) :: (nat_lit 73,⟨.type "type",none,.cls ⟨"NoStep",[.ref 24],[.ref 73,.ref 24,.type "ValueError",.type "Exception",.type "BaseException",.type "object"],72, "NoStep",true,[],[],false,none,false⟩,#[some (.ref 64),none,some (.str "NoStep" 255),some (.str "NoStep" 263),some (.builtin "ValueError.__new__"),some (.bool true)]⟩) :: (nat_lit 76,tO [.ref 24]) :: (nat_lit 83,tO []) :: (nat_lit 84,⟨.type "dict",none,.dict #[en P "__module__" 278 Z2,en P "__firstlineno__" 282 (.int 12 281),z9 P "__static_attributes__" 283 83,en P "__doc__" 284 (.none)] 2,#[]⟩) :: (nat_lit 85,⟨.type "type",none,.cls ⟨"NoNumber",[.ref 24],[.ref 85,.ref 24,.type "ValueError",.type "Exception",.type "BaseException",.type "object"],84, "NoNumber",true,[],[],false,none,false⟩,#[some (.ref 76),none,some (.str "NoNumber" 271),some (.str "NoNumber" 279),some (.builtin "ValueError.__new__"),some (.bool true)]⟩) :: (nat_lit 88,tO [.ref 24]) :: (nat_lit 95,tO []) :: (nat_lit 96,⟨.type "dict",none,.dict #[en P "__module__" 294 Z2,en P "__firstlineno__" 298 (.int 14 297),z9 P "__static_attributes__" 299 95,en P "__doc__" 300 (.none)] 2,#[]⟩) :: (nat_lit 97,⟨.type "type",none,.cls ⟨"BadNote",[.ref 24],[.ref 97,.ref 24,.type "ValueError",.type "Exception",.type "BaseException",.type "object"],96, "BadNote",true,[],[],false,none,false⟩,#[some (.ref 88),none,some (.str "BadNote" 287),some (.str "BadNote" 295),some (.builtin "ValueError.__new__"),some (.bool true)]⟩) :: (nat_lit 100,tO [.int 0 305,.int 1 306]) :: (nat_lit 106,z8 "check_picture" 308 309 310 [18,1,0,0,3] [.ref 101,vb,vi,.ref 102,.none,.ref 103,.ref 104,.ref 105] 314 18 315) :: (nat_lit 107,Z1 "check_picture" yq1 Z3 (.ref 106)) :: (nat_lit 113,z8 "check_stroke" 317 318 319 [24,1,0,0,3] [.ref 108,vb,vi,.ref 109,.none,.ref 110,.ref 111,.ref 112] 321 24 322) :: (nat_lit 114,Z1 "check_stroke" sp1 Z3 (.ref 113)) :: (nat_lit 120,z8 "ends_of" 324 325 326 [27,1,0,0,3] [.ref 115,vb,vi,.ref 116,.none,.ref 117,.ref 118,.ref 119] 328 27 329) :: (nat_lit 121,Z1 "ends_of" tp1 Z3 (.ref 120)) :: (nat_lit 125,z8 "picture_box" 331 332 333 [31,1,0,0,3] [.ref 122,vb,vi,.ref 123,.none,.none,.none,.ref 124] 334 31 335) :: (nat_lit 126,Z1 "picture_box" zp1 Z3 (.ref 125)) :: (nat_lit 132,z8 "picture_pieces" 339 340 341 [39,1,0,0,3] [.ref 127,vb,vi,.ref 128,.none,.ref 129,.ref 130,.ref 131] 347 39 348) :: (nat_lit 133,Z1 "picture_pieces" yp1 Z4 (.ref 132)) :: (nat_lit 139,z8 "strokes_at" 350 351 352 [48,1,0,0,3] [.ref 134,vb,vi,.ref 135,.none,.ref 136,.ref 137,.ref 138] 357 48 358) :: (nat_lit 140,Z1 "strokes_at" wo1 Z4 (.ref 139)) :: (nat_lit 146,z8 "piece_with" 360 361 362 [54,3,0,0,3] [.ref 141,vb,vi,.ref 142,.none,.ref 143,.ref 144,.ref 145] 370 54 371) :: (nat_lit 147,Z1 "piece_with" xp1 Z4 (.ref 146)) :: (nat_lit 151,z8 "take_unseen" 373 374 375 [64,2,0,0,3] [.ref 148,vb,vi,.ref 149,.none,.none,.none,.ref 150] 376 64 377) :: (nat_lit 152,Z1 "take_unseen" yo1 Z4 (.ref 151)) :: (nat_lit 156,z8 "odd_points" 379 380 381 [69,1,0,0,3] [.ref 153,vb,vi,.ref 154,.none,.none,.none,.ref 155] 382 69 383) :: (nat_lit 157,Z1 "odd_points" xe4 Z4 (.ref 156)) :: (nat_lit 163,z8 "trails_of" 385 386 387 [73,1,0,0,3] [.ref 158,vb,vi,.ref 159,.none,.ref 160,.ref 161,.ref 162] 391 73 392) :: (nat_lit 164,Z1 "trails_of" vd4 Z4 (.ref 163)) :: (nat_lit 168,z8 "trails_of_piece" 394 395 396 [78,1,0,0,3] [.ref 165,vb,vi,.ref 166,.none,.none,.none,.ref 167] 397 78 398) :: (nat_lit 169,Z1 "trails_of_piece" wd4 Z4 (.ref 168)) :: (nat_lit 175,z8 "way_along" 400 401 402 [84,2,0,0,3] [.ref 170,vb,vi,.ref 171,.none,.ref 172,.ref 173,.ref 174] 411 84 412) :: (nat_lit 176,Z1 "way_along" zd4 Z4 (.ref 175)) :: (nat_lit 182,z8 "links_at" 414 415 416 [98,1,0,0,3] [.ref 177,vb,vi,.ref 178,.none,.ref 179,.ref 180,.ref 181] 421 98 422) :: (nat_lit 183,Z1 "links_at" ye4 Z4 (.ref 182)) :: (nat_lit 189,z8 "take_unused" 424 425 426 [104,2,0,0,3] [.ref 184,vb,vi,.ref 185,.none,.ref 186,.ref 187,.ref 188] 430 104 431) :: (nat_lit 190,Z1 "take_unused" ud4 Z4 (.ref 189)) :: (nat_lit 196,z8 "other_end" 433 434 435 [110,2,0,0,3] [.ref 191,vb,vi,.ref 192,.none,.ref 193,.ref 194,.ref 195] 438 110 439) :: (nat_lit 197,Z1 "other_end" sd4 Z4 (.ref 196)) :: (nat_lit 203,z8 "parted_at_bridges" 441 442 443 [112,2,0,0,3] [.ref 198,vb,vi,.ref 199,.none,.ref 200,.ref 201,.ref 202] 448 112 449) :: (nat_lit 204,Z1 "parted_at_bridges" td4 Z4 (.ref 203)) :: (nat_lit 208,z8 "rooms_of" 455 456 457 [121,1,0,0,3] [.ref 205,vb,vi,.ref 206,.none,.none,.none,.ref 207] 458 121 459) :: (nat_lit 209,Z1 "rooms_of" uo1 Z5 (.ref 208)) :: (nat_lit 215,z8 "check_size" 461 462 463 [135,1,0,0,3] [.ref 210,vb,vi,.ref 211,.none,.ref 212,.ref 213,.ref 214] 465 135 466) :: (nat_lit 216,Z1 "check_size" xq1 Z5 (.ref 215)) :: (nat_lit 220,z8 "cells_round" 468 469 470 [138,1,0,0,3] [.ref 217,vb,vi,.ref 218,.none,.none,.none,.ref 219] 471 138 472) :: (nat_lit 221,Z1 "cells_round" s_q9 Z5 (.ref 220)) :: (nat_lit 227,z8 "take_cells" 474 475 476 [143,3,0,0,3] [.ref 222,vb,vi,.ref 223,.none,.ref 224,.ref 225,.ref 226] 484 143 485) :: (nat_lit 228,Z1 "take_cells" zo1 Z5 (.ref 227)) :: (nat_lit 232,z8 "neighbours_of" 487 488 489 [155,2,0,0,3] [.ref 229,vb,vi,.ref 230,.none,.none,.none,.ref 231] 490 155 491) :: (nat_lit 233,Z1 "neighbours_of" vp1 Z5 (.ref 232)) :: (nat_lit 239,z8 "sides_of_cell" 493 494 495 [157,1,0,0,3] [.ref 234,vb,vi,.ref 235,.none,.ref 236,.ref 237,.ref 238] 503 157 504) :: (nat_lit 240,Z1 "sides_of_cell" vo1 Z5 (.ref 239)) :: (nat_lit 246,z8 "room_at" 506 507 508 [165,2,0,0,3] [.ref 241,vb,vi,.ref 242,.none,.ref 243,.ref 244,.ref 245] 511 165 512) :: (nat_lit 247,Z1 "room_at" to1 Z5 (.ref 246)) :: (nat_lit 253,z8 "numbers_of_cells" 514 515 516 [167,1,0,0,3] [.ref 248,vb,vi,.ref 249,.none,.ref 250,.ref 251,.ref 252] 521 167 522) :: (nat_lit 254,Z1 "numbers_of_cells" wp1 Z5 (.ref 253)) :: (nat_lit 258,z8 "walls_of" 524 525 526 [173,1,0,0,3] [.ref 255,vb,vi,.ref 256,.none,.none,.none,.ref 257] 527 173 528) :: (nat_lit 259,Z1 "walls_of" xo1 Z5 (.ref 258)) :: (nat_lit 265,z8 "cells_beside" 530 531 532 [184,1,0,0,3] [.ref 260,vb,vi,.ref 261,.none,.ref 262,.ref 263,.ref 264] 536 184 537) :: (nat_lit 266,Z1 "cells_beside" s_q8 Z5 (.ref 265)) :: (nat_lit 270,z8 "is_ring" 539 540 541 [190,1,0,0,3] [.ref 267,vb,vi,.ref 268,.none,.none,.none,.ref 269] 542 190 543) :: (nat_lit 271,Z1 "is_ring" up1 Z5 (.ref 270)) :: (nat_lit 275,z8 "area_of" 545 546 547 [194,1,0,0,3] [.ref 272,vb,vi,.ref 273,.none,.none,.none,.ref 274] 548 194 549) :: (nat_lit 276,Z1 "area_of" s_q7 Z5 (.ref 275)) :: (nat_lit 282,z8 "crossed" 551 552 553 [199,2,0,0,3] [.ref 277,vb,vi,.ref 278,.none,.ref 279,.ref 280,.ref 281] 556 199 557) :: (nat_lit 283,Z1 "crossed" ze4 Z5 (.ref 282)) :: (nat_lit 289,z8 "_law_state" 561 562 563 [202,2,0,0,3] [.ref 284,vb,vi,.ref 285,.none,.ref 286,.ref 287,.ref 288] 567 202 568) :: (nat_lit 290,z7 "_law_state" s_q4 289) :: (nat_lit 296,z8 "_law_take" 570 571 572 [209,2,0,0,3] [.ref 291,vb,vi,.ref 292,.none,.ref 293,.ref 294,.ref 295] 577 209 578) :: (nat_lit 297,z7 "_law_take" s_q5 296) :: (nat_lit 303,z8 "_law_lines" 580 581 582 [219,2,0,0,3] [.ref 298,vb,vi,.ref 299,.none,.ref 300,.ref 301,.ref 302] 592 219 593) :: (nat_lit 304,z7 "_law_lines" s_q3 303) :: (nat_lit 310,z8 "_law_which" 595 596 597 [232,1,0,0,3] [.ref 305,vb,vi,.ref 306,.none,.ref 307,.ref 308,.ref 309] 600 232 601) :: (nat_lit 311,z7 "_law_which" s_q6 310) :: (nat_lit 317,z8 "_law_asked" 603 604 605 [235,2,0,0,3] [.ref 312,vb,vi,.ref 313,.none,.ref 314,.ref 315,.ref 316] 608 235 609) :: (nat_lit 318,z7 "_law_asked" s_q0 317) :: (nat_lit 324,z8 "_law_flags" 611 612 613 [246,2,0,0,3] [.ref 319,vb,vi,.ref 320,.none,.ref 321,.ref 322,.ref 323] 618 246 619) :: (nat_lit 325,z7 "_law_flags" s_q2 324) :: (nat_lit 331,z8 "_law_bad" 621 622 623 [253,2,0,0,3] [.ref 326,vb,vi,.ref 327,.none,.ref 328,.ref 329,.ref 330] 629 253 630) :: (nat_lit 332,z7 "_law_bad" s_q1 331) :: (nat_lit 336,z8 "law" 632 633 634 [262,1,0,0,3] [.ref 333,vb,vi,.ref 334,.none,.none,.none,.ref 335] 635 262 636) :: (nat_lit 337,z7 "law" vq0 336) :: []
noncomputable def KA:List Addr:=[2,3,15,22,23,24,25,28,35,36,37,40,47,48,49,52,59,60,61,64,71,72,73,76,83,84,85,88,95,96,97,100,106,107,113,114,120,121,125,126,132,133,139,140,146,147,151,152,156,157,163,164,168,169,175,176,182,183,189,190,196,197,203,204,208,209,215,216,220,221,227,228,232,233,239,240,246,247,253,254,258,259,265,266,270,271,275,276,282,283,289,290,296,297,303,304,310,311,317,318,324,325,331,332,336,337]
theorem ke:∀ P,KA=(KK P).map (·.1):=λ _=>by kernel_rfl
noncomputable def vw:Program:={ PySem.Challenge.pw_penwright_k66_pictures_refused with main:={ PySem.Challenge.pw_penwright_k66_pictures_refused.main with body:=[top 1,top 2,top 3,top 4,top 5,top 6,top 7,top 9,top 10,top 11,top 12,top 13,top 15,top 16,top 17,top 18,top 19,top 20,top 21,top 22,top 23,top 24,top 25,top 26,top 28,top 29,top 30,top 31,top 32,top 33,top 34,top 35,top 36,top 37,top 38,top 39,top 40,top 41,top 43,top 44,top 45,top 46,top 47,top 48,top 49,top 50] } }
theorem h_said:PySem.Challenge.rw_penwright_k66_pictures_refused.wellSaid=true:=by kernel_rfl
theorem h_left:PySem.W.LeftO (PySem.W.OpenLaw.row PySem.Challenge.rw_penwright_k66_pictures_refused).prog vw [] (λ s=>PySem.W.xlAt vw [] s && PySem.W.recOk (PySem.W.RowW.records (PySem.W.OpenRow.toRowW (PySem.W.OpenLaw.row PySem.Challenge.rw_penwright_k66_pictures_refused))) s) (PySem.W.Hook.obs (kHook KK KA ke)) (PySem.W.Hook.val (kHook KK KA ke)) 5414:=by
 intro w
 delta PySem.W.openEnds PySem.W.fencedOpening PySem.W.topFrom
 rw [PySem.W.Fast.te14082659384304107361,PySem.W.Fast.te10274390034422433532,PySem.W.Fast.te14289696077712309145,PySem.W.Fast.te1435165496053646825,PySem.W.Fast.te14364793385576792824,PySem.W.Fast.te4187177175401517315]
 kernel_rfl
end Pv
namespace L2
open PySem PySem.Spec PyProof.Rows
abbrev Key:=Sum Int Str
def yr1:Key->Value->Bool
 | .inl k,v=>Value.isInt k v
 | .inr x,v=>Value.isStrOf x v
def keyH (w:World):Key->Int
 | .inl k=>hashInt k
 | .inr x=>hashStr w x
theorem td0:∀ {k:Key} {v:Value},yr1 k v=true->(∃ i t,k=Sum.inl i /\ v=Value.int i t) \/ (∃ x t,k=Sum.inr x /\ v=Value.str x t)
 | .inl i,v,h=>by
  obtain ⟨t,e⟩:=Value.isInt_shape (k:=i) (v:=v) h;exact .inl ⟨i,t,rfl,e⟩
 | .inr x,v,h=>by
  obtain ⟨t,e⟩:=Value.isStrOf_shape (x:=x) (v:=v) h;exact .inr ⟨x,t,rfl,e⟩
theorem sz1 (i:Int) (t:Tok):yr1 (.inl i) (.int i t)=true:=by simp [yr1,Value.isInt]
theorem tz1 (x:Str) (t:Tok):yr1 (.inr x) (.str x t)=true:=by simp [yr1,Value.isStrOf]
theorem wy3 (a b:Int):decide ((Sum.inl a:Key)=Sum.inl b)=(a == b):=by
 by_cases e:a=b
 ·subst e; simp
 ·have h:¬ (Sum.inl a:Key)=Sum.inl b:=λ q=>e (Sum.inl.inj q);rw [decide_eq_false h];exact (beq_eq_false_iff_ne.mpr e).symm
theorem xy3 (a b:Str):decide ((Sum.inr a:Key)=Sum.inr b)=decide (a=b):=by
 by_cases e:a=b
 ·subst e; simp
 ·have h:¬ (Sum.inr a:Key)=Sum.inr b:=λ q=>e (Sum.inr.inj q);rw [decide_eq_false h,decide_eq_false e]
theorem zy3 (a:Int) (b:Str):decide ((Sum.inl a:Key)=Sum.inr b)=false:=decide_eq_false (λ q=>nomatch q)
theorem yy3 (a:Str) (b:Int):decide ((Sum.inr a:Key)=Sum.inl b)=false:=decide_eq_false (λ q=>nomatch q)
def wc0 (prog:Program) (w:World):PySem.KeyKind prog w Key where
 is:=yr1
 hash:=keyH w
 inj:=λ v a b ha hb=>by
  rcases td0 ha with ⟨i,t,rfl,rfl⟩ | ⟨x,t,rfl,rfl⟩
  ·rcases td0 hb with ⟨j,u,rfl,e⟩ | ⟨y,u,rfl,e⟩
   ·injection e with e1 _; rw [e1]
   ·exact nomatch e
  ·rcases td0 hb with ⟨j,u,rfl,e⟩ | ⟨y,u,rfl,e⟩
   ·exact nomatch e
   ·injection e with e1 _; rw [e1]
 byValue:=λ k v h=>by
  rcases td0 h with ⟨i,t,rfl,rfl⟩ | ⟨x,t,rfl,rfl⟩ <;> rfl
 pyHash:=λ hv h=>by
  rcases td0 hv with ⟨i,t,rfl,rfl⟩ | ⟨x,t,rfl,rfl⟩
  ·exact wpAny_pyHash_int h
  ·exact wpAny_pyHash_str h
 eqBool:=λ hu hv h=>by
  rcases td0 hu with ⟨i,t,rfl,rfl⟩ | ⟨x,t,rfl,rfl⟩
  ·rcases td0 hv with ⟨j,u,rfl,rfl⟩ | ⟨y,u,rfl,rfl⟩
   ·rw [wy3] at h; exact wpAny_eqBool_int h
   ·rw [zy3] at h; exact SeqAt.EqAt.int_str i t y u _ _ _ _ h
  ·rcases td0 hv with ⟨j,u,rfl,rfl⟩ | ⟨y,u,rfl,rfl⟩
   ·rw [yy3] at h; exact SeqAt.EqAt.str_int x t j u _ _ _ _ h
   ·rw [xy3] at h; exact wpAny_eqBool_str h
 «strs» := λ k x t v h=>by
  rcases td0 h with ⟨i,u,rfl,e⟩ | ⟨y,u,rfl,e⟩
  ·exact nomatch e
  ·injection e with e1 _
   subst e1;cases v <;> rfl
theorem ug1 (prog:Program) (w:World) (i:Int) (t:Tok):(wc0 prog w).is (.inl i) (.int i t)=true:=sz1 i t
theorem vg1 (prog:Program) (w:World) (x:Str) (t:Tok):(wc0 prog w).is (.inr x) (.str x t)=true:=tz1 x t
inductive V where
 | non | bl (b:Bool) | int (i:Int) | str (x:Str) | byt (b:Array UInt8) | flt (b:UInt64) | ref (a:Addr) | ty (n:String)
 deriving DecidableEq
def RelV:V->Value->Prop
 | .non,u=>u=Value.none
 | .bl b,u=>u=Value.bool b
 | .int i,u=>∃ t,u=Value.int i t
 | .str x,u=>∃ t,u=Value.str x t
 | .byt b,u=>∃ t,u=Value.bytes b t
 | .flt b,u=>∃ t,u=Value.float b t
 | .ref a,u=>u=Value.ref a
 | .ty n,u=>u=Value.type n
abbrev Vals:List V->List Value->Prop:=Paired RelV
theorem Vals.length {xs:List V} {us:[22]} (r:Vals xs us):xs.length=us.length:=Paired.length r
theorem Vals.get:∀ {xs:List V} {us:[22]} {i:Nat} {x:V},Vals xs us->xs[i]?=some x->∃ u,us[i]?=some u /\ RelV x u
 | _,_,_,_,.nil,e=>by simp at e
 | _,_,0,_,.cons r _,e=>by simp at e; subst e; exact ⟨_,rfl,r⟩
 | _,_,i + 1,x,.cons _ t,e=>by
  obtain ⟨u,h1,h2⟩:=Vals.get (i:=i) (x:=x) t (by simpa using e);exact ⟨u,by simpa using h1,h2⟩
theorem Vals.set {x:V} {u:Value} (r:RelV x u):∀ {xs:List V} {us:[22]} (i:Nat),Vals xs us->Vals (xs.set i x) (us.set i u)
 | _,_,_,.nil=>.nil
 | _,_,0,.cons _ t=>.cons r t
 | _,_,i + 1,.cons q t=>.cons q (Vals.set r i t)
theorem Vals.append:∀ {xs ys:List V} {us ws:[22]},Vals xs us->Vals ys ws->Vals (xs ++ ys) (us ++ ws)
 | _,_,_,_,.nil,s=>s
 | _,_,_,_,.cons r t,s=>.cons r (Vals.append t s)
theorem Vals.take:∀ {xs:List V} {us:[22]} (n:Nat),Vals xs us->Vals (xs.take n) (us.take n)
 | _,_,0,_=>.nil
 | _,_,_ + 1,.nil=>.nil
 | _,_,n + 1,.cons r t=>.cons r (Vals.take n t)
theorem Vals.drop:∀ {xs:List V} {us:[22]} (n:Nat),Vals xs us->Vals (xs.drop n) (us.drop n)
 | _,_,0,r=>r
 | _,_,_ + 1,.nil=>.nil
 | _,_,n + 1,.cons _ t=>Vals.drop n t
def RelO:Option V->Option Value->Prop
 | some v,some u=>RelV v u
 | none,none=>True
 | _,_=>False
def KV {κ:Type}:List (κ × V)->List (κ × Value)->Prop:=Paired λ (p:κ × V) (q:κ × Value)=>p.1=q.1 /\ RelV p.2 q.2
def kV:Key->V
 | .inl i=>.int i
 | .inr x=>.str x
inductive HO where
 | lst (xs:List V)
 | tup (xs:List V)
 | dK (kvs:List (Key × V)) | dT (kvs:List (List Key × V))
 | set (S:Int->Bool) (n:Nat)
 | ins (C dx:Addr) (fs:List (Str × V))
 | own (x:Addr)
 | xd (fs:List (Str × V))
 | met (f x:Addr)
 | rng (lo hi:Int)
 | frz (o:Obj) (u:HO)
 | tbl (ps:Array Value)
 | ext (φ:Heap->Prop)
abbrev Hp:=Addr->Option HO
def upd (H:Hp) (a:Addr) (o:HO):Hp:=λ b=>if b=a then some o else H b
theorem sd0 {H:Hp} {a:Addr} {o:HO}:upd H a o a=some o:=by unfold upd; rw [if_pos rfl]
theorem yc0 {H:Hp} {a b:Addr} {o:HO} (h:b ≠ a):upd H a o b=H b:=by unfold upd; rw [if_neg h]
theorem ss2 {H:Hp} {a:Addr} {o u:HO}:upd (upd H a o) a u=upd H a u:=by
 funext b; unfold upd; split <;> rfl
theorem wg1 {H:Hp} {a b:Addr} {o u:HO} (h:H a=some o) (h':H b=some u) (d:o ≠ u):a ≠ b:=by
 intro e; subst e; rw [h] at h'; exact d (Option.some.inj h')
theorem xf0 {H:Hp} {a b:Addr} {o:HO} (h:H a=some o) (h':H b=none):a ≠ b:=by
 intro e; subst e; rw [h] at h'; cases h'
section
variable (P:Program) (w:World)
def ObjOk (H:Hp) (h:Heap) (a:Addr):HO->Prop
 | .lst xs=>xs.length<=sizeLine /\ ∃ (its:[22]) (n:Nat),Vals xs its /\ h.get? a=some { cls:=.type "list",data:=.seq its.toArray n }
 | .tup xs=>xs.length<=sizeLine /\ ∃ its:List Value,Vals xs its /\ IsTup h a its.toArray
 | .dK kvs=>kvs.length<=sizeLine /\ (a == sysModules)=false /\ ∃ vs,KV kvs vs /\ h.DictOf (wc0 P w) a vs
 | .dT kvs=>kvs.length<=sizeLine /\ (a == sysModules)=false /\ ∃ xs:List (List Key × Addr × Value),
     Paired (λ (p:List Key × V) (q:List Key × Addr × Value)=>p.1=q.1 /\ H q.2.1=some (.tup (p.1.map kV)) /\ RelV p.2 q.2.2) kvs xs ∧
     ∃ o es ep,h.get? a=some o /\ o.ExactDict /\ o.data=.dict es ep /\ es.toList=xs.map (entryOfKey (tupleKind (wc0 P w))) /\ (xs.map (·.1)).Nodup
 | .set S n=>h.SetOf (intKind P w) a S n
 | .ins C dx fs=>H dx=some (.own a) /\ fs.length<=1000 /\ dx ≠ a /\ h.get? a=some (PySem.W.instObj C dx) ∧
     ∃ mA,h.Ns1 dx mA /\ (∀ f,RelO (fs.lookup f) (mA f)) /\ PySem.Within mA (fs.map (·.1))
 | .own _=>∃ o,h.get? a=some o
 | .xd fs=>∃ mA,h.Ns1 a mA /\ ∀ f,RelO (fs.lookup f) (mA f)
 | .rng lo hi=>∃ t u v,h.get? a=some { cls:=.type "range",data:=.fields #[.int lo t,.int hi u,.int 1 v] }
 | .frz o u=>h.get? a=some o /\ ObjOk H h a u
 | .tbl ps=>h.get? a=some { cls:=.none,data:=.fields ps }
 | .met f x=>h.get? a=some (methodObj (.ref f) (.ref x))
 | .ext φ=>φ h /\ (∃ o,h.get? a=some o) /\ ∀ h1 h2:Heap,φ h1->(∀ o,h1.get? a=some o->h2.get? a=some o)->φ h2
def HOk (H:Hp) (h:Heap):Prop:=∀ a o,H a=some o->ObjOk P w H h a o
end
section
variable {P:Program} {w:World} {H H':Hp} {h h':Heap} {a:Addr} {o:HO}
theorem ObjOk.lt (x:ObjOk P w H h a o):a < h.objs.size:=by
 cases o with
 | lst xs=>obtain ⟨_,_,_,_,e⟩:=x; exact Heap.lt_size e
 | tup xs=>obtain ⟨_,_,_,p⟩:=x; exact p.lt
 | dK kvs=>obtain ⟨_,_,_,_,o,_,_,e,_⟩:=x; exact Heap.lt_size e
 | dT kvs=>obtain ⟨_,_,_,_,o,_,_,e,_⟩:=x; exact Heap.lt_size e
 | set S n=>obtain ⟨o,_,_,_,e,_⟩:=x; exact Heap.lt_size e
 | ins C dx fs=>obtain ⟨_,_,_,e,_⟩:=x; exact Heap.lt_size e
 | own y=>obtain ⟨_,e⟩:=x; exact Heap.lt_size e
 | xd fs=>obtain ⟨_,⟨_,_,_,e,_⟩,_⟩:=x; exact Heap.lt_size e
 | rng lo hi=>obtain ⟨_,_,_,e⟩:=x; exact Heap.lt_size e
 | frz ob u=>obtain ⟨e,_⟩:=x; exact Heap.lt_size e
 | tbl ps=>exact Heap.lt_size (show h.get? a=some _ from x)
 | met f y=>exact Heap.lt_size (show h.get? a=some _ from x)
 | ext φ=>obtain ⟨_,⟨_,e⟩,_⟩:=x; exact Heap.lt_size e
theorem Paired.mapP {α β:Type} {F G:α->β->Prop}:∀ {l₁:List α} {l₂:List β},Paired F l₁ l₂->(∀ a b,F a b->G a b)->Paired G l₁ l₂
 | _,_,.nil,_=>.nil
 | _,_,.cons r t,f=>.cons (f _ _ r) (Paired.mapP t f)
theorem ObjOk.stay (x:ObjOk P w H h a o) (k:∀ b u,(b=a \/ H b=some (.own a))->h.get? b=some u->h'.get? b=some u)
    (ho:∀ b,H b=some (.own a)->H' b=some (.own a)) (ht:∀ b xs,H b=some (.tup xs)->H' b=some (.tup xs)):ObjOk P w H' h' a o:=by
 induction o with
 | lst xs=>obtain ⟨z,its,n,r,e⟩:=x; exact ⟨z,its,n,r,k _ _ (.inl rfl) e⟩
 | tup xs=>obtain ⟨z,its,r,ob,e,c⟩:=x; exact ⟨z,its,r,ob,k _ _ (.inl rfl) e,c⟩
 | dK kvs=>obtain ⟨z,y,vs,r,ob,es,ep,e,c⟩:=x; exact ⟨z,y,vs,r,ob,es,ep,k _ _ (.inl rfl) e,c⟩
 | dT kvs =>
  obtain ⟨z,y,xs,r,ob,es,ep,e,c⟩:=x;exact ⟨z,y,xs,Paired.mapP r λ p q z=>⟨z.1,ht _ _ z.2.1,z.2.2⟩,ob,es,ep,k _ _ (.inl rfl) e,c⟩
 | set S n=>obtain ⟨ob,es,ep,t,e,c⟩:=x; exact ⟨ob,es,ep,t,k _ _ (.inl rfl) e,c⟩
 | ins C dx fs =>
  obtain ⟨d,z,ne,e,mA,⟨od,es,ep,e2,c⟩,r⟩:=x;exact ⟨ho _ d,z,ne,k _ _ (.inl rfl) e,mA,⟨od,es,ep,k _ _ (.inr d) e2,c⟩,r⟩
 | own y=>obtain ⟨ob,e⟩:=x; exact ⟨ob,k _ _ (.inl rfl) e⟩
 | xd fs=>obtain ⟨mA,⟨od,es,ep,e,c⟩,r⟩:=x; exact ⟨mA,⟨od,es,ep,k _ _ (.inl rfl) e,c⟩,r⟩
 | rng lo hi=>obtain ⟨t,u,v,e⟩:=x; exact ⟨t,u,v,k _ _ (.inl rfl) e⟩
 | frz ob u ih=>obtain ⟨e,q⟩:=x; exact ⟨k _ _ (.inl rfl) e,ih q⟩
 | tbl ps =>
  have e:h.get? a=some { cls:=.none,data:=.fields ps }:=x;show h'.get? a=some { cls:=.none,data:=.fields ps };exact k a _ (.inl rfl) e
 | met f y =>
  have e:h.get? a=some (methodObj (.ref f) (.ref y)):=x;show h'.get? a=some (methodObj (.ref f) (.ref y));exact k a _ (.inl rfl) e
 | ext φ=>obtain ⟨p,⟨o,e⟩,st⟩:=x; exact ⟨st _ _ p λ o q=>k _ _ (.inl rfl) q,⟨o,k _ _ (.inl rfl) e⟩,st⟩
theorem HOk.lt (x:HOk P w H h) (e:H a=some o):a < h.objs.size:=(x a o e).lt
theorem HOk.fresh (x:HOk P w H h) (e:h.objs.size<=a):H a=none:=by
 cases q:H a with
 | none=>rfl
 | some u=>exact absurd (Nat.lt_of_lt_of_le (x.lt q) e) (Nat.lt_irrefl _)
theorem HOk.kept (x:HOk P w H h) (k:∀ b u,h.get? b=some u->h'.get? b=some u):HOk P w H h':=λ a o e =>
 (x a o e).stay (λ b u _ q=>k b u q) (λ _ q=>q) λ _ _ q=>q
theorem HOk.laid (x:HOk P w H h) (k:∀ b u,h.get? b=some u->h'.get? b=some u) (hp:h.objs.size<=a) (new:ObjOk P w (upd H a o) h' a o):HOk P w (upd H a o) h':=λ b u e=>by
 have hn:=x.fresh hp;by_cases hb:b=a
 ·subst hb; rw [sd0] at e; cases e; exact new
 ·rw [yc0 hb] at e;exact (x b u e).stay (λ c v _ q=>k c v q) (λ c q=>by rw [yc0 (xf0 q hn)]; exact q) λ c xs q=>by rw [yc0 (xf0 q hn)]; exact q
end
def Rd (H:Hp) (a:Addr) (u:HO):Prop:=H a=some u \/ ∃ o,H a=some (.frz o u)
theorem Rd.ok {P:Program} {w:World} {H:Hp} {h:Heap} {a:Addr} {u:HO} (r:Rd H a u) (x:HOk P w H h):ObjOk P w H h a u:=by
 rcases r with r | ⟨o,r⟩
 ·exact x a u r
 ·obtain ⟨_,q⟩:=x a _ r;exact q
def Mut:Option HO->Prop
 | some (.lst _)=>True
 | some (.dK _)=>True
 | some (.dT _)=>True
 | some (.set _ _)=>True
 | some (.ins _ _ _)=>True
 | some (.ext _)=>True
 | _=>False
section
variable {P:Program} {w:World} {H:Hp} {h h':Heap} {x e:Addr} {o':HO}
theorem HOk.write (ok:HOk P w H h) (mu:Mut (H x)) (he:e=x \/ H e=some (.own x)) (k:∀ b u,b ≠ e->h.get? b=some u->h'.get? b=some u) (heo:∃ u,h'.get? e=some u)
    (new:ObjOk P w (upd H x o') h' x o'):HOk P w (upd H x o') h':=λ b u q=>by
 have nown:∀ c y,H c=some (.own y)->c ≠ x:=λ c y r z=>by subst z; rw [r] at mu; exact mu
 have ntup:∀ c xs,H c=some (.tup xs)->c ≠ x:=λ c xs r z=>by subst z; rw [r] at mu; exact mu
 by_cases hb:b=x
 ·subst hb; rw [sd0] at q; cases q; exact new
 ·rw [yc0 hb] at q;by_cases hbe:b=e
  ·have q':H b=some (.own x):=by
     rcases he with z | z
     ·exact absurd (hbe.trans z) hb
     ·rw [hbe]; exact z
   rw [q] at q'; cases q';obtain ⟨v,hv⟩:=heo;exact ⟨v,by rw [hbe]; exact hv⟩
  ·refine (ok b u q).stay (λ c v hc r=>k c v ?_ r) (λ c r=>by rw [yc0 (nown c b r)]; exact r) λ c xs r=>by rw [yc0 (ntup c xs r)]; exact r
   rcases hc with rfl | hc
   ·exact hbe
   ·rintro rfl;rcases he with z | z
    ·exact nown c b hc z
    ·rw [hc] at z; cases z; exact hb rfl
end
structure Un (fs ex:List Addr) (H H':Hp) (h h':Heap):Prop where
 keep:∀ b o,h.get? b=some o->H b=none->b ∉ fs->b ∉ ex->h'.get? b=some o
 slot:∀ b o,h.get? b=some o->H b=none->b ∈ fs->b ∉ ex->∃ sl,h'.get? b=some { o with slots:=sl }
 free:∀ b o,h.get? b=some o->H b=none->b ∉ ex->H' b=none
 there:∀ b o,h.get? b=some o->b ∉ ex->∃ o',h'.get? b=some o'
 tups:∀ b xs,H b=some (.tup xs)->H' b=some (.tup xs)
 frzs:∀ b o u,H b=some (.frz o u)->H' b=some (.frz o u)
 tbls:∀ b ps,H b=some (.tbl ps)->∃ more,H' b=some (.tbl (ps ++ more))
section
variable {fs fs' ex ex':List Addr} {H H1 H2:Hp} {h h1 h2 h':Heap} {a x e:Addr} {o:HO}
theorem Un.any (u:Un fs ex H H1 h h1) {b:Addr} {ob:Obj} (q:h.get? b=some ob) (n:H b=none) (hx:b ∉ ex):∃ sl,h1.get? b=some { ob with slots:=sl }:=by
 by_cases hb:b ∈ fs
 ·exact u.slot b ob q n hb hx
 ·exact ⟨ob.slots,u.keep b ob q n hb hx⟩
theorem Un.kept (k:∀ b u,h.get? b=some u->h'.get? b=some u):Un fs ex H H h h' :=
 ⟨λ b ob q _ _ _=>k b ob q,λ b ob q _ _ _=>⟨ob.slots,k b ob q⟩,λ _ _ _ n _=>n,λ b ob q _=>⟨ob,k b ob q⟩,λ _ _ q=>q,λ _ _ _ q=>q,λ _ ps q=>⟨#[],by rw [q]; simp⟩⟩
theorem Un.refl:Un fs ex H H h h:=Un.kept λ _ _ q=>q
theorem Un.laid (k:∀ b u,h.get? b=some u->h'.get? b=some u) (hp:h.objs.size<=a) (hn:H a=none):Un fs ex H (upd H a o) h h' where
 keep:=λ b u q _ _ _=>k b u q
 slot:=λ b u q _ _ _=>⟨u.slots,k b u q⟩
 free:=λ b u q n _=>by rw [yc0 (Nat.ne_of_lt (Nat.lt_of_lt_of_le (Heap.lt_size q) hp))]; exact n
 there:=λ b u q _=>⟨u,k b u q⟩
 tups:=λ b xs q=>by rw [yc0 (xf0 q hn)]; exact q
 frzs:=λ b u xs q=>by rw [yc0 (xf0 q hn)]; exact q
 tbls:=λ b ps q=>⟨#[],by rw [yc0 (xf0 q hn),q]; simp⟩
theorem Un.write (mu:Mut (H x)) (he:e=x \/ H e=some (.own x)) (k:∀ b u,b ≠ e->h.get? b=some u->h'.get? b=some u) (heo:∃ u,h'.get? e=some u):Un fs ex H (upd H x o) h h':=by
 have hx:∀ b,H b=none->b ≠ x:=λ b n z=>by subst z; rw [n] at mu; exact mu
 have hb:∀ b,H b=none->b ≠ e:=λ b n z=>by
  subst z;rcases he with r | r
  ·exact hx b n r
  ·rw [n] at r; cases r
 have hm:∀ b u,H b=some u->¬ Mut (some u)->b ≠ x:=λ b u q nm z=>by subst z; rw [q] at mu; exact nm mu
 refine ⟨λ b u q n _ _=>k b u (hb b n) q,λ b u q n _ _=>⟨u.slots,k b u (hb b n) q⟩,λ b u q n _=>by rw [yc0 (hx b n)]; exact n,λ b u q _=>?_,
  λ b xs q=>by rw [yc0 (hm b _ q λ z=>z)]; exact q,λ b u xs q=>by rw [yc0 (hm b _ q λ z=>z)]; exact q,λ b ps q=>⟨#[],by rw [yc0 (hm b _ q λ z=>z),q]; simp⟩⟩
 by_cases hbe:b=e
 ·subst hbe; exact heo
 ·exact ⟨u,k b u hbe q⟩
end
def trk (h:Heap) (H:Hp):List Addr:=(List.range h.objs.size).filter λ a=>(H a).isSome
def hidT (h:Heap) (H:Hp):Heap:=hideAll h (trk h H)
theorem va2 (h:Heap) (H:Hp):(hidT h H).objs.size=h.objs.size:=PySem.W.hideAll_size _ _
theorem tl2 {h:Heap} {H:Hp} {b:Addr} {o:Obj} (e:h.get? b=some o) (n:H b=none):(hidT h H).get? b=some o :=
 hideAll_get _ e λ hm=>by
  have q:(H b).isSome=true:=(List.mem_filter.mp hm).2;rw [n] at q; simp at q
theorem wz2 {h:Heap} {H:Hp} {b:Addr} {o:Obj} (e:(hidT h H).get? b=some o):h.get? b=some o /\ H b=none:=by
 have e':h.get? b=some o:=of_hideAll (trk h H) e;refine ⟨e',?_⟩;cases q:H b with
 | none=>rfl
 | some x =>
  have hm:b ∈ trk h H:=List.mem_filter.mpr ⟨List.mem_range.mpr (Heap.lt_size e'),by simp [q]⟩;have z:(hidT h H).get? b=none:=PySem.W.hideAll_none (trk h H) hm;rw [z] at e; cases e
def xd3 (g h:Heap) (L:Addr):List (Addr × Obj):=(List.range h.objs.size).filterMap λ a=>if a=L \/ (g.get? a).isSome=true then none else (h.get? a).map λ o=>(a,o)
def rest (g h:Heap) (L d:Addr):List (Addr × Obj):=(xd3 g h L).filter λ p=>decide (p.1 ≠ d)
structure Mod (K:PySem.W.Frag) (mg:Str->Option Value) (base:Heap):Prop where
 kin:K.In base
 glob:base.Ns mainGlobals mg
 blt:∃ mb,base.Ns builtinsNs mb /\ ∀ x:Str,x ≠ "__name__" -> mb x=bootBuiltins x
 nolimit:base.NoLimit
structure Cx where
 prog:Program
 w:World
 K:PySem.W.Frag
 mg:Str->Option Value
 base:Heap
 A:Around
 N:List Str
 s₀:Shared
 H₀:Hp
 env:Env
 outer:List Env
 stack:List Env
 ex:List Addr
 fn:Str->Bool
 calm:Bool
 pn:List (Addr × Obj)
 xe:Value->Shared->Prop
def frs (l:List Env):List Addr:=l.filterMap (·.frame)
abbrev Cx.fs (X:Cx):List Addr:=frs X.outer
def Vis (sc:Scope) (x:Str):Prop:=sc.names.lookup x=some .local \/ sc.names.lookup x=some .cell \/ sc.names.lookup x=some .free
def Loc (sc:Scope) (x:Str):Prop:=sc.names.lookup x=some .local \/ sc.names.lookup x=some .cell
def Look (env:Env) (h:Heap) (m:[23]) (x:Str) (u:Value):Prop :=
 (env.kindOf x=some .local /\ m x=some u) \/ ((env.kindOf x=some .cell \/ env.kindOf x=some .free) /\ ∃ c,env.cells.lookup x=some c /\ h.IsCell c (some u))
structure Cx.Ok (X:Cx):Prop where
 mod:Mod X.K X.mg X.base
 kind:X.env.scope.kind=.function
 glob:X.env.globals=mainGlobals
 blt:X.env.builtins=builtinsNs
 above:X.s₀.heap.objs.size<=X.env.locals
 inj:∀ x y c,X.env.cells.lookup x=some c->X.env.cells.lookup y=some c->x=y
 has:∀ x,(X.env.kindOf x=some .cell \/ X.env.kindOf x=some .free)->∃ c,X.env.cells.lookup x=some c
 cab:∀ x c,X.fn x=true->X.env.cells.lookup x=some c->X.s₀.heap.objs.size<=c
 hd:X.calm=true->X.A.handled=none
 frames:X.A.frames=some X.stack
 stk:X.stack=X.outer \/ (X.stack=X.env :: X.outer /\ X.env.frame=some X.env.locals)
 exf:∀ b ∈ X.ex,b ≠ X.env.locals /\ ∀ x c,X.env.cells.lookup x=some c->c ≠ b
 bs:∀ b o,X.base.get? b=some o->X.s₀.heap.get? b=some o /\ X.H₀ b=none
 bsz:X.base.objs.size<=X.s₀.heap.objs.size
 noex:∀ b o,X.base.get? b=some o->b ∉ X.ex
 exfs:∀ b ∈ X.ex,b ∉ X.fs
 funs:X.s₀.heap.FunFrames X.base X.outer
 frf:∀ b ∈ X.fs,X.H₀ b=none
structure Inv (X:Cx) (pins:List (Addr × Obj)) (σ:List (Option V)) (H:Hp) (s:Shared):Prop where
 ok:X.Ok
 os:s.os=X.s₀.os
 bare:AllBare s.gens
 base:Un X.fs X.ex X.H₀ H X.s₀.heap s.heap
 loc:∃ m,s.heap.Ns X.env.locals m /\ ∀ (i:Nat) (x:Str) (v:V),X.N[i]?=some x->σ[i]?=some (some v)->Vis X.env.scope x->∃ u,RelV v u /\ Look X.env s.heap m x u
 cell:∀ x c,X.env.cells.lookup x=some c->∃ v,s.heap.IsCell c v
 free:H X.env.locals=none
 freeC:∀ x c,X.env.cells.lookup x=some c->H c=none
 pin:∀ p ∈ X.pn ++ pins,s.heap.get? p.1=some p.2 /\ H p.1=none /\ p.1 ≠ X.env.locals /\ p.1 ∉ X.fs /\ ∀ v,p.2.data ≠ .cell v
 hok:HOk X.prog X.w H s.heap
 len:σ.length=X.N.length
section
variable {X:Cx} {pins:[8]} {σ:List (Option V)} {H H':Hp} {s:[39]} {h':Heap}
theorem Cx.Ok.nofr (ok:X.Ok) {b:Addr} {o:Obj} (e:X.base.get? b=some o):b ∉ X.fs:=λ hb=>by
 have:=(ok.funs.mem hb).1;rw [e] at this; cases this
theorem Inv.bs (I:[7]):∀ b o,X.base.get? b=some o->s.heap.get? b=some o /\ H b=none:=λ b o e =>
 ⟨I.base.keep b o (I.ok.bs b o e).1 (I.ok.bs b o e).2 (I.ok.nofr e) (I.ok.noex b o e),I.base.free b o (I.ok.bs b o e).1 (I.ok.bs b o e).2 (I.ok.noex b o e)⟩
theorem Inv.bk (I:[7]):∀ b o,X.base.get? b=some o->s.heap.get? b=some o:=λ b o e=>(I.bs b o e).1
theorem Inv.mod (I:[7]):Mod X.K X.mg X.base:=I.ok.mod
theorem Inv.kIn (I:[7]):X.K.In s.heap:=I.ok.mod.kin.keeps I.bk
theorem Inv.lt (I:[7]):X.env.locals < s.heap.objs.size:=let ⟨_,hn,_⟩:=I.loc; hn.lt
theorem Inv.sz (I:[7]):X.s₀.heap.objs.size<=s.heap.objs.size:=Nat.le_trans I.ok.above (Nat.le_of_lt I.lt)
theorem Inv.nofs (I:[7]) {a:Addr} (h:s.heap.objs.size<=a):a ∉ X.fs:=λ hb=>by
 obtain ⟨_,o,ho,_⟩:=I.ok.funs.mem hb;exact absurd (Nat.lt_of_lt_of_le (Heap.lt_size ho) (Nat.le_trans I.sz h)) (Nat.lt_irrefl _)
theorem Inv.cne (I:[7]):∀ x c,X.env.cells.lookup x=some c->c ≠ X.env.locals:=λ x c e z=>by
 obtain ⟨v,o,ho,hd⟩:=I.cell x c e;obtain ⟨m,⟨o',es,ep,ho',hd',_⟩,_⟩:=I.loc;rw [z,ho'] at ho; cases ho; rw [hd'] at hd; cases hd
theorem Inv.funs (I:[7]):s.heap.FunFrames X.base X.outer:=by
 have all:∀ (l:List Env),(∀ b ∈ frs l,b ∈ X.fs)->X.s₀.heap.FunFrames X.base l->s.heap.FunFrames X.base l:=by
  intro l
  induction l with
  | nil=>intro _ _; trivial
  | cons env r ih =>
   intro hs hl;obtain ⟨hk,⟨L,o,hf,hn,ho,hd⟩,hr⟩:=hl;have hL:L ∈ X.fs:=hs L (by unfold frs; rw [filterMap_cons,hf]; exact mem_cons_self);obtain ⟨sl,e⟩:=I.base.slot L o ho (I.ok.frf L hL) hL λ z=>I.ok.exfs L z hL;exact ⟨hk,⟨L,_,hf,hn,e,hd⟩,ih (λ b hb=>hs b (by unfold frs; rw [filterMap_cons,hf]; exact mem_cons_of_mem _ hb)) hr⟩
 exact all X.outer (λ _ hb=>hb) I.ok.funs
theorem Inv.stack (I:[7]):s.heap.FunFrames X.base X.stack:=by
 rcases I.ok.stk with e | ⟨e,hf⟩
 ·rw [e]; exact I.funs
 ·rw [e];obtain ⟨m,hn,_⟩:=I.loc;refine .cons (by rw [I.ok.kind]; decide) hf hn ?_ I.funs;exact Heap.get?_none_of_le (Nat.le_trans I.ok.bsz I.ok.above)
theorem Inv.stkSub (I:[7]):∀ b ∈ frs X.stack,b ∈ X.env.locals :: X.fs:=λ b hb=>by
 rcases I.ok.stk with e | ⟨e,hf⟩
 ·rw [e] at hb; exact mem_cons_of_mem _ hb
 ·rw [e] at hb;unfold frs at hb;rw [filterMap_cons,hf] at hb;exact hb
theorem Inv.stkFree (I:[7]):∀ b ∈ frs X.stack,H b=none:=λ b hb=>by
 rcases List.mem_cons.mp (I.stkSub b hb) with e | hb
 ·rw [e]; exact I.free
 ·obtain ⟨_,o,ho,_⟩:=I.ok.funs.mem hb;exact I.base.free b o ho (I.ok.frf b hb) λ z=>I.ok.exfs b z hb
theorem Inv.step {g':Array GenState} {t':Nat} {d':Drawn} {ch:List Addr} (I:[7])
    (hch:∀ b ∈ ch,(b ∈ X.ex \/ X.s₀.heap.objs.size<=b) /\ b ≠ X.env.locals /\ (∀ x c,X.env.cells.lookup x=some c->c ≠ b) /\ ∀ p ∈ X.pn ++ pins,p.1 ≠ b)
    (keep:∀ b o,b ≠ X.env.locals->b ∉ X.fs->b ∉ ch->s.heap.get? b=some o->H b=none->h'.get? b=some o)
    (slot:∀ b o,b ≠ X.env.locals->b ∈ X.fs->b ∉ ch->s.heap.get? b=some o->H b=none->∃ sl,h'.get? b=some { o with slots:=sl }) (free:∀ b o,b ∉ ch->s.heap.get? b=some o->H b=none->H' b=none)
    (there:∀ b o,b ∉ ch->s.heap.get? b=some o->∃ o',h'.get? b=some o')
    (tups:∀ b xs,H b=some (.tup xs)->H' b=some (.tup xs)) (frzs:∀ b o u,H b=some (.frz o u)->H' b=some (.frz o u)) (tbls:∀ b ps,H b=some (.tbl ps)->∃ more,H' b=some (.tbl (ps ++ more)))
    (ns:∀ m,s.heap.Ns X.env.locals m->h'.Ns X.env.locals m) (hok:HOk X.prog X.w H' h') (hg:AllBare g') :
    Inv X pins σ H' { s with heap:=h',gens:=g',drawn:=d',toks:=t' }:=by
 have neL:∀ b o,X.s₀.heap.get? b=some o->b ≠ X.env.locals:=λ b o e=>Nat.ne_of_lt (Nat.lt_of_lt_of_le (Heap.lt_size e) I.ok.above)
 have neC:∀ b o,X.s₀.heap.get? b=some o->b ∉ X.ex->b ∉ ch:=λ b o e hx hb=>by
  rcases (hch b hb).1 with z | z
  ·exact hx z
  ·exact absurd (Nat.lt_of_lt_of_le (Heap.lt_size e) z) (Nat.lt_irrefl _)
 have cellK:∀ x c,X.env.cells.lookup x=some c->∀ v,s.heap.IsCell c v->h'.IsCell c v:=λ x c e v ⟨o,ho,hd⟩=>by
  have nch:c ∉ ch:=λ z=>(hch c z).2.2.1 x c e rfl;by_cases hc:c ∈ X.fs
  ·obtain ⟨sl,q⟩:=slot c o (I.cne x c e) hc nch ho (I.freeC x c e);exact ⟨_,q,hd⟩
  ·exact ⟨o,keep c o (I.cne x c e) hc nch ho (I.freeC x c e),hd⟩
 refine ⟨I.ok,I.os,hg,⟨λ b o e n hb hx=>?_,λ b o e n hb hx=>?_,λ b o e n hx=>?_,λ b o e hx=>?_,λ b xs e=>tups b xs (I.base.tups b xs e),λ b o xs e=>frzs b o xs (I.base.frzs b o xs e),λ b ps e=>?_⟩,?_,λ x c e=>?_,?_,λ x c e=>?_,λ p hp=>?_,hok,I.len⟩
 ·exact keep b o (neL b o e) hb (neC b o e hx) (I.base.keep b o e n hb hx) (I.base.free b o e n hx)
 ·obtain ⟨sl,e1⟩:=I.base.slot b o e n hb hx;obtain ⟨sl',e2⟩:=slot b _ (neL b o e) hb (neC b o e hx) e1 (I.base.free b o e n hx);exact ⟨sl',e2⟩
 ·obtain ⟨o',e1⟩:=I.base.there b o e hx;exact free b o' (neC b o e hx) e1 (I.base.free b o e n hx)
 ·obtain ⟨o',e1⟩:=I.base.there b o e hx;exact there b o' (neC b o e hx) e1
 ·obtain ⟨m1,e1⟩:=I.base.tbls b ps e;obtain ⟨m2,e2⟩:=tbls b _ e1;exact ⟨m1 ++ m2,by rw [e2,Array.append_assoc]⟩
 ·obtain ⟨m,hn,hl⟩:=I.loc;refine ⟨m,ns m hn,λ i x v e1 e2 e3=>?_⟩;obtain ⟨u,r,l⟩:=hl i x v e1 e2 e3;refine ⟨u,r,?_⟩;rcases l with l | ⟨k,c,e,z⟩
  ·exact .inl l
  ·exact .inr ⟨k,c,e,cellK x c e _ z⟩
 ·obtain ⟨v,z⟩:=I.cell x c e;exact ⟨v,cellK x c e v z⟩
 ·obtain ⟨m,⟨o,_,_,ho,_⟩,_⟩:=I.loc;exact free _ o (λ z=>(hch _ z).2.1 rfl) ho I.free
 ·obtain ⟨v,o,ho,hd⟩:=I.cell x c e;exact free c o (λ z=>(hch c z).2.2.1 x c e rfl) ho (I.freeC x c e)
 ·obtain ⟨e,n,ne,nf,d⟩:=I.pin p hp;have nch:p.1 ∉ ch:=λ z=>(hch p.1 z).2.2.2 p hp rfl;exact ⟨keep p.1 p.2 ne nf nch e n,free p.1 p.2 nch e n,ne,nf,d⟩
theorem Inv.un {t':Nat} (I:[7]) (u:Un X.fs [] H H' s.heap h') (hok:HOk X.prog X.w H' h'):Inv X pins σ H' { s with heap:=h',toks:=t' }:=by
 obtain ⟨m,⟨o,es,ep,ho,r⟩,_⟩:=id I.loc;obtain ⟨sl,hL⟩:=u.any ho I.free [20]
 exact I.step (g':=s.gens) (d':=s.drawn) (ch:=[]) (λ _ z=>nomatch z) (λ b o _ hb _ e n=>u.keep b o e n hb [20]) (λ b o _ hb _ e n=>u.slot b o e n hb [20]) (λ b o _ e n=>u.free b o e n [20]) (λ b o _ e=>u.there b o e [20]) u.tups u.frzs u.tbls (λ m' hm=>by
  obtain ⟨o',es',ep',ho',r'⟩:=hm;rw [ho] at ho'; cases ho';exact ⟨_,es',ep',hL,r'⟩) hok I.bare
theorem Inv.call {g':Array GenState} {t':Nat} {d':Drawn} {ch:List Addr} (I:[7]) (u:Un (frs X.stack) ch H H' s.heap h') (hok:HOk X.prog X.w H' h') (hg:AllBare g')
    (hch:∀ b ∈ ch,(b ∈ X.ex \/ X.s₀.heap.objs.size<=b) /\ b ≠ X.env.locals /\ (∀ x c,X.env.cells.lookup x=some c->c ≠ b) /\ ∀ p ∈ X.pn ++ pins,p.1 ≠ b) :
    Inv X pins σ H' { s with heap:=h',gens:=g',drawn:=d',toks:=t' }:=by
 obtain ⟨m,⟨o,es,ep,ho,r⟩,_⟩:=id I.loc;obtain ⟨sl,hL⟩:=u.any ho I.free λ z=>(hch _ z).2.1 rfl
 exact I.step (ch:=ch) hch (λ b o hL hb hc e n=>u.keep b o e n (λ z=>(List.mem_cons.mp (I.stkSub b z)).elim hL hb) hc) (λ b o _ _ hc e n=>u.any e n hc) (λ b o hc e n=>u.free b o e n hc) (λ b o hc e=>u.there b o e hc) u.tups u.frzs u.tbls (λ m' hm=>by
  obtain ⟨o',es',ep',ho',r'⟩:=hm;rw [ho] at ho'; cases ho';exact ⟨_,es',ep',hL,r'⟩) hok hg
theorem Inv.turned {t':Nat} {it:Addr} (I:[7]) (k:∀ b o,b ≠ it->s.heap.get? b=some o->h'.get? b=some o) (hn:H it=none) (hL:it ≠ X.env.locals)
    (h1:it ∈ X.ex \/ X.s₀.heap.objs.size<=it) (h2:∀ x c,X.env.cells.lookup x=some c->c ≠ it) (h3:∀ p ∈ X.pn ++ pins,p.1 ≠ it):Inv X pins σ H { s with heap:=h',toks:=t' }:=by
 have nit:∀ b u,H b=some u->b ≠ it:=λ b u e z=>by rw [z,hn] at e; cases e
 refine I.step (g':=s.gens) (d':=s.drawn) (ch:=[it]) (λ b hb=>?_) (λ b o _ _ hc e _=>k b o (λ z=>hc (by simp [z])) e) (λ b o _ _ hc e _=>⟨o.slots,k b o (λ z=>hc (by simp [z])) e⟩) (λ _ _ _ _ n=>n)
  (λ b o hc e=>⟨o,k b o (λ z=>hc (by simp [z])) e⟩) (λ _ _ e=>e) (λ _ _ _ e=>e) (λ b ps e=>⟨#[],by rw [e]; simp⟩) (λ m hm=>?_) (λ b u e=>?_) I.bare
 ·have e:b=it:=by simpa using hb
  subst e;exact ⟨h1,hL,h2,h3⟩
 ·obtain ⟨o,es,ep,ho,r⟩:=hm;exact ⟨o,es,ep,k _ o (Ne.symm hL) ho,r⟩
 ·refine (I.hok b u e).stay (λ c v hc q=>k c v ?_ q) (λ _ q=>q) λ _ _ q=>q;rcases hc with z | z
  ·rw [z]; exact nit b u e
  ·exact nit c _ z
theorem Inv.tok (I:[7]) (t:Nat):Inv X pins σ H { s with toks:=t }:=I.un (h':=s.heap) (t':=t) Un.refl I.hok
theorem Inv.kept {t':Nat} (I:[7]) (k:∀ b u,s.heap.get? b=some u->h'.get? b=some u):Inv X pins σ H { s with heap:=h',toks:=t' }:=I.un (Un.kept k) (I.hok.kept k)
theorem Inv.laid {a:Addr} {o:HO} {t':Nat} (I:[7]) (k:∀ b u,s.heap.get? b=some u->h'.get? b=some u) (hp:s.heap.objs.size<=a) (new:ObjOk X.prog X.w (upd H a o) h' a o) :
    Inv X pins σ (upd H a o) { s with heap:=h',toks:=t' }:=I.un (Un.laid k hp (I.hok.fresh hp)) (I.hok.laid k hp new)
theorem Inv.write {x e:Addr} {o:HO} {t':Nat} (I:[7]) (mu:Mut (H x)) (he:e=x \/ H e=some (.own x)) (k:∀ b u,b ≠ e->s.heap.get? b=some u->h'.get? b=some u) (heo:∃ u,h'.get? e=some u)
    (new:ObjOk X.prog X.w (upd H x o) h' x o):Inv X pins σ (upd H x o) { s with heap:=h',toks:=t' }:=I.un (Un.write mu he k heo) (I.hok.write mu he k heo new)
theorem Inv.pins_of {pins':[8]} (I:[7]) (h:∀ p ∈ pins',s.heap.get? p.1=some p.2 /\ H p.1=none /\ p.1 ≠ X.env.locals /\ p.1 ∉ X.fs /\ ∀ v,p.2.data ≠ .cell v):Inv X pins' σ H s :=
 ⟨I.ok,I.os,I.bare,I.base,I.loc,I.cell,I.free,I.freeC,λ p hp=>(List.mem_append.mp hp).elim (λ z=>I.pin p (mem_append_left _ z)) (h p),I.hok,I.len⟩
theorem zx0 {N:List Str} (hN:N.Nodup) {i j:Nat} {x:Str} (a:N[i]?=some x) (b:N[j]?=some x):i=j:=by
 obtain ⟨h1,e1⟩:=List.getElem?_eq_some_iff.mp a;obtain ⟨h2,e2⟩:=List.getElem?_eq_some_iff.mp b;exact (List.getElem_inj hN).mp (e1.trans e2.symm)
theorem ya1 {M:Model} {A:Around} {E:[4]} {i:Nat} {x:Str} {v:V} {u:Value} {Q:Unit->Shared->Prop} (I:[7]) (hN:X.N.Nodup) (hi:X.N[i]?=some x) (hx:Loc X.env.scope x) (r:RelV v u)
    (h:∀ s',Inv X pins (σ.set i (some v)) H s'->(∃ a,Heap.SameBut a s.heap s'.heap /\ (a=X.env.locals \/ X.env.cells.lookup x=some a))->Q () s') (hf:X.fn x=true \/ X.env.scope.names.lookup x=some .local:=by first | exact .inl rfl | exact .inr rfl | assumption):wpAny M A (storeName X.env x u) Q E s:=by
 obtain ⟨m,hn,hl⟩:=id I.loc;have hcls:(X.env.scope.kind == .class || (X.env.scope.kind == .module && X.env.locals != X.env.globals))=false:=by rw [I.ok.kind]; rfl
 have hiσ:i < σ.length:=by rw [I.len]; exact (List.getElem?_eq_some_iff.mp hi).1
 have cne:=I.cne
 have tracked:∀ {a:Addr} {h':Heap},(∃ o,s.heap.get? a=some o /\ H a=none)->Heap.SameBut a s.heap h'->HOk X.prog X.w H h':=λ {a h'} ha hs b ob e=>by
  obtain ⟨_,_,hfree⟩:=ha;refine (I.hok b ob e).stay (λ c w' hc q=>(hs.2 c ?_).trans q) (λ _ q=>q) λ _ _ q=>q;rintro rfl;rcases hc with rfl | hc
  ·rw [hfree] at e; cases e
  ·rw [hfree] at hc; cases hc
 rcases hx with hk | hk
 ·refine wpAny_storeName_local hk hn (λ h' hn' hs=>?_) hcls;obtain ⟨oL,_,_,hoL,_⟩:=id hn;refine h _ ⟨I.ok,I.os,I.bare,⟨λ b o e n hb hx=>?_,λ b o e n hb hx=>?_,I.base.free,λ b o e hx=>?_,I.base.tups,I.base.frzs,I.base.tbls⟩,⟨_,hn',λ j y v' e1 e2 e3=>?_⟩,λ y c e=>?_,I.free,I.freeC,λ p hp=>?_,tracked ⟨oL,hoL,I.free⟩ hs,by simpa using I.len⟩ ⟨_,hs,.inl rfl⟩
  ·exact [36].trans (I.base.keep b o e n hb hx)
  ·obtain ⟨sl,e1⟩:=I.base.slot b o e n hb hx;exact ⟨sl,[36].trans e1⟩
  ·obtain ⟨o',e1⟩:=I.base.there b o e hx;exact ⟨o',[36].trans e1⟩
  ·by_cases hj:j=i
   ·subst hj;rw [hi] at e1; cases e1;rw [List.getElem?_set_self hiσ] at e2;cases e2;exact ⟨u,r,.inl ⟨hk,by simp⟩⟩
   ·rw [getElem?_set_ne (Ne.symm hj)] at e2;obtain ⟨u',r',q⟩:=hl j y v' e1 e2 e3;refine ⟨u',r',?_⟩;rcases q with ⟨k,e⟩ | ⟨k,c,e,z⟩
    ·refine .inl ⟨k,?_⟩;have:y ≠ x:=λ e=>hj (zx0 hN e1 (e ▸ hi));simp [this,e]
    ·exact .inr ⟨k,c,e,z.sameBut hs (cne y c e)⟩
  ·obtain ⟨w',z⟩:=I.cell y c e;exact ⟨w',z.sameBut hs (cne y c e)⟩
  ·obtain ⟨e,n,ne,nf,d⟩:=I.pin p hp;exact ⟨(hs.2 p.1 ne).trans e,n,ne,nf,d⟩
 ·have hfn:X.fn x=true:=by
    rcases hf with z | z
    ·exact z
    ·rw [z] at hk; cases hk
  obtain ⟨c,hc⟩:=I.ok.has x (.inl hk);obtain ⟨w',z⟩:=I.cell x c hc;refine wpAny_storeName_cell I.ok.kind hk hc z (λ h' hc' hs=>?_);obtain ⟨oc,hoc,hocd⟩:=id z;refine h { s with heap:=h' } ⟨I.ok,I.os,I.bare,⟨λ b o e n hb hx=>?_,λ b o e n hb hx=>?_,I.base.free,λ b o e hx=>?_,I.base.tups,I.base.frzs,I.base.tbls⟩,⟨m,hn.sameBut hs (Ne.symm (cne x c hc)),λ j y v' e1 e2 e3=>?_⟩,λ y c' e=>?_,I.free,I.freeC,λ p hp=>?_,tracked ⟨oc,hoc,I.freeC x c hc⟩ hs,by simpa using I.len⟩ ⟨c,hs,.inr hc⟩
  ·exact (hs.2 b (Nat.ne_of_lt (Nat.lt_of_lt_of_le (Heap.lt_size e) (I.ok.cab x c hfn hc)))).trans (I.base.keep b o e n hb hx)
  ·obtain ⟨sl,e1⟩:=I.base.slot b o e n hb hx;exact ⟨sl,(hs.2 b (Nat.ne_of_lt (Nat.lt_of_lt_of_le (Heap.lt_size e) (I.ok.cab x c hfn hc)))).trans e1⟩
  ·obtain ⟨o',e1⟩:=I.base.there b o e hx;exact ⟨o',(hs.2 b (Nat.ne_of_lt (Nat.lt_of_lt_of_le (Heap.lt_size e) (I.ok.cab x c hfn hc)))).trans e1⟩
  ·by_cases hj:j=i
   ·subst hj;rw [hi] at e1; cases e1;rw [List.getElem?_set_self hiσ] at e2;cases e2;exact ⟨u,r,.inr ⟨.inl hk,c,hc,hc'⟩⟩
   ·rw [getElem?_set_ne (Ne.symm hj)] at e2;obtain ⟨u',r',q⟩:=hl j y v' e1 e2 e3;refine ⟨u',r',?_⟩;rcases q with q | ⟨k,c',e,z'⟩
    ·exact .inl q
    ·refine .inr ⟨k,c',e,z'.sameBut hs ?_⟩;rintro rfl;exact hj (zx0 hN e1 (I.ok.inj _ _ _ e hc ▸ hi))
  ·by_cases hcc:c'=c
   ·subst hcc; exact ⟨_,hc'⟩
   ·obtain ⟨w2,z2⟩:=I.cell y c' e;exact ⟨w2,z2.sameBut hs hcc⟩
  ·obtain ⟨e,n,ne,nf,d⟩:=I.pin p hp;refine ⟨(hs.2 p.1 ?_).trans e,n,ne,nf,d⟩;intro q;rw [q,hoc] at e;have q':oc=p.2:=Option.some.inj e;exact d w' (by rw [<- q']; exact hocd)
theorem vv0 {M:Model} {A:Around} {E:[4]} {i:Nat} {x:Str} {v:V} {u:Value} {Q:Unit->Shared->Prop} (I:[7]) (hN:X.N.Nodup) (hi:X.N[i]?=some x) (hx:Loc X.env.scope x) (r:RelV v u)
    (h:∀ s',Inv X pins (σ.set i (some v)) H s'->Q () s') (hf:X.fn x=true \/ X.env.scope.names.lookup x=some .local:=by first | exact .inl rfl | exact .inr rfl | assumption):wpAny M A (storeName X.env x u) Q E s :=
 ya1 I hN hi hx r (λ s' I' _=>h s' I') hf
theorem Inv.call' {s':[39]} {ch:List Addr} (I:[7]) (ho:s'.os=s.os) (u:Un (frs X.stack) ch H H' s.heap s'.heap) (hok:HOk X.prog X.w H' s'.heap) (hg:AllBare s'.gens)
    (hch:∀ b ∈ ch,(b ∈ X.ex \/ X.s₀.heap.objs.size<=b) /\ b ≠ X.env.locals /\ (∀ x c,X.env.cells.lookup x=some c->c ≠ b) /\ ∀ p ∈ X.pn ++ pins,p.1 ≠ b):Inv X pins σ H' s':=by
 obtain ⟨h',g',d',t',o'⟩:=s';have e:o'=s.os:=ho;subst e;exact I.call (g':=g') (t':=t') (d':=d') u hok hg hch
end
abbrev XK:=Value->Option Addr->Hp->Prop
abbrev St:=List (Option V)
abbrev VK:=V->Hp->Prop
abbrev TE:=St->Hp->VK->Prop
abbrev TT:=St->Hp->(Bool->Hp->Prop)->Prop
abbrev TA:=St->Hp->(List V->Hp->Prop)->Prop
structure Ends where
 nx:St->Hp->Prop
 rt:VK
 bk:St->Hp->Prop:=λ _ _=>False
 ct:St->Hp->Prop:=λ _ _=>False
abbrev TS:=Ends->St->Hp->Prop
def EP (X:Cx) (pins:[8]) (σ:St) (Q:VK) (u:Value) (s':[39]):Prop:=∃ v H',Inv X pins σ H' s' /\ RelV v u /\ Q v H'
def TP (X:Cx) (pins:[8]) (σ:St) (Q:Bool->Hp->Prop) (b:Bool) (s':[39]):Prop:=∃ H',Inv X pins σ H' s' /\ Q b H'
def AP (X:Cx) (pins:[8]) (σ:St) (Q:List V->Hp->Prop) (us:[22]) (s':[39]):Prop:=∃ vs H',Inv X pins σ H' s' /\ Vals vs us /\ Q vs H'
def SP (X:Cx) (pins:[8]) (D:Ends) (f:Flow) (s':[39]):Prop :=
 match f with
 | .next=>∃ σ' H',Inv X pins σ' H' s' /\ D.nx σ' H'
 | .brk=>∃ σ' H',Inv X pins σ' H' s' /\ D.bk σ' H'
 | .cont=>∃ σ' H',Inv X pins σ' H' s' /\ D.ct σ' H'
 | .ret u=>∃ v σ' H',Inv X pins σ' H' s' /\ RelV v u /\ D.rt v H'
def PE (X:Cx) (e:Expr) (t:TE):Prop :=
 ∀ (pins:[8]) (s:[39]) (σ:St) (H:Hp) (Q:VK),Inv X pins σ H s->t σ H Q->wpAny [10] X.A (eval e X.env) (EP X pins σ Q) X.xe s
def PT (X:Cx) (e:Expr) (t:TT):Prop :=
 ∀ (pins:[8]) (s:[39]) (σ:St) (H:Hp) (Q:Bool->Hp->Prop),Inv X pins σ H s->t σ H Q->wpAny [10] X.A (isTrue e X.env (eval e X.env)) (TP X pins σ Q) X.xe s
def PW (X:Cx) (e:Expr) (t:TT):Prop :=
 ∀ (whole:Sem Value) (pins:[8]) (s:[39]) (σ:St) (H:Hp) (Q:Bool->Hp->Prop),Inv X pins σ H s->t σ H Q->wpAny [10] X.A (isTrue e X.env whole) (TP X pins σ Q) X.xe s
theorem PW.pt {X:Cx} {e:Expr} {t:TT} (h:PW X e t):PT X e t:=h _
def PA (X:Cx) (es:List Expr) (t:TA):Prop :=
 ∀ (pos:Pos) (pins:[8]) (s:[39]) (σ:St) (H:Hp) (Q:List V->Hp->Prop),Inv X pins σ H s->t σ H Q->wpAny [10] X.A (spliced (backTo pos (starEach es X.env))) (AP X pins σ Q) X.xe s
def PS (X:Cx) (st:Stmt) (t:TS):Prop :=
 ∀ (pins:[8]) (s:[39]) (σ:St) (H:Hp) (D:Ends),Inv X pins σ H s->t D σ H->wpAny [10] X.A (exec st X.env) (SP X pins D) X.xe s
def PSs (X:Cx) (st:List Stmt) (t:TS):Prop :=
 ∀ (pins:[8]) (s:[39]) (σ:St) (H:Hp) (D:Ends),Inv X pins σ H s->t D σ H->wpAny [10] X.A (execs st X.env) (SP X pins D) X.xe s
theorem thn {α:Type} {t:Sem α} {Q Q':α->Shared->Prop} {M:Model} {A:Around} {E:[4]} {s:[39]} (h:wpAny M A t Q E s) (hQ:∀ a s,Q a s->Q' a s):wpAny M A t Q' E s:=wpAny_mono h hQ λ _ _ x=>x
section
variable {X:Cx}
def tVar (i:Nat):TE:=λ σ H Q=>∃ v,σ[i]?=some (some v) /\ Q v H
def tC (v:V):TE:=λ _ H Q=>Q v H
theorem sp2 {i:Nat} {x:Str} {pos:Pos} (hN:X.N[i]?=some x) (hv:Vis X.env.scope x) (hd:[25]=false:=by decide) (hcd:(x == ("__classdict__" : Str))=false:=by decide):PE X (.Name x pos) (tVar i):=by
 intro pins s σ H Q I h;obtain ⟨v,e,h⟩:=h;obtain ⟨m,hn,hl⟩:=I.loc;obtain ⟨u,r,l⟩:=hl i x v hN e hv;have fin:EP X pins σ Q u s:=⟨v,H,I,r,h⟩;rcases l with ⟨hk,hm⟩ | ⟨hk,c,hc,hcell⟩
 ·exact wpAny_Name (wpAny_loadName_local I.ok.kind hk hn hm fin) hd
 ·rcases hk with hk | hk
  ·exact wpAny_Name (wpAny_loadName_cell I.ok.kind hk hc hcell fin) hd
  ·exact wpAny_Name (wpAny_loadName_free I.ok.kind hk hc hcell fin hcd) hd
theorem zv3 {i j pos}:PE X (.Constant (.int i) j pos) (tC (.int i)):=λ _ _ _ H _ I h=>wpAny_Constant_int ⟨.int i,H,I.tok _,⟨_,rfl⟩,h⟩
theorem wj4 {b j pos}:PE X (.Constant (.bool b) j pos) (tC (.bl b)):=λ _ _ _ H _ I h=>Constant_bool ⟨.bl b,H,I,rfl,h⟩
theorem xv3 {j pos}:PE X (.Constant .none j pos) (tC .non):=λ _ _ _ H _ I h=>Constant_none ⟨.non,H,I,rfl,h⟩
theorem su3 {x j pos}:PE X (.Constant (.str x) j pos) (tC (.str x)):=λ _ _ _ H _ I h=>Calls.Constant_str ⟨.str x,H,I.tok _,⟨_,rfl⟩,h⟩
def Gl (X:Cx) (x:Str):Prop:=X.env.kindOf x=some .globalImplicit
theorem tj0 {E:[4]} {pins:[8]} {s:[39]} {σ:St} {H:Hp} {x:Str} {u:Value} {pos:Pos} {Q:[4]} (I:[7]) (hg:Gl X x) (hm:X.mg x=some u) (h:Q u s)
    (hd:[25]=false:=by decide):wpAny [10] X.A (eval (.Name x pos) X.env) Q E s :=
 Calls.Name_function_global I.ok.kind hg (Calls.loadGlobal_global (by rw [I.ok.glob]; exact I.mod.glob.keeps I.bk) hm h) hd
theorem wp0 {E:[4]} {pins:[8]} {s:[39]} {σ:St} {H:Hp} {x:Str} {u:Value} {pos:Pos} {Q:[4]} (I:[7]) (hg:Gl X x) (hm:X.mg x=none) (hv:bootBuiltins x=some u) (h:Q u s)
    (hn:x ≠ "__name__" := by decide) (hd:[25]=false:=by decide):wpAny [10] X.A (eval (.Name x pos) X.env) Q E s:=by
 obtain ⟨mb,h1,h2⟩:=I.mod.blt;exact Calls.Name_function_global I.ok.kind hg (Calls.loadGlobal_builtin (by rw [I.ok.glob]; exact I.mod.glob.keeps I.bk) hm (by rw [I.ok.blt]; exact h1.keeps I.bk) ((h2 x hn).trans hv) h) hd
theorem yy2 {x:Str} {v:V} {u:Value} {pos:Pos} (hg:Gl X x) (hm:X.mg x=some u) (r:RelV v u) (hd:[25]=false:=by decide):PE X (.Name x pos) (tC v) :=
 λ _ _ _ H _ I h=>tj0 I hg hm ⟨v,H,I,r,h⟩ hd
theorem ty2 {x:Str} {v:V} {u:Value} {pos:Pos} (hg:Gl X x) (hm:X.mg x=none) (hv:bootBuiltins x=some u) (r:RelV v u) (hn:x ≠ "__name__" := by decide) (hd:[25]=false:=by decide):PE X (.Name x pos) (tC v) :=
 λ _ _ _ H _ I h=>wp0 I hg hm hv ⟨v,H,I,r,h⟩ hn hd
variable {a b:Expr} {ta tb:TE} {pos:Pos}
def tB (t:TE):TT:=λ σ H Q=>t σ H λ x H1=>∃ c,x=.bl c /\ Q c H1
theorem wt3 {e:Expr} {t:TE} (h:PE X e t) (he:∀ whole,isTrue e X.env whole=(do let v <- whole; standAt e.pos; holding [v] (truthy v)):=by intro _; rfl):PT X e (tB t):=by
 intro pins s σ H Q I hw;refine isTrue_plain (thn (h pins s σ H _ I hw) λ v s1 ⟨x,H1,I1,r1,q1⟩=>?_) (he _);obtain ⟨d,rfl,q⟩:=q1;cases r1;exact wpAny_truthy_bool ⟨H1,I1,q⟩
variable {tA tB':TT} {rest:List Expr}
def tAnd (t u:TT):TT:=λ σ H Q=>t σ H λ c H1=>if c=true then u σ H1 Q else Q false H1
def tOr (t u:TT):TT:=λ σ H Q=>t σ H λ c H1=>if c=true then Q true H1 else u σ H1 Q
def tNot (t:TT):TT:=λ σ H Q=>t σ H λ c H1=>Q (!c) H1
theorem ww2 (ha:PT X a tA):PW X (.BoolOp .And [a] pos) tA:=by
 intro wh pins s σ H Q I h;refine isTrue_and (thn (ha pins s σ H Q I h) λ c s1 e=>?_);cases c with
 | true=>exact isTrue_and_nil e
 | false=>exact e
theorem ts3 (ha:PT X a tA):PW X (.BoolOp .Or [a] pos) tA:=by
 intro wh pins s σ H Q I h;refine isTrue_or (thn (ha pins s σ H Q I h) λ c s1 e=>?_);cases c with
 | false=>exact isTrue_or_nil e
 | true=>exact e
theorem ss3 (ha:PT X a tA) (hb:PW X (.BoolOp .And (b :: rest) pos) tB'):PW X (.BoolOp .And (a :: b :: rest) pos) (tAnd tA tB'):=by
 intro wh pins s σ H Q I h;refine isTrue_and (thn (ha pins s σ H _ I h) λ c s1 ⟨H1,I1,q1⟩=>?_);cases c with
 | true=>exact hb wh pins s1 σ H1 Q I1 q1
 | false=>exact ⟨H1,I1,q1⟩
theorem ti4 (ha:PT X a tA) (hb:PW X (.BoolOp .Or (b :: rest) pos) tB'):PW X (.BoolOp .Or (a :: b :: rest) pos) (tOr tA tB'):=by
 intro wh pins s σ H Q I h;refine isTrue_or (thn (ha pins s σ H _ I h) λ c s1 ⟨H1,I1,q1⟩=>?_);cases c with
 | true=>exact ⟨H1,I1,q1⟩
 | false=>exact hb wh pins s1 σ H1 Q I1 q1
theorem vt3 (ha:PT X a tA):PT X (.UnaryOp .Not a pos) (tNot tA):=by
 intro pins s σ H Q I h;exact isTrue_not (ha pins s σ H (λ c H1=>Q (!c) H1) I h)
end
def SqL (K:PySem.W.Frag) (H:Hp) (a:Addr) (xs:List V):Prop :=
 Rd H a (.lst xs) ∨
  ∃ (o:Obj) (its:Array Value) (n:Nat),K.lookup a=some o /\ o.cls=.type "list" /\ o.dict=none /\ o.data=.seq its n /\ its.size<=sizeLine /\ Vals xs its.toList
def SqT (K:PySem.W.Frag) (H:Hp) (a:Addr) (xs:List V):Prop :=
 Rd H a (.tup xs) ∨
  ∃ (o:Obj) (its:Array Value) (n:Nat),K.lookup a=some o /\ o.cls=.type "tuple" /\ o.data=.seq its n /\ its.size<=sizeLine /\ Vals xs its.toList
def absV:Value->Option V
 | .none=>some .non
 | .bool b=>some (.bl b)
 | .int i _=>some (.int i)
 | .str x _=>some (.str x)
 | .bytes b _=>some (.byt b)
 | .float b _=>some (.flt b)
 | .ref a=>some (.ref a)
 | .type n=>some (.ty n)
 | _=>none
theorem RelV.abs {x:V} {u:Value} (r:RelV x u):absV u=some x:=by
 cases x with
 | non=>cases r; rfl
 | bl _=>cases r; rfl
 | int _=>obtain ⟨t,rfl⟩:=r; rfl
 | str _=>obtain ⟨t,rfl⟩:=r; rfl
 | byt _=>obtain ⟨t,rfl⟩:=r; rfl
 | flt _=>obtain ⟨t,rfl⟩:=r; rfl
 | ref _=>cases r; rfl
 | ty _=>cases r; rfl
theorem RelV.inj {x y:V} {u:Value} (r:RelV x u) (q:RelV y u):x=y:=Option.some.inj (r.abs.symm.trans q.abs)
theorem Vals.inj:∀ {xs ys:List V} {us:[22]},Vals xs us->Vals ys us->xs=ys
 | _,_,_,.nil,.nil=>rfl
 | _,_,_,.cons r t,.cons r' t'=>by rw [r.inj r',Vals.inj t t']
section
variable {X:Cx} {pins:[8]} {σ:St} {H:Hp} {s:[39]} {a:Addr} {xs ys:List V}
theorem SqL.of {K:PySem.W.Frag} (h:H a=some (.lst xs)):SqL K H a xs:=.inl (.inl h)
theorem SqT.of {K:PySem.W.Frag} (h:H a=some (.tup xs)):SqT K H a xs:=.inl (.inl h)
theorem Inv.list (I:[7]) (h:SqL X.K H a xs):∃ its:List Value,Vals xs its /\ PlainL s.heap a its.toArray /\ xs.length<=sizeLine:=by
 rcases h with h | ⟨o,its,n,hk,hc,hd,hs,hz,r⟩
 ·obtain ⟨z,its,n,r,e⟩:=h.ok I.hok;exact ⟨its,r,⟨_,n,e,rfl,rfl,rfl⟩,z⟩
 ·refine ⟨its.toList,r,⟨o,n,I.kIn a o hk,hc,hd,by simpa using hs⟩,?_⟩;have e:=r.length;simp only [length_toList] at e;omega
theorem Inv.tuple (I:[7]) (h:SqT X.K H a xs):∃ its:List Value,Vals xs its /\ IsTup s.heap a its.toArray /\ xs.length<=sizeLine:=by
 rcases h with h | ⟨o,its,n,hk,hc,hs,hz,r⟩
 ·obtain ⟨z,its,r,p⟩:=h.ok I.hok;exact ⟨its,r,p,z⟩
 ·refine ⟨its.toList,r,⟨o,I.kIn a o hk,hc,n,by simpa using hs⟩,?_⟩;have e:=r.length;simp only [length_toList] at e;omega
theorem Inv.list_inj (I:[7]) (h:SqL X.K H a xs) (h':SqL X.K H a ys):xs=ys:=by
 obtain ⟨its,r,⟨o,n,e,_,_,d⟩,_⟩:=I.list h;obtain ⟨its',r',⟨o',n',e',_,_,d'⟩,_⟩:=I.list h';rw [e] at e'; cases e';rw [d] at d';injection d' with d1 _
 have:its=its':=by simpa using congrArg Array.toList d1
 subst this;exact r.inj r'
theorem Inv.tuple_inj (I:[7]) (h:SqT X.K H a xs) (h':SqT X.K H a ys):xs=ys:=by
 obtain ⟨its,r,⟨o,e,_,n,d⟩,_⟩:=I.tuple h;obtain ⟨its',r',⟨o',e',_,n',d'⟩,_⟩:=I.tuple h';rw [e] at e'; cases e';rw [d] at d';injection d' with d1 _
 have:its=its':=by simpa using congrArg Array.toList d1
 subst this;exact r.inj r'
end
abbrev Cx.wish (X:Cx) (E:[4]):Cx:={ X with xe:=E }
abbrev Cx.nox (X:Cx):Cx:=X.wish λ _ _=>False
theorem Cx.Ok.wish {X:Cx} (ok:X.Ok) (E:[4]):(X.wish E).Ok :=
 ⟨ok.mod,ok.kind,ok.glob,ok.blt,ok.above,ok.inj,ok.has,ok.cab,ok.hd,ok.frames,ok.stk,ok.exf,ok.bs,ok.bsz,ok.noex,ok.exfs,ok.funs,ok.frf⟩
theorem Cx.Ok.unwish {X:Cx} {E:[4]} (ok:(X.wish E).Ok):X.Ok :=
 ⟨ok.mod,ok.kind,ok.glob,ok.blt,ok.above,ok.inj,ok.has,ok.cab,ok.hd,ok.frames,ok.stk,ok.exf,ok.bs,ok.bsz,ok.noex,ok.exfs,ok.funs,ok.frf⟩
section
variable {X:Cx} {pins:[8]} {σ:St} {H:Hp} {s:[39]} {E:[4]}
theorem Inv.wish (I:[7]) (E:[4]):Inv (X.wish E) pins σ H s:=⟨I.ok.wish E,I.os,I.bare,I.base,I.loc,I.cell,I.free,I.freeC,I.pin,I.hok,I.len⟩
theorem Inv.unwish (I:Inv (X.wish E) pins σ H s):Inv X pins σ H s:=⟨I.ok.unwish,I.os,I.bare,I.base,I.loc,I.cell,I.free,I.freeC,I.pin,I.hok,I.len⟩
theorem SP.unwish {D:Ends} {f:Flow} {s':[39]} (h:SP (X.wish E) pins D f s'):SP X pins D f s':=by
 cases f with
 | next=>obtain ⟨σ',H',I,q⟩:=h; exact ⟨σ',H',I.unwish,q⟩
 | brk=>obtain ⟨σ',H',I,q⟩:=h; exact ⟨σ',H',I.unwish,q⟩
 | cont=>obtain ⟨σ',H',I,q⟩:=h; exact ⟨σ',H',I.unwish,q⟩
 | ret u=>obtain ⟨v,σ',H',I,r,q⟩:=h; exact ⟨v,σ',H',I.unwish,r,q⟩
theorem PSs.nox {st:List Stmt} {t:TS} (h:PSs X.nox st t):PSs X st t:=λ pins s σ H D I hw =>
 wpAny_mono (h pins s σ H D (I.wish _) hw) (λ _ _ q=>q.unwish) λ _ _ z=>False.elim z
end
section
variable {X:Cx} {st:Stmt} {rest:List Stmt} {t u:TS} {e:Expr} {te:TE} {pos:Pos}
def xc4:TS:=λ D σ H=>D.nx σ H
def tSeq (t u:TS):TS:=λ D σ H=>t { D with nx:=u D } σ H
theorem xx2:PSs X [] xc4:=λ _ _ σ H _ I h=>wpAny_execs_nil ⟨σ,H,I,h⟩
theorem ti2 (h1:PS X st t) (h2:PSs X rest u):PSs X (st :: rest) (tSeq t u):=by
 intro pins s σ H D I h;refine wpAny_execs_cons (thn (h1 pins s σ H { D with nx:=u D } I h) λ f s1 q=>?_);cases f with
 | next =>
  obtain ⟨σ',H',I',q⟩:=q;exact h2 pins s1 σ' H' D I' q
 | ret v=>exact q
 | brk=>exact q
 | cont=>exact q
theorem sw2 (h1:PS X st t):PSs X [st] t:=by
 intro pins s σ H D I h;refine wpAny_execs_cons (thn (h1 pins s σ H D I h) λ f s1 q=>?_);cases f with
 | next=>exact wpAny_execs_nil q
 | ret v=>exact q
 | brk=>exact q
 | cont=>exact q
theorem Inv.quiet {pins:[8]} {σ:St} {H:Hp} {s:[39]} (I:[7]):interactive X.env=false:=by simp [interactive,I.ok.kind]
def yc4 (te:TE):TS:=λ D σ H=>te σ H λ _ H1=>D.nx σ H1
theorem wx2 (he:PE X e te) (hs:swapsWith e none pos.line X.env=pure false:=by rfl):PS X (.Expr e pos) (yc4 te):=by
 intro pins s σ H D I h;exact wpAny_Expr_any (thn (he pins s σ H _ I h) λ v s1 ⟨x,H1,I1,r1,q1⟩=>⟨σ,H1,I1,q1⟩) I.quiet hs
def tRet (te:TE):TS:=λ D σ H=>te σ H D.rt
theorem ut3 (he:PE X e te):PS X (.Return (some e) pos) (tRet te):=by
 intro pins s σ H D I h;exact wpAny_Return_some (thn (he pins s σ H _ I h) λ v s1 ⟨x,H1,I1,r1,q1⟩=>⟨x,σ,H1,I1,r1,q1⟩)
def tIfS (c:TT) (t u:TS):TS:=λ D σ H=>c σ H λ b H1=>if b=true then t D σ H1 else u D σ H1
theorem si4 {c:Expr} {a b:List Stmt} {tc:TT} (hc:PT X c tc) (ha:PSs X a t) (hb:PSs X b u):PS X (.If c a b pos) (tIfS tc t u):=by
 intro pins s σ H D I h;refine wpAny_If (thn (hc pins s σ H _ I h) λ d s1 ⟨H1,I1,q1⟩=>?_);cases d with
 | true=>exact ha pins s1 σ H1 D I1 q1
 | false=>exact hb pins s1 σ H1 D I1 q1
def ti3:TS:=λ _ _ _=>False
theorem yj2:PS X st ti3:=λ _ _ _ _ _ _ h=>h.elim
end
abbrev TG:=V->St->Hp->(St->Hp->Prop)->Prop
def PG (X:Cx) (target:Expr) (t:TG):Prop :=
 ∀ (pins:[8]) (s:[39]) (σ:St) (H:Hp) (v:V) (u:Value) (Q:St->Hp->Prop),Inv X pins σ H s->RelV v u->t v σ H Q ->
  wpAny [10] X.A (assign target X.env u) (λ _ s'=>∃ σ' H',Inv X pins σ' H' s' /\ Q σ' H') X.xe s
abbrev TSet:=V->V->V->Hp->(Hp->Prop)->Prop
def PSet (X:Cx) (t:TSet):Prop :=
 ∀ (pins:[8]) (s:[39]) (σ:St) (H:Hp) (o i v:V) (ov iv u:Value) (Q:Hp->Prop),Inv X pins σ H s->RelV o ov->RelV i iv->RelV v u->t o i v H Q ->
  wpAny [10] X.A (setItem ov iv u) (λ _ s'=>∃ H',Inv X pins σ H' s' /\ Q H') X.xe s
section
variable {X:Cx} {pos:Pos}
def sa3 (i:Nat):TG:=λ v σ H Q=>Q (σ.set i (some v)) H
theorem sx2 {i:Nat} {x:Str} (hN:X.N.Nodup) (hi:X.N[i]?=some x) (hx:Loc X.env.scope x) (hf:X.fn x=true \/ X.env.scope.names.lookup x=some .local:=by first | exact .inl rfl | exact .inr rfl | assumption):PG X (.Name x pos) (sa3 i):=by
 intro pins s σ H v u Q I r h;exact wpAny_assign_Name (vv0 I hN hi hx r (λ s' I'=>⟨_,H,I',h⟩) hf)
def gSub (to ti:TE) (t:TSet):TG:=λ v σ H Q=>to σ H λ o H1=>ti σ H1 λ i H2=>t o i v H2 λ H3=>Q σ H3
theorem uu3 {o i:Expr} {to ti:TE} {t:TSet} (ho:PE X o to) (hi:PE X i ti) (hs:PSet X t)
    (ha:∀ v,assign (.Subscript o i pos) X.env v=(do
     let ov <- holding [v] (eval o X.env)
     let iv <- holding [v,ov] (eval i X.env)
     standAt pos
     holding [v,ov,iv] (setItem ov iv v)
     release [v,ov,iv] []):=by intro _; rfl):PG X (.Subscript o i pos) (gSub to ti t):=by
 intro pins s σ H v u Q I r h;rw [ha];refine wpAny_bind (wpAny_holding (thn (ho pins s σ H _ I h) λ ov s1 ⟨x,H1,I1,r1,q1⟩=>?_));refine wpAny_bind (wpAny_holding (thn (hi pins s1 σ H1 _ I1 q1) λ iv s2 ⟨y,H2,I2,r2,q2⟩=>?_));refine wpAny_bind (wpAny_standAt (wpAny_bind (wpAny_holding (thn (hs pins s2 σ H2 x y v ov iv u _ I2 r1 r2 r q2) λ _ s3 ⟨H3,I3,q3⟩=>?_))));exact wpAny_release ⟨σ,H3,I3,q3⟩
def tAsg (te:TE) (g:TG):TS:=λ D σ H=>te σ H λ x H1=>g x σ H1 D.nx
theorem yu3 {tg e:Expr} {te:TE} {g:TG} (he:PE X e te) (hg:PG X tg g) (hs:swapsWithSole [tg] e pos.line X.env=pure false:=by rfl) (hw:swappedStores [tg] e X.env=pure none:=by rfl)
    (h1:(assignEach [tg] X.env).map (·.2)=[assign tg X.env]:=by rfl):PS X (.Assign [tg] e pos) (tAsg te g):=by
 intro pins s σ H D I h;refine wpAny_Assign_stores (thn (he pins s σ H _ I h) λ v s1 ⟨x,H1,I1,r1,q1⟩=>?_) hs hw;rw [h1];exact thn (hg pins s1 σ H1 x v _ I1 r1 q1) λ _ s2 q=>q
theorem xx1 {i:Nat} {x:Str} {e:Expr} {te:TE} {pos':Pos} (hN:X.N.Nodup) (hi:X.N[i]?=some x) (hx:Loc X.env.scope x) (he:PE X e te) (hs:swapsWith e (some (.Name x pos')) pos.line X.env=pure false:=by rfl) (hf:X.fn x=true \/ X.env.scope.names.lookup x=some .local:=by first | exact .inl rfl | exact .inr rfl | assumption) :
    PS X (.Assign [.Name x pos'] e pos) (tAsg te (sa3 i)):=by
 intro pins s σ H D I h;refine wpAny_Assign_Name (thn (he pins s σ H _ I h) λ v s1 ⟨y,H1,I1,r1,q1⟩=>?_) hs;exact vv0 I1 hN hi hx r1 (λ s2 I2=>⟨_,H1,I2,q1⟩) hf
end
section
variable {X:Cx} {pos:Pos}
def wi3 (c:TT) (tb:TS):TS:=λ D σ H=>∃ W:Nat->St->Hp->Prop,(∃ m,W m σ H) /\ ∀ m σ H,W m σ H ->
 c σ H λ b H1=>if b=true then ∃ N:St->Hp->Prop,(∀ σ' H',N σ' H'->∃ m',m' < m /\ W m' σ' H') /\ tb { D with nx:=N,ct:=N,bk:=D.nx } σ H1 else D.nx σ H1
theorem si2 {c:Expr} {body:List Stmt} {tc:TT} {tb:TS} (hp:PassesOwn [10] X.A X.env X.xe) (hc:PT X c tc) (hb:PSs X body tb):PS X (.While c body [] pos) (wi3 tc tb):=by
 intro pins s σ H D I h;obtain ⟨W,⟨m0,w0⟩,turn⟩:=h;refine wpAny_While (codeAny_whileLoop (λ n s'=>∃ σ' H',Inv X pins σ' H' s' /\ W n σ' H') ?_ m0 ⟨σ,H,I,w0⟩);rintro n s1 ⟨σ1,H1,I1,w1⟩;refine wpAny_passesOwn hp (thn (hc pins s1 σ1 H1 _ I1 (turn n σ1 H1 w1)) λ b s2 ⟨H2,I2,q2⟩=>?_);cases b with
 | true =>
  obtain ⟨N,hN,q2⟩:=q2;rw [if_pos rfl];refine wpAny_passesOwn hp (thn (hb pins s2 σ1 H2 _ I2 q2) λ f s3 q3=>?_);cases f with
  | next =>
   obtain ⟨σ3,H3,I3,n3⟩:=q3;obtain ⟨m',hm,w3⟩:=hN σ3 H3 n3;exact ⟨m',hm,σ3,H3,I3,w3⟩
  | cont =>
   obtain ⟨σ3,H3,I3,n3⟩:=q3;obtain ⟨m',hm,w3⟩:=hN σ3 H3 n3;exact ⟨m',hm,σ3,H3,I3,w3⟩
  | brk=>exact q3
  | ret v=>exact q3
 | false =>
  rw [if_neg Bool.false_ne_true];exact wpAny_execs_nil ⟨σ1,H2,I2,q2⟩
end
structure It where
 go:Nat->Hp->Prop
 yld:Nat->Hp->V->Hp->Prop
 stop:Nat->Hp->Prop
def FpOk (X:Cx) (pins:[8]) (H:Hp) (b:Addr):Prop :=
 H b=none /\ b ≠ X.env.locals /\ b ∉ X.fs /\ (b ∈ X.ex \/ X.s₀.heap.objs.size<=b) /\ (∀ x c,X.env.cells.lookup x=some c->c ≠ b) /\ ∀ p ∈ X.pn ++ pins,p.1 ≠ b
theorem Inv.fpOk {X:Cx} {pins:[8]} {σ:St} {H H':Hp} {s:[39]} {b:Addr} (I:[7]) (hb:s.heap.objs.size<=b) (hn:H' b=none):FpOk X pins H' b:=by
 refine ⟨hn,Nat.ne_of_gt (Nat.lt_of_lt_of_le I.lt hb),I.nofs hb,.inr (Nat.le_trans I.sz hb),λ x c e z=>?_,λ p hp z=>?_⟩
 ·obtain ⟨v,q⟩:=I.cell x c e;exact absurd (Nat.lt_of_lt_of_le q.lt (by rw [z]; exact hb)) (Nat.lt_irrefl _)
 ·exact absurd (Nat.lt_of_lt_of_le (Heap.lt_size (I.pin p hp).1) (by rw [z]; exact hb)) (Nat.lt_irrefl _)
structure Turn (P:Program) (w:World) (K:PySem.W.Frag) (tg:Expr) (J:It) (fp:List Addr) (it:Addr) (tn:Nat->Heap->Prop):Prop where
 mem:it ∈ fp
 obj:∀ i h,tn i h->∀ b ∈ fp,∃ o,h.get? b=some o /\ ∀ v,o.data ≠ .cell v
 keep:∀ i h h',tn i h->(∀ b ∈ fp,∀ o,h.get? b=some o->h'.get? b=some o)->tn i h'
 item:∀ (X:Cx),X.prog=P->X.w=w->X.K=K->X.calm=true->∀ (i:Nat) (pins:List (Addr × Obj)) (s:Shared) (σ:St) (H:Hp) (E:Value->Shared->Prop),Inv X pins σ H s->(∀ b ∈ fp,FpOk X pins H b)->tn i s.heap->J.go i H ->
  wpAny (model P w) X.A (pyNext (.ref it)) (λ r s1=>∃ u,r=some u ∧
   wpAny (model P w) X.A (letOwnedTupleGo tg (.ref it) u) (λ _ s2=>∃ x H',Inv X pins σ H' s2 /\ RelV x u /\ J.yld i H x H' /\ tn (i + 1) s2.heap /\ ∀ b ∈ fp,H' b=none) E s1) E s
 done:∀ (X:Cx),X.prog=P->X.w=w->X.K=K->X.calm=true->∀ (i:Nat) (pins:List (Addr × Obj)) (s:Shared) (σ:St) (H:Hp) (E:Value->Shared->Prop),Inv X pins σ H s->(∀ b ∈ fp,FpOk X pins H b)->tn i s.heap->J.stop i H ->
  wpAny (model P w) X.A (pyNext (.ref it)) (λ r s1=>r=none /\ Inv X pins σ H s1) E s
 self:∀ (A:Around) (i:Nat) (s:Shared) (Q:Value->Shared->Prop) (E:Value->Shared->Prop),tn i s.heap->Q (.ref it) s->wpAny (model P w) A (pyIter (.ref it)) Q E s
abbrev TI:=St->Hp->(It->Hp->Prop)->Prop
def PIE (X:Cx) (pins:[8]) (σ:St) (tg:Expr) (R:It->Hp->Prop) (itv:Value) (s2:[39]):Prop :=
 ∃ (it:Addr) (fp:List Addr) (tn:Nat->Heap->Prop) (J:It) (H':Hp),itv=.ref it /\ Inv X pins σ H' s2 /\ Turn X.prog X.w X.K tg J fp it tn /\ tn 0 s2.heap /\ (∀ b ∈ fp,FpOk X pins H' b) /\ R J H'
def PI (X:Cx) (tg iter:Expr) (wi:TI):Prop :=
 ∀ (pins:[8]) (s:[39]) (σ:St) (H:Hp) (R:It->Hp->Prop),Inv X pins σ H s->wi σ H R ->
  wpAny [10] X.A (eval iter X.env) (λ v s1=>wpAny [10] X.A (pyIter v) (PIE X pins σ tg R) X.xe s1) X.xe s
theorem ym2 {M:Model} {A:Around} {E:[4]} {s:[39]} {tg:Expr} {it:Addr} {u:Value} {o:Obj} {n:String} {vs:Array Value} {Q:Unit->Shared->Prop} (ho:s.heap.get? it=some o) (hc:o.cls=.type n) (hd:o.data=.fields vs)
    (hn:["enumerate", "zip", "dict_itemiterator", "dict_reverseitemiterator", "odict_iterator", "itertools.zip_longest", "itertools.pairwise"].contains n=false) (hQ:Q () s):wpAny M A (letOwnedTupleGo tg (.ref it) u) Q E s:=by
 unfold letOwnedTupleGo
 cases tg <;> first
  | exact wpAny_pure hQ
  | (cases u <;> first
      | exact wpAny_pure hQ
      | (refine wpAny_bind (wpAny_load ho ?_)
         rw [hc,hd];show wpAny M A (if (["enumerate", "zip", "dict_itemiterator", "dict_reverseitemiterator", "odict_iterator", "itertools.zip_longest", "itertools.pairwise"].contains n && vs[0]? == some (rawInt _))=true then _ else _) Q E s;rw [if_neg (by intro h; rw [hn,Bool.false_and] at h; cases h)];exact wpAny_pure hQ))
def Itl (K:PySem.W.Frag) (a:Addr):It :=
 ⟨λ i H=>∃ xs x,SqL K H a xs /\ xs[i]?=some x,λ i H x H'=>H'=H /\ ∀ xs,SqL K H a xs->xs[i]?=some x,λ i H=>∃ xs,SqL K H a xs /\ xs.length<=i⟩
def Itt (K:PySem.W.Frag) (a:Addr):It :=
 ⟨λ i H=>∃ xs x,SqT K H a xs /\ xs[i]?=some x,λ i H x H'=>H'=H /\ ∀ xs,SqT K H a xs->xs[i]?=some x,λ i H=>∃ xs,SqT K H a xs /\ xs.length<=i⟩
def Itr (lo:Int) (n:Nat):It:=⟨λ i _=>i < n,λ i H x H'=>H'=H /\ x=.int (lo + i),λ i _=>n<=i⟩
theorem zt1 {P:Program} {w:World} {K:PySem.W.Frag} {tg:Expr} (a it:Addr):Turn P w K tg (Itl K a) [it] it (λ i h=>h.IsListIter it a i) where
 mem:=by simp
 obj:=λ i h st b hb=>by
  have e:b=it:=by simpa using hb
  subst e;obtain ⟨o,e,c,d⟩:=st;exact ⟨o,e,λ v z=>by rw [d] at z; cases z⟩
 keep:=λ i h h' st k=>st.at λ o e=>k it [20] o e
 item:=by
  intro X hP hw hK hc i pins s σ H E I hf st hg;subst hP hw hK;obtain ⟨xs,x,hq,hx⟩:=hg;obtain ⟨its,rv,p,hz⟩:=I.list hq;obtain ⟨u,hu,ru⟩:=rv.get hx;obtain ⟨f0,f1,f2,f3,f4,f5⟩:=hf it [20];refine wpAny_pyNext_list_item st p.isList (x:=u) (by simpa using hu) λ h' st' sb=>?_;have I1:Inv X pins σ H { s with heap:=h' }:=I.turned (t':=s.toks) (λ b o hb e=>(sb.2 b hb).trans e) f0 f1 f3 f4 f5;obtain ⟨o,e,c,d⟩:=id st';exact ⟨u,rfl,ym2 (s:={ s with heap:=h' }) e c d [9] ⟨x,H,I1,ru,⟨rfl,λ ys hy=>by rw [I.list_inj hy hq]; exact hx⟩,st',λ b hb=>(hf b hb).1⟩⟩
 done:=by
  intro X hP hw hK hc i pins s σ H E I hf st hg;subst hP hw hK;obtain ⟨xs,hq,hx⟩:=hg;obtain ⟨its,rv,p,hz⟩:=I.list hq;obtain ⟨f0,f1,f2,f3,f4,f5⟩:=hf it [20];have hl:=rv.length;exact wpAny_pyNext_list_end (I.ok.hd hc) st p.isList (by simp; omega) λ h' eb=>⟨rfl,I.turned (t':=s.toks) (λ b o hb e=>eb b o hb e) f0 f1 f3 f4 f5⟩
 self:=λ _ _ _ _ _ st h=>wpAny_pyIter_listiter st h
theorem wn1 {P:Program} {w:World} {K:PySem.W.Frag} {tg:Expr} (a it:Addr):Turn P w K tg (Itt K a) [it] it (λ i h=>h.IsTupleIter it a i) where
 mem:=by simp
 obj:=λ i h st b hb=>by
  have e:b=it:=by simpa using hb
  subst e;obtain ⟨o,e,c,d⟩:=st;exact ⟨o,e,λ v z=>by rw [d] at z; cases z⟩
 keep:=λ i h h' st k=>st.at λ o e=>k it [20] o e
 item:=by
  intro X hP hw hK hc i pins s σ H E I hf st hg;subst hP hw hK;obtain ⟨xs,x,hq,hx⟩:=hg;obtain ⟨its,rv,p,hz⟩:=I.tuple hq;obtain ⟨u,hu,ru⟩:=rv.get hx;obtain ⟨f0,f1,f2,f3,f4,f5⟩:=hf it [20];refine wpAny_pyNext_tuple_item st (show s.heap.IsTuple a its.toArray from p) (x:=u) (by simpa using hu) λ h' st' sb=>?_;have I1:Inv X pins σ H { s with heap:=h' }:=I.turned (t':=s.toks) (λ b o hb e=>(sb.2 b hb).trans e) f0 f1 f3 f4 f5;obtain ⟨o,e,c,d⟩:=id st';exact ⟨u,rfl,ym2 (s:={ s with heap:=h' }) e c d [9] ⟨x,H,I1,ru,⟨rfl,λ ys hy=>by rw [I.tuple_inj hy hq]; exact hx⟩,st',λ b hb=>(hf b hb).1⟩⟩
 done:=by
  intro X hP hw hK hc i pins s σ H E I hf st hg;subst hP hw hK;obtain ⟨xs,hq,hx⟩:=hg;obtain ⟨its,rv,p,hz⟩:=I.tuple hq;obtain ⟨f0,f1,f2,f3,f4,f5⟩:=hf it [20];have hl:=rv.length;exact wpAny_pyNext_tuple_end (I.ok.hd hc) st (show s.heap.IsTuple a its.toArray from p) (by simp; omega) λ h' eb=>⟨rfl,I.turned (t':=s.toks) (λ b o hb e=>eb b o hb e) f0 f1 f3 f4 f5⟩
 self:=λ _ _ _ _ _ st h=>wpAny_pyIter_tupleiter st h
theorem vn1 {P:Program} {w:World} {K:PySem.W.Frag} {tg:Expr} (it:Addr) (lo:Int) (n:Nat):Turn P w K tg (Itr lo n) [it] it (λ i h=>IsRangeIter h it (lo + (i:Nat) * 1) ((n:Int) - (i:Nat)) 1) where
 mem:=by simp
 obj:=λ i h st b hb=>by
  have e:b=it:=by simpa using hb
  subst e
  exact ⟨_,st,λ v z=>by
   have z':Data.fields _=Data.cell v:=z;cases z'⟩
 keep:=λ i h h' st k=>k it [20] _ st
 item:=by
  intro X hP hw hK hc i pins s σ H E I hf st hg;subst hP hw hK;obtain ⟨f0,f1,f2,f3,f4,f5⟩:=hf it [20];have W:=Walks.range (prog:=X.prog) (w:=X.w) (I.ok.hd hc) it lo 1 n;refine W.item i s _ _ hg st λ v h' tk hv st' kk=>?_;obtain ⟨t,rfl⟩:=hv;have I1:Inv X pins σ H { s with heap:=h',toks:=tk }:=I.turned (λ b o hb e=>kk b o (by simpa using hb) e) f0 f1 f3 f4 f5;refine ⟨_,rfl,ym2 (s:={ s with heap:=h',toks:=tk }) (n := "range_iterator") st' rfl rfl [9] ⟨.int (lo + i),H,I1,⟨t,?_⟩,⟨rfl,rfl⟩,st',λ b hb=>(hf b hb).1⟩⟩;rw [Int.mul_one]
 done:=by
  intro X hP hw hK hc i pins s σ H E I hf st hg;subst hP hw hK;obtain ⟨f0,f1,f2,f3,f4,f5⟩:=hf it [20];exact wpAny_pyNext_range_end (I.ok.hd hc) st (by have:n<=i:=hg; omega) λ h' eb=>⟨rfl,I.turned (t':=s.toks) (λ b o hb e=>eb b o hb e) f0 f1 f3 f4 f5⟩
 self:=λ _ _ _ _ _ st h=>wpAny_pyIter_rangeiter st h
section
variable {X:Cx} {tg:Expr}
theorem yk1 {pins:[8]} {σ:St} {H:Hp} {s:[39]} {R:It->Hp->Prop} {E:[4]} {lo hi:Int} {t u v:Tok} {tk:Nat} (I:[7]) (h1 : -(2 ^ 62)<=lo) (h2:lo < 2 ^ 62) (h3 : -(2 ^ 62)<=hi) (h4:hi < 2 ^ 62)
    (q:R (Itr lo (hi - lo).toNat) H):wpAny [10] X.A (pyIter (.ref s.heap.objs.size)) (PIE X pins σ tg R) E { s with heap:=s.heap.push { cls:=.type "range",data:=.fields #[.int lo t,.int hi u,.int 1 v] },toks:=tk }:=by
 refine wpAny_pyIter_range (IsRange.new ..) (small_one h1 h2 h3 h4) ?_;have I1:Inv X pins σ H { s with heap:=s.heap.push { cls:=.type "range",data:=.fields #[.int lo t,.int hi u,.int 1 v] },toks:=tk }:=I.kept λ b o e=>Heap.get?_push_of_some _ e
 refine ⟨(s.heap.push { cls:=.type "range",data:=.fields #[.int lo t,.int hi u,.int 1 v] }).objs.size,[(s.heap.push { cls:=.type "range",data:=.fields #[.int lo t,.int hi u,.int 1 v] }).objs.size],_,_,H,rfl,
  I1.kept (t':=tk) λ b o e=>Heap.get?_push_of_some _ e,vn1 _ lo (hi - lo).toNat,?_,λ b hb=>?_,q⟩
 ·have e1:lo + ((0:Nat):Int) * 1=lo:=by simp
  have e2:(((hi - lo).toNat:Nat):Int) - ((0:Nat):Int)=Builtin.Range.rangeSize lo hi 1:=by rw [rangeSize_one]; split <;> omega
  show IsRangeIter _ _ (lo + ((0:Nat):Int) * 1) ((((hi - lo).toNat:Nat):Int) - ((0:Nat):Int)) 1;rw [e1,e2];exact Heap.get?_push_size _ rfl
 ·have e:b=(s.heap.push { cls:=.type "range",data:=.fields #[.int lo t,.int hi u,.int 1 v] }).objs.size:=by simpa using hb
  subst e;exact I1.fpOk [26] (I1.hok.fresh [26])
def sk4 (ta:TA):TI:=λ σ H R=>ta σ H λ vs H1=>∃ j:Int,vs=[.int j] /\ -(2 ^ 62)<=j /\ j < 2 ^ 62 /\ R (Itr 0 j.toNat) H1
def tk4 (ta:TA):TI:=λ σ H R=>ta σ H λ vs H1=>∃ i j:Int,vs=[.int i,.int j] /\ (-(2 ^ 62)<=i /\ i < 2 ^ 62 /\ -(2 ^ 62)<=j /\ j < 2 ^ 62) /\ R (Itr i (j - i).toNat) H1
theorem ux1 {a:Expr} {ta:TA} {p pos:Pos} (hg:Gl X "range") (hm:X.mg "range" = none) (ha:PA X [a] ta) (hs:starEach [a] X.env=[(false,eval a X.env)]:=by rfl):PI X tg (.Call (.Name "range" p) [a] [] pos) (sk4 ta):=by
 intro pins s σ H R I h;refine Call_ (wp0 I hg hm boot_range (PyProof.Rows.callWith_type1 (thn (ha pos pins s σ H _ I h) λ us s1 ⟨vs,H1,I1,r1,q1⟩=>?_) hs rfl));obtain ⟨j,e,q1,q2,q⟩:=q1;subst e;cases r1 with
 | cons r rr =>
  cases rr;obtain ⟨t,rfl⟩:=r;exact call_range_1 (yk1 I1 [1] [1] q1 q2 (by simpa using q))
theorem vx1 {a b:Expr} {ta:TA} {p pos:Pos} (hg:Gl X "range") (hm:X.mg "range" = none) (ha:PA X [a,b] ta) (hs:starEach [a,b] X.env=[(false,eval a X.env),(false,eval b X.env)]:=by rfl) (hs2:starEach [b] X.env=[(false,eval b X.env)]:=by rfl) :
    PI X tg (.Call (.Name "range" p) [a,b] [] pos) (tk4 ta):=by
 intro pins s σ H R I h;refine Call_ (wp0 I hg hm boot_range (PyProof.Rows.callWith_type1 (thn (ha pos pins s σ H _ I h) λ us s1 ⟨vs,H1,I1,r1,q1⟩=>?_) (by rw [hs,hs2]) (by rw [hs2]; rfl)));obtain ⟨i,j,e,⟨q1,q2,q3,q4⟩,q⟩:=q1;subst e;cases r1 with
 | cons r rr =>
  cases rr with
  | cons r' rr =>
   cases rr;obtain ⟨t,rfl⟩:=r;obtain ⟨t',rfl⟩:=r';exact call_range_2 (yk1 I1 q1 q2 q3 q4 q)
def tFor (wi:TI) (g:TG) (tb:TS):TS:=λ D σ H=>wi σ H λ J H1=>∃ W:Nat->Nat->St->Hp->Prop,(∃ m,W 0 m σ H1) /\ ∀ i m σ H,W i m σ H ->
 (J.stop i H /\ D.nx σ H) \/ (J.go i H /\ ∃ N:St->Hp->Prop,(∀ σ' H',N σ' H'->∃ m',m' < m /\ W (i + 1) m' σ' H') /\ ∀ x H',J.yld i H x H'->g x σ H' λ σ2 H2=>tb { D with nx:=N,ct:=N,bk:=D.nx } σ2 H2)
def tr0 (fp:List Addr) (h:Heap):List (Addr × Obj):=fp.filterMap λ b=>(h.get? b).map λ o=>(b,o)
theorem zg0 {fp:List Addr} {h:Heap} {b:Addr} {o:Obj} (hb:b ∈ fp) (e:h.get? b=some o):(b,o) ∈ tr0 fp h:=List.mem_filterMap.mpr ⟨b,hb,by rw [e]; rfl⟩
theorem wy1 {fp:List Addr} {h:Heap} {p:Addr × Obj} (hp:p ∈ tr0 fp h):p.1 ∈ fp /\ h.get? p.1=some p.2:=by
 obtain ⟨b,hb,e⟩:=List.mem_filterMap.mp hp;cases q:h.get? b with
 | none=>rw [q] at e; cases e
 | some o =>
  rw [q] at e;have e':(b,o)=p:=Option.some.inj e;subst e';exact ⟨hb,q⟩
theorem Inv.pinned {pins:[8]} {σ:St} {H:Hp} {s:[39]} {fp:List Addr} (I:[7]) (hf:∀ b ∈ fp,FpOk X pins H b) (ho:∀ b ∈ fp,∃ o,s.heap.get? b=some o /\ ∀ v,o.data ≠ .cell v):Inv X (pins ++ tr0 fp s.heap) σ H s :=
 I.pins_of λ p hp=>(List.mem_append.mp hp).elim (λ z=>I.pin p (mem_append_right _ z)) λ z=>by
  obtain ⟨hb,e⟩:=wy1 z;obtain ⟨f0,f1,f2,_⟩:=hf p.1 hb;obtain ⟨o,e',d⟩:=ho p.1 hb;rw [e] at e'; cases e';exact ⟨e,f0,f1,f2,d⟩
theorem Inv.unpinned {pins pl:[8]} {σ:St} {H:Hp} {s:[39]} (I:Inv X (pins ++ pl) σ H s):Inv X pins σ H s:=I.pins_of λ p hp=>I.pin p (mem_append_right _ (mem_append_left _ hp))
theorem xu3 {iter:Expr} {body:List Stmt} {wi:TI} {g:TG} {tb:TS} {pos:Pos} (hp:PassesOwn [10] X.A X.env X.xe) (hc:X.calm=true) (hi:PI X tg iter wi) (hg:PG X tg g) (hb:PSs X body tb)
    (hs:∀ x,foldedSetIterable iter X.env x=pure x:=by intro _; rfl):PS X (.For tg iter body [] pos) (tFor wi g tb):=by
 intro pins s σ H D I h;refine wpAny_For (thn (hi pins s σ H _ I h) λ v s1 h1=>thn h1 λ itv s2 h2=>?_) hs;obtain ⟨it,fp,tn,J,H2,e,I2,T,st2,f2,W,⟨m0,w0⟩,turn⟩:=h2;subst e;have stat:∀ {H':Hp},(∀ b ∈ fp,H' b=none)->∀ b ∈ fp,FpOk X pins H' b:=λ hn b hb=>⟨hn b hb,(f2 b hb).2⟩;refine codeAny_forLoop_any (λ n s'=>∃ i σ' H',Inv X pins σ' H' s' /\ tn i s'.heap /\ (∀ b ∈ fp,H' b=none) /\ W i n σ' H') ?_ m0 ⟨0,σ,H2,I2,st2,λ b hb=>(f2 b hb).1,w0⟩;rintro n s3 ⟨i,σ3,H3,I3,st3,fr3,w3⟩;rcases turn i n σ3 H3 w3 with ⟨stop,qn⟩ | ⟨go,N,hN,step⟩
 ·refine wpAny_passesOwn hp (thn (T.done X rfl rfl rfl hc i pins s3 σ3 H3 X.xe I3 (stat fr3) st3 stop) λ r s4 ⟨hr,I4⟩=>?_);subst hr;exact wpAny_execs_nil ⟨σ3,H3,I4,qn⟩
 ·refine wpAny_passesOwn hp (thn (T.item X rfl rfl rfl hc i pins s3 σ3 H3 X.xe I3 (stat fr3) st3 go) λ r s4 ⟨u,hr,h4⟩=>?_);subst hr;refine wpAny_passesOwn hp (thn h4 λ _ s5 ⟨x,H5,I5,r5,y5,st5,fr5⟩=>?_);have I5':=I5.pinned (stat fr5) (T.obj _ _ st5);refine wpAny_passesOwn hp (thn (hg _ s5 σ3 H5 x u _ I5' r5 (step x H5 y5)) λ _ s6 ⟨σ6,H6,I6,q6⟩=>?_);refine wpAny_passesOwn hp (thn (hb _ s6 σ6 H6 _ I6 q6) λ f s7 q7=>?_)
  have again:∀ {σ7:St} {H7:Hp},Inv X (pins ++ tr0 fp s5.heap) σ7 H7 s7->N σ7 H7->∃ m,m < n /\ ∃ i σ' H',Inv X pins σ' H' s7 /\ tn i s7.heap /\ (∀ b ∈ fp,H' b=none) /\ W i m σ' H':=λ {σ7 H7} I7 n7=>by
   obtain ⟨m',hm,w7⟩:=hN σ7 H7 n7;refine ⟨m',hm,i + 1,σ7,H7,I7.unpinned,T.keep _ _ _ st5 λ b hb o e=>(I7.pin (b,o) (mem_append_right _ (mem_append_right _ (zg0 hb e)))).1,λ b hb=>?_,w7⟩;obtain ⟨o,e,d⟩:=T.obj _ _ st5 b hb;exact (I7.pin (b,o) (mem_append_right _ (mem_append_right _ (zg0 hb e)))).2.1
  cases f with
  | next=>obtain ⟨σ7,H7,I7,n7⟩:=q7; exact again I7 n7
  | cont=>obtain ⟨σ7,H7,I7,n7⟩:=q7; exact again I7 n7
  | brk=>obtain ⟨σ7,H7,I7,q7⟩:=q7; exact ⟨σ7,H7,I7.unpinned,q7⟩
  | ret v=>obtain ⟨x7,σ7,H7,I7,r7,q7⟩:=q7; exact ⟨x7,σ7,H7,I7.unpinned,r7,q7⟩
end
abbrev R2:=V->V->Hp->VK->Prop
def OpR (X:Cx) (f:Value->Value->Sem Value) (r:R2):Prop :=
 ∀ (pins:[8]) (s:[39]) (σ:St) (H:Hp) (x y:V) (v u:Value) (Q:VK),Inv X pins σ H s->RelV x v->RelV y u->r x y H Q ->
  wpAny [10] X.A (f v u) (EP X pins σ Q) X.xe s
def UnR (X:Cx) (f:Value->Sem Value) (r:V->Hp->VK->Prop):Prop :=
 ∀ (pins:[8]) (s:[39]) (σ:St) (H:Hp) (x:V) (v:Value) (Q:VK),Inv X pins σ H s->RelV x v->r x H Q ->
  wpAny [10] X.A (f v) (EP X pins σ Q) X.xe s
def CallR (X:Cx) (f:Value) (r:List V->Hp->VK->Prop):Prop :=
 ∀ (pins:[8]) (s:[39]) (σ:St) (H:Hp) (xs:List V) (us:[22]) (Q:VK),Inv X pins σ H s->Vals xs us->r xs H Q ->
  wpAny [10] X.A (call f us) (EP X pins σ Q) X.xe s
def tOp (r:R2) (ta tb:TE):TE:=λ σ H Q=>ta σ H λ x H1=>tb σ H1 λ y H2=>r x y H2 Q
def tUn (r:V->Hp->VK->Prop) (ta:TE):TE:=λ σ H Q=>ta σ H λ x H1=>r x H1 Q
def rI (C:Int->Int->Prop) (g:Int->Int->V):R2:=λ x y H Q=>∃ i j,x=.int i /\ y=.int j /\ C i j /\ Q (g i j) H
def rI0 (g:Int->Int->V):R2:=λ x y H Q=>∃ i j,x=.int i /\ y=.int j /\ Q (g i j) H
def rU (g:Int->V):V->Hp->VK->Prop:=λ x H Q=>∃ i,x=.int i /\ Q (g i) H
section
variable {X:Cx} {a b c:Expr} {ta tb tc:TE} {pos:Pos}
theorem binT (ha:PE X a ta) (hb:PE X b tb) {pins:[8]} {s:[39]} {σ:St} {H:Hp} {R:V->V->Hp->Prop} (I:[7])
    (h:ta σ H λ x H1=>tb σ H1 λ y H2=>R x y H2) {Q:[4]} {f:Value->Value->Sem Value}
    (hf:∀ v u s2 x y H2,Inv X pins σ H2 s2->RelV x v->RelV y u->R x y H2->wpAny [10] X.A (f v u) Q X.xe s2) :
    wpAny [10] X.A (eval a X.env) (λ v s₁=>wpAny [10] X.A (eval b X.env) (λ u s₂=>wpAny [10] X.A (f v u) Q X.xe s₂) X.xe s₁) X.xe s:=by
 refine thn (ha pins s σ H _ I h) λ v s1 ⟨x,H1,I1,r1,q1⟩=>?_;refine thn (hb pins s1 σ H1 _ I1 q1) λ u s2 ⟨y,H2,I2,r2,q2⟩=>?_;exact hf v u s2 x y H2 I2 r1 r2 q2
theorem yj4 {op:Operator} {r:R2} (ho:OpR X (binaryOp op) r) (ha:PE X a ta) (hb:PE X b tb):PE X (.BinOp a op b pos) (tOp r ta tb):=by
 intro pins s σ H Q I h;exact wpAny_BinOp (binT ha hb I h λ v u s2 x y H2 I2 rx ry q=>ho pins s2 σ H2 x y v u Q I2 rx ry q)
theorem xj4 {op:UnaryOp} {r:V->Hp->VK->Prop} (ho:UnR X (unaryOp op) r) (ha:PE X a ta):PE X (.UnaryOp op a pos) (tUn r ta):=by
 intro pins s σ H Q I h;exact UnaryOp_ (thn (ha pins s σ H _ I h) λ v s1 ⟨x,H1,I1,r1,q1⟩=>ho pins s1 σ H1 x v Q I1 r1 q1)
theorem opI {f:Value->Value->Sem Value} {C:Int->Int->Prop} {g:Int->Int->Int}
    (rule:∀ (i j:Int) (t u:Tok) (s:[39]) (Q:[4]) (E:[4]),C i j->Q (.int (g i j) s.toks) { s with toks:=s.toks + 1 }->wpAny [10] X.A (f (.int i t) (.int j u)) Q E s) :
    OpR X f (rI C λ i j=>.int (g i j)):=by
 intro pins s σ H x y v u Q I rx ry h;obtain ⟨i,j,rfl,rfl,hc,q⟩:=h;obtain ⟨t,rfl⟩:=rx;obtain ⟨t',rfl⟩:=ry;exact rule i j t t' s _ _ hc ⟨.int (g i j),H,I.tok _,⟨_,rfl⟩,q⟩
theorem opI0 {f:Value->Value->Sem Value} {g:Int->Int->Int}
    (rule:∀ (i j:Int) (t u:Tok) (s:[39]) (Q:[4]) (E:[4]),Q (.int (g i j) s.toks) { s with toks:=s.toks + 1 }->wpAny [10] X.A (f (.int i t) (.int j u)) Q E s) :
    OpR X f (rI0 λ i j=>.int (g i j)):=by
 intro pins s σ H x y v u Q I rx ry h;obtain ⟨i,j,rfl,rfl,q⟩:=h;obtain ⟨t,rfl⟩:=rx;obtain ⟨t',rfl⟩:=ry;exact rule i j t t' s _ _ ⟨.int (g i j),H,I.tok _,⟨_,rfl⟩,q⟩
theorem opB0 {f:Value->Value->Sem Value} {g:Int->Int->Bool}
    (rule:∀ (i j:Int) (t u:Tok) (s:[39]) (Q:[4]) (E:[4]),Q (.bool (g i j)) s->wpAny [10] X.A (f (.int i t) (.int j u)) Q E s) :
    OpR X f (rI0 λ i j=>.bl (g i j)):=by
 intro pins s σ H x y v u Q I rx ry h;obtain ⟨i,j,rfl,rfl,q⟩:=h;obtain ⟨t,rfl⟩:=rx;obtain ⟨t',rfl⟩:=ry;exact rule i j t t' s _ _ ⟨.bl (g i j),H,I,rfl,q⟩
def CPow (i j:Int):Prop:=0<=j /\ j<=1000000 /\ i.natAbs < 2 ^ 64
def CMul (i j:Int):Prop:=(-(2 ^ 64) < i /\ i < 2 ^ 64) \/ (-(2 ^ 64) < j /\ j < 2 ^ 64)
theorem CMul.ok {i j:Int} (h:CMul i j):IntMulOk i j:=by
 rcases h with ⟨h1,h2⟩ | ⟨h1,h2⟩
 ·exact .of_left (intBits_le_64 h1 h2)
 ·exact .of_right (intBits_le_64 h1 h2)
theorem op_add:OpR X (binaryOp .Add) (rI0 λ i j=>.int (i + j)):=opI0 λ _ _ _ _ _ _ _ q=>add_int q
theorem vv3:OpR X (binaryOp .Sub) (rI0 λ i j=>.int (i - j)):=opI0 λ _ _ _ _ _ _ _ q=>sub_int q
theorem xw3:OpR X (binaryOp .Mod) (rI (λ _ j=>0 < j) λ i j=>.int (i % j)):=opI λ i j _ _ _ _ _ hc q=>by
 have h1:(0:Int) < j:=hc;exact mod_int' [1] (by rw [Int.fmod_eq_emod_of_nonneg i [1]]; exact q)
theorem tv3:OpR X (binaryOp .Pow) (rI CPow λ i j=>.int (i ^ j.toNat)):=opI λ _ _ _ _ _ _ _ hc q=>pow_int_small hc.1 hc.2.1 hc.2.2 q
theorem unI {f:Value->Sem Value} {g:Int->Int}
    (rule:∀ (i:Int) (t:Tok) (s:[39]) (Q:[4]) (E:[4]),Q (.int (g i) s.toks) { s with toks:=s.toks + 1 }->wpAny [10] X.A (f (.int i t)) Q E s) :
    UnR X f (rU λ i=>.int (g i)):=by
 intro pins s σ H x v Q I rx h;obtain ⟨i,rfl,q⟩:=h;obtain ⟨t,rfl⟩:=rx;exact rule i t s _ _ ⟨.int (g i),H,I.tok _,⟨_,rfl⟩,q⟩
theorem tf3:UnR X (unaryOp .USub) (rU λ i=>.int (-i)):=unI λ _ _ _ _ _ q=>neg_int q
end
def scal:V->V->Bool
 | .non,.non=>true | .non,.int _=>true | .int _,.non=>true | .non,.bl _=>true | .bl _,.non=>true | .non,.str _=>true | .str _,.non=>true
 | .int _,.int _=>true | .bl _,.bl _=>true | .str _,.str _=>true | .byt _,.byt _=>true
 | .int _,.str _=>true | .str _,.int _=>true | .bl _,.str _=>true | .str _,.bl _=>true
 | _,_=>false
def rEq:R2:=λ x y H Q=>scal x y=true /\ Q (.bl (decide (x=y))) H
def rNe:R2:=λ x y H Q=>scal x y=true /\ Q (.bl (!decide (x=y))) H
theorem xd2 {i j:Int}:decide (V.int i=V.int j)=(i == j):=by
 rw [Bool.eq_iff_iff];simp
theorem sr2 {i j:Bool}:decide (V.bl i=V.bl j)=(i == j):=by
 rw [Bool.eq_iff_iff];simp
theorem sc2 {i j:Str}:decide (V.str i=V.str j)=(i == j):=by
 rw [Bool.eq_iff_iff];simp
theorem yd2 {i j:Array UInt8}:decide (V.byt i=V.byt j)=(i.toList == j.toList):=by
 rw [Bool.eq_iff_iff];cases i;cases j;simp
section
variable {X:Cx} {a b c:Expr} {ta tb tc:TE} {pos:Pos}
theorem sc0 {pins:[8]} {σ:St} {H:Hp} {s:[39]} {Q:VK} {k k':Bool} (I:[7]) (q:Q (.bl k) H) (e:k=k'):EP X pins σ Q (.bool k') s:=by
 subst e;exact ⟨.bl k,H,I,rfl,q⟩
theorem op_eq:OpR X (compareOp .Eq) rEq:=by
 intro pins s σ H x y v u Q I rx ry h;obtain ⟨hs,q⟩:=h;cases x with
 | non =>
  cases rx;cases y with
  | non=>cases ry; exact PySem.EqNone.eq_none_none (sc0 I q [20])
  | bl j=>cases ry; exact PySem.EqNone.eq_none_bool (sc0 I q [20])
  | int j=>obtain ⟨t',rfl⟩:=ry; exact PySem.EqNone.eq_none_int (sc0 I q [20])
  | str j=>obtain ⟨t',rfl⟩:=ry; exact PySem.EqNone.eq_none_str (sc0 I q [20])
  | _=>exact absurd (show false=true from hs) Bool.false_ne_true
 | bl i =>
  cases rx;cases y with
  | non=>cases ry; exact PySem.EqNone.eq_bool_none (sc0 I q [20])
  | bl j=>cases ry; exact eq_bool (sc0 I q sr2)
  | str j=>obtain ⟨t',rfl⟩:=ry; exact PySem.EqMixed.eq_bool_str (sc0 I q [20])
  | _=>exact absurd (show false=true from hs) Bool.false_ne_true
 | int i =>
  obtain ⟨t,rfl⟩:=rx;cases y with
  | non=>cases ry; exact PySem.EqNone.eq_int_none (sc0 I q [20])
  | int j=>obtain ⟨t',rfl⟩:=ry; exact eq_int (sc0 I q xd2)
  | str j=>obtain ⟨t',rfl⟩:=ry; exact PySem.EqMixed.eq_int_str (sc0 I q [20])
  | _=>exact absurd (show false=true from hs) Bool.false_ne_true
 | str i =>
  obtain ⟨t,rfl⟩:=rx;cases y with
  | non=>cases ry; exact PySem.EqNone.eq_str_none (sc0 I q [20])
  | bl j=>cases ry; exact PySem.EqMixed.eq_str_bool (sc0 I q [20])
  | int j=>obtain ⟨t',rfl⟩:=ry; exact PySem.EqMixed.eq_str_int (sc0 I q [20])
  | str j=>obtain ⟨t',rfl⟩:=ry; exact eq_str (sc0 I q sc2)
  | _=>exact absurd (show false=true from hs) Bool.false_ne_true
 | byt i =>
  obtain ⟨t,rfl⟩:=rx;cases y with
  | byt j=>obtain ⟨t',rfl⟩:=ry; exact PySem.W.eq_bytes (sc0 I q yd2)
  | _=>exact absurd (show false=true from hs) Bool.false_ne_true
 | _=>cases y <;> exact absurd (show false=true from hs) Bool.false_ne_true
theorem op_ne:OpR X (compareOp .NotEq) rNe:=by
 intro pins s σ H x y v u Q I rx ry h;obtain ⟨hs,q⟩:=h;cases x with
 | non =>
  cases rx;cases y with
  | non=>cases ry; exact PySem.EqNone.ne_none_none (sc0 I q [20])
  | bl j=>cases ry; exact PySem.EqNone.ne_none_bool (sc0 I q [20])
  | int j=>obtain ⟨t',rfl⟩:=ry; exact PySem.EqNone.ne_none_int (sc0 I q [20])
  | str j=>obtain ⟨t',rfl⟩:=ry; exact PySem.EqNone.ne_none_str (sc0 I q [20])
  | _=>exact absurd (show false=true from hs) Bool.false_ne_true
 | bl i =>
  cases rx;cases y with
  | non=>cases ry; exact PySem.EqNone.ne_bool_none (sc0 I q [20])
  | bl j=>cases ry; exact ne_bool (sc0 I q (congrArg not sr2))
  | str j=>obtain ⟨t',rfl⟩:=ry; exact PySem.EqMixed.ne_bool_str (sc0 I q [20])
  | _=>exact absurd (show false=true from hs) Bool.false_ne_true
 | int i =>
  obtain ⟨t,rfl⟩:=rx;cases y with
  | non=>cases ry; exact PySem.EqNone.ne_int_none (sc0 I q [20])
  | int j=>obtain ⟨t',rfl⟩:=ry; exact ne_int (sc0 I q (congrArg not xd2))
  | str j=>obtain ⟨t',rfl⟩:=ry; exact PySem.EqMixed.ne_int_str (sc0 I q [20])
  | _=>exact absurd (show false=true from hs) Bool.false_ne_true
 | str i =>
  obtain ⟨t,rfl⟩:=rx;cases y with
  | non=>cases ry; exact PySem.EqNone.ne_str_none (sc0 I q [20])
  | bl j=>cases ry; exact PySem.EqMixed.ne_str_bool (sc0 I q [20])
  | int j=>obtain ⟨t',rfl⟩:=ry; exact PySem.EqMixed.ne_str_int (sc0 I q [20])
  | str j=>obtain ⟨t',rfl⟩:=ry; exact ne_str (sc0 I q (congrArg not sc2))
  | _=>exact absurd (show false=true from hs) Bool.false_ne_true
 | byt i =>
  obtain ⟨t,rfl⟩:=rx;cases y with
  | byt j=>obtain ⟨t',rfl⟩:=ry; exact PySem.W.ne_bytes (sc0 I q (congrArg not yd2))
  | _=>exact absurd (show false=true from hs) Bool.false_ne_true
 | _=>cases y <;> exact absurd (show false=true from hs) Bool.false_ne_true
theorem tj4:OpR X (compareOp .Lt) (rI0 λ i j=>.bl (decide (i < j))):=opB0 λ _ _ _ _ _ _ _ q=>lt_int q
theorem sj4:OpR X (compareOp .Gt) (rI0 λ i j=>.bl (decide (j < i))):=opB0 λ _ _ _ _ _ _ _ q=>gt_int q
theorem op_ge:OpR X (compareOp .GtE) (rI0 λ i j=>.bl (decide (j<=i))):=opB0 λ _ _ _ _ _ _ _ q=>ge_int q
theorem yw3:OpR X (compareOp .Is) (λ x y H Q=>y=.non /\ Q (.bl (decide (x=.non))) H):=by
 intro pins s σ H x y v u Q I rx ry h;obtain ⟨rfl,q⟩:=h;cases ry;refine is_none_gen (sc0 I q ?_)
 cases x <;> first
  | (cases rx; rfl)
  | (obtain ⟨t,rfl⟩:=rx; rfl)
theorem sy2:OpR X (compareOp .IsNot) (λ x y H Q=>y=.non /\ Q (.bl (!decide (x=.non))) H):=by
 intro pins s σ H x y v u Q I rx ry h;obtain ⟨rfl,q⟩:=h;cases ry;refine isnot_none_gen (sc0 I q ?_)
 cases x <;> first
  | (cases rx; rfl)
  | (obtain ⟨t,rfl⟩:=rx; rfl)
theorem OpR.or {f:Value->Value->Sem Value} {r r':R2} (h:OpR X f r) (h':OpR X f r'):OpR X f (λ x y H Q=>r x y H Q \/ r' x y H Q):=by
 intro pins s σ H x y v u Q I rx ry q;rcases q with q | q
 ·exact h pins s σ H x y v u Q I rx ry q
 ·exact h' pins s σ H x y v u Q I rx ry q
theorem zq2 (b:Expr) {op:CmpOp} (h:op ≠ .In:=by decide) (h2:op ≠ .NotIn:=by decide):behindInMarks op b=false:=by
 have e1:(op == CmpOp.In)=false:=by cases op <;> first | rfl | exact absurd rfl h
 have e2:(op == CmpOp.NotIn)=false:=by cases op <;> first | rfl | exact absurd rfl h2
 cases b <;> simp [behindInMarks,e1,e2]
theorem vy2 {op:CmpOp} {r:R2} (ho:OpR X (compareOp op) r) (ha:PE X a ta) (hb:PE X b tb) (hm:behindInMarks op b=false):PE X (.Compare a [op] [b] pos) (tOp r ta tb):=by
 intro pins s σ H Q I h;exact wpAny_Compare1 (binT ha hb I h λ v u s2 x y H2 I2 rx ry q=>ho pins s2 σ H2 x y v u Q I2 rx ry q) hm
def vi3 (t:TE):TT:=λ σ H Q=>t σ H λ x H'=>∃ k,x=.bl k /\ Q k H'
theorem tw2 {op:CmpOp} {r:R2} (ho:OpR X (compareOp op) r) (ha:PE X a ta) (hb:PE X b tb) (hm:behindInMarks op b=false):PT X (.Compare a [op] [b] pos) (vi3 (tOp r ta tb)):=by
 intro pins s σ H Q I h
 refine wpAny_isTrue_Compare1 (thn (ha pins s σ H _ I h) λ v s1 ⟨x,H1,I1,r1,q1⟩=>thn (hb pins s1 σ H1 _ I1 q1) λ u s2 ⟨y,H2,I2,r2,q2⟩ =>
  thn (ho pins s2 σ H2 x y v u _ I2 r1 r2 q2) λ c s3 ⟨z,H3,I3,r3,k,e,q3⟩=>?_) hm
 subst e;cases r3;exact wpAny_truthy_bool ⟨H3,I3,q3⟩
theorem zc1:(sizeLine:Nat) < 2 ^ 63:=by rw [sizeLine_eq]; decide
theorem vq1:OpR X (binaryOp .Add) (λ x y H Q=>∃ i j,x=.str i /\ y=.str j /\ i.length + j.length<=sizeLine /\ Q (.str (i ++ j)) H):=by
 intro pins s σ H x y v u Q I rx ry h;obtain ⟨i,j,rfl,rfl,hz,q⟩:=h;obtain ⟨t,rfl⟩:=rx;obtain ⟨t',rfl⟩:=ry;exact add_str (λ t' tk=>⟨.str (i ++ j),H,I.tok _,⟨_,rfl⟩,q⟩) hz
theorem us1 {x:V} {us:[22]} (r:Vals [x] us):∃ u,us=[u] /\ RelV x u:=by
 cases r with
 | cons r1 r2=>cases r2; exact ⟨_,rfl,r1⟩
theorem vf3 {x y:V} {us:[22]} (r:Vals [x,y] us):∃ u w',us=[u,w'] /\ RelV x u /\ RelV y w':=by
 cases r with
 | cons r1 r2 =>
  cases r2 with
  | cons r3 r4=>cases r4; exact ⟨_,_,rfl,r1,r3⟩
theorem ye2 (hc:X.calm=true):CallR X (.builtin "max") (λ xs H Q=>∃ i j,xs=[.int i,.int j] /\ Q (.int (if j > i then j else i)) H):=by
 intro pins s σ H xs us Q I r h;obtain ⟨i,j,rfl,q⟩:=h;obtain ⟨u,w',rfl,⟨t,rfl⟩,⟨t',rfl⟩⟩:=vf3 r;refine max_two_ints (I.ok.hd hc) λ h' tk k=>⟨_,H,I.kept k,?_,q⟩;by_cases hj:j > i
 ·rw [if_pos hj,if_pos hj]; exact ⟨_,rfl⟩
 ·rw [if_neg hj,if_neg hj]; exact ⟨_,rfl⟩
end
theorem RelO.some_of {v:V} {o:Option Value} (r:RelO (some v) o):∃ u,o=some u /\ RelV v u:=by
 cases o with
 | none=>exact (show False from r).elim
 | some u=>exact ⟨u,rfl,r⟩
structure Cls (K:PySem.W.Frag) (C:Addr):Prop where
 pg:PySem.W.plainGet K C Str.empty=true
 hd:PySem.W.hasDictIn K C=true
 po:PySem.W.plainOver K C=true
 sa:findIn K (.ref C) "__setattr__" = some (some (.builtin "object.__setattr__"))
section
variable {X:Cx} {pins:[8]} {σ:St} {H:Hp} {s:[39]} {A:Around} {E:[4]} {Q:[4]} {c:Value} {b:Bool}
inductive TyOf (K:PySem.W.Frag) (H:Hp):V->Value->Prop where
 | non:TyOf K H .non (.type "NoneType")
 | bl (x:Bool):TyOf K H (.bl x) (.type "bool")
 | int (i:Int):TyOf K H (.int i) (.type "int")
 | str (x:Str):TyOf K H (.str x) (.type "str")
 | flt (x:UInt64):TyOf K H (.flt x) (.type "float")
 | lst {a:Addr} {xs:List V} (e:H a=some (.lst xs)):TyOf K H (.ref a) (.type "list")
 | frz {a:Addr} {o:Obj} {xs:List V} (e:H a=some (.frz o (.lst xs))):TyOf K H (.ref a) (.type "list")
 | tup {a:Addr} {xs:List V} (e:H a=some (.tup xs)):TyOf K H (.ref a) (.type "tuple")
 | dK {a:Addr} {kvs:List (Key × V)} (e:H a=some (.dK kvs)):TyOf K H (.ref a) (.type "dict")
 | dT {a:Addr} {kvs:List (List Key × V)} (e:H a=some (.dT kvs)):TyOf K H (.ref a) (.type "dict")
 | ins {a C dx:Addr} {fs:List (Str × V)} (e:H a=some (.ins C dx fs)) (cl:Cls K C) (ha:findIn K (.ref C) "__class__" = some (some (.builtin "object.__class__")))
     (hn:specialIn K (.builtin "object.__class__") "__get__" = some (some (.builtin "getset_descriptor.__get__"))) (htk:takesIn K (.builtin "object.__class__")=some true)
     (hm:mroIn K C (.type "object")=some true):TyOf K H (.ref a) (.ref C)
end
structure Room (k:Nat) (A:Around):Prop where
 hd:A.handled=none
 dp:A.depth + 3 * k + 5 < recursionLimit
 un:A.units + 16 * k + 200 < cLine
theorem Room.mono {j k:Nat} {A:Around} (r:Room k A) (h:j<=k):Room j A:=⟨r.hd,by have:=r.dp; omega,by have:=r.un; omega⟩
theorem Room.deeper {k:Nat} {A:Around} (r:Room (k + 1) A) (env:Env):Room k (A.deeper env) :=
 ⟨r.hd,by have:=r.dp; show A.depth + 1 + 3 * k + 5 < _; omega,by have:=r.un; show A.units + 3 + 16 * k + 200 < _; omega⟩
theorem Room.depth {k:Nat} {A:Around} (r:Room k A):A.depth < recursionLimit:=by have:=r.dp; omega
def tNil:TA:=λ _ H Q=>Q [] H
def wc4 (ta:TE) (tr:TA):TA:=λ σ H Q=>ta σ H λ x H1=>tr σ H1 λ xs H2=>Q (x :: xs) H2
section
variable {X:Cx} {e:Expr} {es:List Expr} {te:TE} {t:TA} {pos:Pos}
theorem xq2:PA X [] tNil:=λ _ _ _ _ H Q I h=>Calls.spliced_nil ⟨[],H,I,.nil,h⟩
theorem zg1 (ha:PE X e te) (hr:PA X es t) (hs:starEach (e :: es) X.env=[29] :: starEach es X.env:=by rfl):PA X (e :: es) (wc4 te t):=by
 intro pos pins s σ H Q I h;rw [hs];show wpAny _ _ (spliced ([29] :: backTo pos (starEach es X.env))) _ _ s;refine Calls.spliced_cons (thn (ha pins s σ H _ I h) λ u s1 ⟨x,H1,I1,r1,q1⟩=>?_);exact thn (hr pos pins s1 σ H1 _ I1 q1) λ us s2 ⟨xs,H2,I2,r2,q2⟩=>⟨x :: xs,H2,I2,.cons r1 r2,q2⟩
def tTup (t:TA):TE:=λ σ H Q=>t σ H λ xs H1=>xs.length<=sizeLine /\ ∀ p,H1 p=none->Q (.ref p) (upd H1 p (.tup xs))
def tLst (t:TA):TE:=λ σ H Q=>t σ H λ xs H1=>xs.length<=sizeLine /\ ∀ p,H1 p=none->Q (.ref p) (upd H1 p (.lst xs))
theorem tu3 {x1} (h:PA X es t):PE X (.Tuple es x1 pos) (tTup t):=by
 intro pins s σ H Q I hq;refine wpAny_Tuple_spliced (thn (h pos pins s σ H _ I hq) λ us s1 ⟨xs,H1,I1,r,z,q⟩=>⟨by rw [<- r.length]; exact z,?_⟩);have hf:H1 s1.heap.objs.size=none:=I1.hok.fresh [26];refine ⟨.ref s1.heap.objs.size,upd H1 s1.heap.objs.size (.tup xs),I1.laid (t':=s1.toks) (λ b u e=>Heap.get?_push_of_some _ e) [26] ?_,rfl,q _ hf⟩;exact ⟨z,us,r,⟨_,Heap.get?_push_size _ rfl,rfl,_,rfl⟩⟩
theorem yv3 (h:PA X es t):PE X (.List es pos) (tLst t):=by
 intro pins s σ H Q I hq;refine wpAny_List_spliced (thn (h pos pins s σ H _ I hq) λ us s1 ⟨xs,H1,I1,r,z,q⟩=>⟨by rw [<- r.length]; exact z,?_⟩);have hf:H1 s1.heap.objs.size=none:=I1.hok.fresh [26];refine ⟨.ref s1.heap.objs.size,upd H1 s1.heap.objs.size (.lst xs),I1.laid (t':=s1.toks) (λ b u e=>Heap.get?_push_of_some _ e) [26] ?_,rfl,q _ hf⟩;exact ⟨z,us,0,r,Heap.get?_push_size _ rfl⟩
end
abbrev Sp:=List V->Hp->VK->XK->Prop
abbrev CXT:=List Env->Hp->Shared->XK->Value->Shared->Prop
structure Env0 (P:Program) (w:World) (K:PySem.W.Frag) (mg:Str->Option Value) (base:Heap) (A:Around) (outer:List Env) (s:Shared) (H:Hp):Prop where
 frames:A.frames=some outer
 mod:Mod K mg base
 bs:∀ b o,base.get? b=some o->s.heap.get? b=some o /\ H b=none
 bsz:base.objs.size<=s.heap.objs.size
 funs:s.heap.FunFrames base outer
 frf:∀ b ∈ frs outer,H b=none
 hok:HOk P w H s.heap
 bare:AllBare s.gens
def CE (outer:List Env) (P:Program) (w:World) (H:Hp) (s:[39]) (Q:VK) (u:Value) (s':[39]):Prop :=
 ∃ v H',s'.os=s.os /\ AllBare s'.gens /\ Un (frs outer) [] H H' s.heap s'.heap /\ HOk P w H' s'.heap /\ RelV v u /\ Q v H'
def CR (CX:CXT) (outer:List Env) (P:Program) (w:World) (H:Hp) (s:[39]) (Q:VK) (E:XK) (r:Result) (s':[39]):Prop :=
 match r with
 | .ok (.ret u)=>CE outer P w H s Q u s'
 | .ok _=>False
 | .error e=>CX outer H s E e s'
structure FnOk (P:Program) (w:World) (K:PySem.W.Frag) (mg:Str->Option Value) (base:Heap) (CX:CXT) (k:Nat) (f:Addr) (fd:FuncData) (ps:List Str) (sp:Sp):Prop where
 len:∀ vs H Q E,sp vs H Q E->vs.length=ps.length
 run:∀ (A:Around) (outer:List Env) (s:Shared) (H:Hp) (args:Args) (us:List Value) (vs:List V) (Q:VK) (E:XK),Room k A->Env0 P w K mg base A outer s H->BindsTo s fd args (ps.zip us)->Vals vs us->sp vs H Q E ->
  codeAny (model P w) A (.call (.ref f) args) (CR CX outer P w H s Q E) s
theorem FnOk.mono {P:Program} {w:World} {K:PySem.W.Frag} {mg:[23]} {base:Heap} {CX:CXT} {j k:Nat} {f:Addr} {fd:FuncData} {ps:List Str} {sp:Sp} (F:FnOk P w K mg base CX j f fd ps sp) (h:j<=k) :
    FnOk P w K mg base CX k f fd ps sp:=⟨F.len,λ A outer s H args us vs Q E hr=>F.run A outer s H args us vs Q E (hr.mono h)⟩
section
variable {X:Cx} {pins:[8]} {σ:St} {H:Hp} {s s':[39]}
theorem Inv.env0 (I:[7]):Env0 X.prog X.w X.K X.mg X.base X.A X.stack s H :=
 ⟨I.ok.frames,I.ok.mod,I.bs,Nat.le_trans I.ok.bsz I.sz,I.stack,I.stkFree,I.hok,I.bare⟩
theorem Inv.after {Q:VK} {u:Value} (I:[7]) (h:CE X.stack X.prog X.w H s Q u s'):EP X pins σ Q u s':=by
 obtain ⟨v,H',os,bare,un,hok,r,q⟩:=h;obtain ⟨hh,g,d,t,os'⟩:=s';obtain rfl:os'=s.os:=os;exact ⟨v,H',I.call (h':=hh) (g':=g) (d':=d) (t':=t) (ch:=[]) un hok bare (λ b z=>absurd z [20]),r,q⟩
end
def xj3 (sp:Sp) (dvs:List V) (E:XK) (t:TA):TE:=λ σ H Q=>t σ H λ vs H1=>sp (vs ++ dvs) H1 Q E
def Binds (K:PySem.W.Frag) (fd:FuncData) (ps:List Str) (ds:[22]):Prop :=
 ∀ (s:[39]) (us:[22]),K.In s.heap->(us ++ ds).length=ps.length->BindsTo s fd ⟨us,[]⟩ (ps.zip (us ++ ds))
theorem Binds.all {K:PySem.W.Frag} {fd:FuncData} {ps:List Str} (h:∀ us:List Value,us.length=ps.length->bindArgs fd ⟨us,[]⟩=pure (ps.zip us)):Binds K fd ps []:=λ s us _ hl=>by
 rw [append_nil] at hl ⊢;exact .of_eq (h us hl)
def zn1 (CX:CXT) (X:Cx) (E:XK):Prop:=∀ (pins:[8]) (σ:St) (H:Hp) (s:[39]) (e:Value) (s':[39]),Inv X pins σ H s->CX X.stack H s E e s'->X.xe e s'
section
variable {X:Cx} {CX:CXT} {k:Nat} {f C:Addr} {fd:FuncData} {ps:List Str} {sp:Sp} {dvs:List V} {ds:[22]} {E:XK} {x m:Str} {p pos apos:Pos} {e o:Expr} {es:List Expr} {ta:TE} {t:TA}
theorem um3 {pins:[8]} {σ:St} {H:Hp} {s:[39]} {Q:VK} {us:[22]} {vs:List V} (F:FnOk X.prog X.w X.K X.mg X.base CX k f fd ps sp) (hr:Room k X.A) (hb:Binds X.K fd ps ds) (hd:Vals dvs ds) (hx:zn1 CX X E)
    (I:[7]) (r:Vals vs us) (h:sp (vs ++ dvs) H Q E):wpAny [10] X.A (call (.ref f) us) (EP X pins σ Q) X.xe s:=by
 have r2:Vals (vs ++ dvs) (us ++ ds):=r.append hd;have hl:(us ++ ds).length=ps.length:=by rw [<- r2.length]; exact F.len _ _ _ _ h
 refine wpAny_call (codeAny_mono (F.run X.A X.stack s H ⟨us,[]⟩ (us ++ ds) (vs ++ dvs) Q E hr I.env0 (hb s us I.kIn hl) r2 h) λ r s' hq=>?_);cases r with
 | error e=>exact hx pins σ H s e s' I hq
 | ok fl =>
  cases fl with
  | ret u=>exact I.after hq
  | next=>exact False.elim hq
  | brk=>exact False.elim hq
  | cont=>exact False.elim hq
theorem xy1 (F:FnOk X.prog X.w X.K X.mg X.base CX k f fd ps sp) (hr:Room k X.A) (hg:Gl X x) (hm:X.mg x=some (.ref f)) (hk:keepIn X.K (.ref f)=true) (hb:Binds X.K fd ps ds) (hd:Vals dvs ds) (hx:zn1 CX X E)
    (ha:PA X (e :: es) t) (hdb:[25]=false:=by decide) (he:starEach (e :: es) X.env=[29] :: starEach es X.env:=by rfl) (hpl:(backTo pos (starEach es X.env)).any (·.1)=false:=by rfl) :
    PE X (.Call (.Name x p) (e :: es) [] pos) (xj3 sp dvs E t):=by
 intro pins s σ H Q I h;refine wpAny_Call_Name_kw (tj0 I hg hm ?_ hdb);refine callWith_K (h₀:=X.base) I.ok.mod.kin hk (thn (ha pos pins s σ H _ I h) λ us s1 ⟨vs,H1,I1,r,q⟩=>⟨I1.kIn,?_⟩) he hpl;exact um3 F hr hb hd hx I1 r q
structure Mk (K:PySem.W.Frag) (C f:Addr):Prop where
 makes:PySem.W.makesIn K C=true
 init:findIn K (.ref C) "__init__" = some (some (.ref f))
 fn:PySem.W.isFn K (.ref f)=true
 kp:keepIn K (.ref C)=true
end
structure FnScope (N P:List Str) (sc:Scope):Prop where
 kind:sc.kind=.function
 co:sc.isCoroutine=false
 gen:sc.isGenerator=false
 nd:N.Nodup
 pre:N.take P.length=P
 par:∀ x ∈ P,sc.names.lookup x=some .local \/ sc.names.lookup x=some .cell
 nofree:∀ y ∈ sc.names,y.2 ≠ .free
theorem ze1 {kindOf:Str->Option NameKind} {x:Str}:∀ {binds:List (Str × Value)} {m:[23]},(∀ v,(x,v) ∉ binds)->bindL kindOf binds m x=m x
 | [],_,_=>rfl
 | (n,v) :: r,m,h=>by
  unfold bindL;rw [ze1 λ w hw=>h w (mem_cons_of_mem _ hw)];split
  ·have:x ≠ n:=by rintro rfl; exact h v mem_cons_self
   simp [this]
  ·rfl
theorem ve1 {kindOf:Str->Option NameKind} {x:Str}:∀ {binds:List (Str × Value)} {m:[23]},(∀ v,(x,v) ∉ binds)->bindC kindOf binds m x=m x
 | [],_,_=>rfl
 | (n,v) :: r,m,h=>by
  unfold bindC;rw [ve1 λ w hw=>h w (mem_cons_of_mem _ hw)];split
  ·rfl
  ·have:x ≠ n:=by rintro rfl; exact h v mem_cons_self
   simp [this]
theorem we1 {kindOf:Str->Option NameKind} {x:Str} {v:Value}:∀ {P:List Str} {vs:[22]} {i:Nat} {m:[23]},P.Nodup->P[i]?=some x->vs[i]?=some v->kindOf x=some .local ->
    bindL kindOf (P.zip vs) m x=some v
 | [],_,_,_,_,h,_,_=>by simp at h
 | _ :: _,[],_,_,_,_,h,_=>by simp at h
 | p :: P,w :: vs,0,m,nd,h1,h2,hk=>by
  simp at h1 h2; subst h1; subst h2;show bindL kindOf ((p,w) :: P.zip vs) m p=_;unfold bindL;rw [ze1 λ v hv=>(List.nodup_cons.mp nd).1 (of_mem_zip hv).1,if_pos hk];simp
 | p :: P,w :: vs,i + 1,m,nd,h1,h2,hk=>by
  show bindL kindOf ((p,w) :: P.zip vs) m x=_;unfold bindL;exact we1 (i:=i) (List.nodup_cons.mp nd).2 (by simpa using h1) (by simpa using h2) hk
theorem ue1 {kindOf:Str->Option NameKind} {x:Str} {v:Value}:∀ {P:List Str} {vs:[22]} {i:Nat} {m:[23]},P.Nodup->P[i]?=some x->vs[i]?=some v->kindOf x ≠ some .local ->
    bindC kindOf (P.zip vs) m x=some v
 | [],_,_,_,_,h,_,_=>by simp at h
 | _ :: _,[],_,_,_,_,h,_=>by simp at h
 | p :: P,w :: vs,0,m,nd,h1,h2,hk=>by
  simp at h1 h2; subst h1; subst h2;show bindC kindOf ((p,w) :: P.zip vs) m p=_;unfold bindC;rw [ve1 λ v hv=>(List.nodup_cons.mp nd).1 (of_mem_zip hv).1,if_neg hk];simp
 | p :: P,w :: vs,i + 1,m,nd,h1,h2,hk=>by
  show bindC kindOf ((p,w) :: P.zip vs) m x=_;unfold bindC;exact ue1 (i:=i) (List.nodup_cons.mp nd).2 (by simpa using h1) (by simpa using h2) hk
def start (N:List Str) (vs:List V):St:=vs.map some ++ List.replicate (N.length - vs.length) none
def cxOf (CX:CXT) (P:Program) (w:World) (K:PySem.W.Frag) (mg:[23]) (base:Heap) (N:List Str) (qual:Str) (scope:Scope) (f:Addr) (cd:Value) (A:Around) (outer:List Env) (s:[39]) (H:Hp) (E:XK):Cx where
 prog:=P
 w:=w
 K:=K
 mg:=mg
 base:=base
 A:=A.deeper (envOfC qual scope s.heap.objs.size f cd)
 N:=N
 s₀:=s
 H₀:=H
 env:=envOfC qual scope s.heap.objs.size f cd
 outer:=outer
 stack:=envOfC qual scope s.heap.objs.size f cd :: outer
 ex:=[]
 calm:=true
 fn:=λ _=>true
 pn:=[]
 xe:=λ e s'=>wpAny (model P w) (A.deeper (envOfC qual scope s.heap.objs.size f cd)) (leaving (envOfC qual scope s.heap.objs.size f cd) e) (λ _ s''=>CX outer H s E e s'') (λ e' s''=>CX outer H s E e' s'') s'
theorem wn0 {sc:Scope} {n:Nat} {x:Str} (h:sc.names.lookup x=some .cell):∃ c,(cellsFrom n sc.names []).lookup x=some c:=by
 have q:=cellsFrom_some sc.names n [] (.inl h);exact Option.isSome_iff_exists.mp q
theorem tc1 {CX:CXT} {P:Program} {w:World} {K:PySem.W.Frag} {mg:[23]} {base:Heap} {N ps:List Str} {qual:Str} {scope:Scope} {f:Addr} {cd:Value} {A:Around} {outer:List Env} {s s1:[39]} {H:Hp} {E:XK} {us:[22]} {vs:List V}
    (S:FnScope N ps scope) (hd:A.handled=none) (e0:Env0 P w K mg base A outer s H) (hl:vs.length=ps.length) (r:Vals vs us)
    (x:InCallC s s.heap.objs.size (bindL (envOfC qual scope s.heap.objs.size f cd).kindOf (ps.zip us) λ _=>none) (cellsFrom (s.heap.objs.size + 1) scope.names []) (bindC (envOfC qual scope s.heap.objs.size f cd).kindOf (ps.zip us) λ _=>none) s1) :
    Inv (cxOf CX P w K mg base N qual scope f cd A outer s H E) [] (start N vs) H s1:=by
 have hpl:ps.length<=N.length:=by have:=congrArg List.length S.pre; rw [length_take] at this; omega
 obtain ⟨h1,tk,rfl,hk⟩:=x.done;have noA:∀ b:Addr,b ∉ (cxOf CX P w K mg base N qual scope f cd A outer s H E).ex:=λ b z=>absurd (show b ∈ ([]:List Addr) from z) [20]
 refine ⟨⟨e0.mod,S.kind,rfl,rfl,Nat.le_refl _,λ y z c h1 h2=>?_,λ y hy=>?_,λ y c _ h=>?_,λ _=>hd,Around.frames_deeper e0.frames,.inr ⟨rfl,rfl⟩,λ b z=>absurd z (noA b),e0.bs,e0.bsz,λ b _ _=>noA b,λ b z=>absurd z (noA b),e0.funs,e0.frf⟩,
  rfl,e0.bare,Un.kept hk,⟨_,x.toInCall.ns,λ i y v h1 h2 h3=>?_⟩,λ y c h=>⟨_,x.cell y c h⟩,e0.hok.fresh [26],λ y c h=>?_,λ p hp=>absurd (show p ∈ ([]:List (Addr × Obj)) from hp) [20],e0.hok.kept hk,?_⟩
 ·exact name_of_addr x.apart (PySem.mem_of_lookup h1) (PySem.mem_of_lookup h2)
 ·have hy:scope.names.lookup y=some .cell \/ scope.names.lookup y=some .free:=hy;rcases hy with hy | hy
  ·exact wn0 hy
  ·exact absurd rfl (S.nofree _ (PySem.mem_of_lookup hy))
 ·exact Nat.le_of_lt (x.above y c (PySem.mem_of_lookup h))
 ·have hi:i < vs.length:=by
    unfold start at h2;by_cases hi:i < vs.length
    ·exact hi
    ·rw [getElem?_append_right (by simpa using hi)] at h2;rw [List.getElem?_replicate] at h2;split at h2 <;> cases h2
  have ha:vs[i]?=some v:=by
   unfold start at h2;rw [getElem?_append_left (by simpa using hi),getElem?_map] at h2;cases e:vs[i]? with
   | none=>rw [e] at h2; cases h2
   | some a=>rw [e] at h2; cases h2; rfl
  obtain ⟨u,hu,rv⟩:=r.get ha
  have hp:ps[i]?=some y:=by
   rw [<- S.pre,getElem?_take_of_lt [1]]; exact h1
  have ndP:ps.Nodup:=by rw [<- S.pre]; exact S.nd.sublist (take_sublist _ _)
  refine ⟨u,rv,?_⟩;rcases S.par y (mem_of_getElem? hp) with k | k
  ·exact .inl ⟨k,we1 ndP hp hu k⟩
  ·obtain ⟨c,e⟩:=wn0 (n:=s.heap.objs.size + 1) k;refine .inr ⟨.inl k,c,e,?_⟩;have q:=x.cell y c e;rw [ue1 ndP hp hu (by show scope.names.lookup y ≠ _; rw [k]; decide)] at q;exact q
 ·exact e0.hok.fresh (Nat.le_of_lt (x.above y c (PySem.mem_of_lookup h)))
 ·unfold start;show _=N.length;rw [length_append,length_map,List.length_replicate];omega
theorem wz3 {CX:CXT} {P:Program} {w:World} {K:PySem.W.Frag} {mg:[23]} {base:Heap} {k:Nat} {f:Addr} {name qual:Str} {params:Arguments} {body:List Stmt} {scope:Scope} {dV kV doc pm cdv ct oc:Value} {an od:Option Addr}
    {osl:Array (Option Value)} {N ps:List Str} {sp:Sp} (lk:K.lookup f=some ⟨oc,od,.func (fnOf name qual params body scope dV kV doc pm an cdv ct),osl⟩) (hcd:codeIn K cdv qual=true) (S:FnScope N ps scope)
    (len:∀ vs H Q E,sp vs H Q E->vs.length=ps.length)
    (hbody:∀ (A:Around) (outer:List Env) (s:[39]) (H:Hp) (vs:List V) (Q:VK) (E:XK),Room k (A.deeper (envOfC qual scope s.heap.objs.size f cdv))->sp vs H Q E ->
     ∃ t,PSs (cxOf CX P w K mg base N qual scope f cdv A outer s H E) body t /\ t { nx:=λ _ H'=>Q .non H',rt:=Q } (start N vs) H) :
    FnOk P w K mg base CX (k + 1) f (fnOf name qual params body scope dV kV doc pm an cdv ct) ps sp:=by
 refine ⟨len,λ A outer s H args us vs Q E hr e0 hb r hsp=>?_⟩;have hl:=len _ _ _ _ hsp;have KX:K.In s.heap:=e0.mod.kin.keeps λ b o e=>(e0.bs b o e).1;have lim:s.heap.NoLimit:=e0.mod.nolimit.keeps λ b o e=>(e0.bs b o e).1
 have hkind:∀ y ∈ ps.zip us,scope.names.lookup y.1=some .local \/ (scope.names.lookup y.1=some .cell /\ ((cellsFrom (s.heap.objs.size + 1) scope.names []).lookup y.1).isSome=true):=λ ⟨n,v⟩ hy=>by
  rcases S.par n (of_mem_zip hy).1 with q | q
  ·exact .inl q
  ·exact .inr ⟨q,cellsFrom_some _ _ _ (.inl q)⟩
 refine codeAny_call_function hr.depth (KX _ _ lk) rfl S.co S.gen rfl (codeRec_of KX hcd) (hb _ _ _ _ ?_);refine wpAny_newFunctionEnv_cells S.kind hkind λ env he s1 x=>?_;subst he;refine ⟨lim.keeps x.toInCall.keep,codeAny_func ?_⟩;obtain ⟨t,ht,hq⟩:=hbody A outer s H vs Q E (hr.deeper _) hsp;have I:Inv (cxOf CX P w K mg base N qual scope f cdv A outer s H E) [] (start N vs) H s1:=tc1 S hr.hd e0 hl r x;refine wpAny_mono (ht [] s1 (start N vs) H _ I hq) (λ fl s' hs=>?_) λ e s' hs=>hs
 have fin:∀ {σ':St} {H':Hp} {v:V} {u:Value},Inv (cxOf CX P w K mg base N qual scope f cdv A outer s H E) [] σ' H' s'->RelV v u->Q v H'->CE outer P w H s Q u s' :=
  λ {σ' H' v u} J rv q=>⟨v,H',J.os,J.bare,J.base,J.hok,rv,q⟩
 cases fl with
 | ret u =>
  obtain ⟨v,σ',H',J,rv,q⟩:=hs;exact fin J rv q
 | next =>
  obtain ⟨σ',H',J,q⟩:=hs;exact fin (v:=V.non) (u:=Value.none) J rfl q
 | brk =>
  obtain ⟨_,_,_,q⟩:=hs;exact False.elim q
 | cont =>
  obtain ⟨_,_,_,q⟩:=hs;exact False.elim q
section
variable {X:Cx} {x:Str} {p pos:Pos} {e:Expr} {es:List Expr} {t:TA} {id T:String} {r:List V->Hp->VK->Prop}
def tCB (r:List V->Hp->VK->Prop) (t:TA):TE:=λ σ H Q=>t σ H λ vs H1=>r vs H1 Q
theorem wk1 (hc:CallR X (.builtin id) r) (hg:Gl X x) (hm:X.mg x=none) (hv:bootBuiltins x=some (.builtin id)) (ha:PA X (e :: es) t) (hn:x ≠ "__name__" := by decide) (hdb:[25]=false:=by decide)
    (he:starEach (e :: es) X.env=[29] :: starEach es X.env:=by rfl) (hpl:(backTo pos (starEach es X.env)).any (·.1)=false:=by rfl):PE X (.Call (.Name x p) (e :: es) [] pos) (tCB r t):=by
 intro pins s σ H Q I h;refine wpAny_Call_Name_kw (wp0 I hg hm hv ?_ hn hdb);exact PyProof.Rows.callWith_builtin1 (thn (ha pos pins s σ H _ I h) λ us s1 ⟨vs,H1,I1,r1,q1⟩=>hc pins s1 σ H1 vs us Q I1 r1 q1) he hpl
theorem sx1 (hc:CallR X (.type T) r) (hg:Gl X x) (hm:X.mg x=none) (hv:bootBuiltins x=some (.type T)) (ha:PA X (e :: es) t) (hn:x ≠ "__name__" := by decide) (hdb:[25]=false:=by decide)
    (he:starEach (e :: es) X.env=[29] :: starEach es X.env:=by rfl) (hpl:(backTo pos (starEach es X.env)).any (·.1)=false:=by rfl):PE X (.Call (.Name x p) (e :: es) [] pos) (tCB r t):=by
 intro pins s σ H Q I h;refine wpAny_Call_Name_kw (wp0 I hg hm hv ?_ hn hdb);exact PyProof.Rows.callWith_type1 (thn (ha pos pins s σ H _ I h) λ us s1 ⟨vs,H1,I1,r1,q1⟩=>hc pins s1 σ H1 vs us Q I1 r1 q1) he hpl
end
end L2
namespace HT
open PySem PyProof.Rows
section
variable {prog:Program} {w:World} {A:Around} {E:[4]} {s:[39]}
theorem cat_tup {t b:Addr} {vs ws:[22]} {Q:[4]} (ht:IsTup s.heap t vs.toArray) (hb:IsTup s.heap b ws.toArray) (hv:vs ≠ [])
    (h1:ws=[]->Q (.ref t) s) (h2:ws ≠ []->Q (.ref s.heap.objs.size) { s with heap:=s.heap.push { cls:=.type "tuple",data:=.seq (vs ++ ws).toArray } })
    (hsz:vs.length + ws.length<=sizeLine):wpAny [5] A (binaryOp .Add (.ref t) (.ref b)) Q E s:=by
 obtain ⟨⟨cls,dd,data,sl⟩,ho,hc,n,hd⟩:=id ht;obtain ⟨⟨cls2,dd2,data2,sl2⟩,ho2,hc2,n2,hd2⟩:=id hb;simp only at hc hd hc2 hd2;subst hc hd hc2 hd2;have e:vs.toArray ++ ws.toArray=(vs ++ ws).toArray:=by simp
 by_cases hw:ws=[]
 ·exact concat_meets ⟨_,ho,rfl⟩ ⟨_,ho2,rfl⟩ noFill_tuple_add seq_tuple_add slot_tuple_add entry_tuple_add (args_tuple_add_2 _ _)
    (tuple_addW1 t b vs.toArray ws.toArray n n2 dd dd2 sl sl2 (by simpa using hv) (by simp [hw])) ⟨ho,ho2,h1 hw⟩
 ·refine concat_meets ⟨_,ho,rfl⟩ ⟨_,ho2,rfl⟩ noFill_tuple_add seq_tuple_add slot_tuple_add entry_tuple_add (args_tuple_add_2 _ _)
    (tuple_addW2 t b vs.toArray ws.toArray n n2 dd dd2 sl sl2 (by simpa using hv) (by simpa using hw) (by rw [size_toArray,size_toArray]; exact hsz)) ⟨ho,ho2,?_⟩
  rw [e];exact h2 hw
def sIx (n d:Nat):Option Int->Nat
 | none=>d
 | some v=>if v < 0 then (v + (n:Int)).toNat else min v.toNat n
theorem tl3 (n d:Nat) (hd:d<=n) (o:Option Int):sIx n d o<=n:=by
 cases o with
 | none=>exact hd
 | some v =>
  show (if v < 0 then (v + (n:Int)).toNat else min v.toNat n)<=n;by_cases hv:v < 0
  ·rw [if_pos hv]; omega
  ·rw [if_neg hv]; exact Nat.min_le_right _ _
theorem vd2 (v:Int) (n d:Nat):(if v < 0 then max (v + (n:Int)) 0 else min v (n:Int))=((sIx n d (some v):Nat):Int):=by
 show (if v < 0 then max (v + (n:Int)) 0 else min v (n:Int))=(((if v < 0 then (v + (n:Int)).toNat else min v.toNat n):Nat):Int);by_cases hv:v < 0
 ·simp only [if_pos hv]; omega
 ·simp only [if_neg hv]; omega
theorem ys1 (lo hi:Option Int) (n:Nat):Builtin.Slice.sliceAdjust lo hi 1 (n:Int)=(((sIx n 0 lo:Nat):Int),((sIx n n hi:Nat):Int)):=by
 have h1:¬ ((1:Int) < 0):=by omega
 unfold Builtin.Slice.sliceAdjust;simp only [h1,if_false];refine Prod.ext ?_ ?_
 ·cases lo with
  | none=>rfl
  | some v=>exact vd2 v n 0
 ·cases hi with
  | none=>rfl
  | some v=>exact vd2 v n n
theorem wq1 (i j:Nat):Builtin.Slice.slicePlaces (i:Int) (j:Int) 1=j - i:=by
 unfold Builtin.Slice.slicePlaces;have h1:(1:Int) > 0:=by omega
 simp only [h1,if_true,Int.ediv_one];split <;> omega
theorem vr0 {v:Value} {o:Option Int} {Q:Option Int->Shared->Prop} (p:IsPart v o) (h:Q o s):wpAny [5] A (Builtin.Slice.slicePartIndex v) Q E s:=by
 cases p with
 | none=>exact slicePart_none h
 | int i t=>exact slicePart_int h
theorem sliceApplied_gen {sl:Addr} {vl vu:Value} {lo hi:Option Int} {n:Nat} {Q:Int × Int × Nat->Shared->Prop} (hs:s.heap.IsSliceOf sl vl vu .none) (pl:IsPart vl lo) (pu:IsPart vu hi)
    (h:Q (((sIx n 0 lo:Nat):Int),1,sIx n n hi - sIx n 0 lo) s):wpAny [5] A (Builtin.Slice.sliceApplied (.ref sl) (pure (n:Int))) Q E s:=by
 obtain ⟨os,hos,hcs,hds⟩:=id hs;unfold Builtin.Slice.sliceApplied Builtin.Slice.sliceFields;refine wpAny_bind (wpAny_bind (wpAny_field hos hds (x:=vl) rfl (wpAny_bind (wpAny_field hos hds (x:=vu) rfl (wpAny_bind (wpAny_field hos hds (x:=.none) rfl [32]))))));refine wpAny_bind (slicePart_none ?_);show wpAny _ _ (if ((1:Int) == 0)=true then _ else _) _ _ s;rw [if_neg [9]];refine wpAny_bind (vr0 pl (wpAny_bind (vr0 pu (wpAny_bind [32]))));show wpAny _ _ (match Builtin.Slice.sliceAdjust lo hi 1 (n:Int) with | (lo,hi)=>pure (lo,(1:Int),Builtin.Slice.slicePlaces lo hi 1)) _ _ s;rw [ys1 lo hi n];show wpAny _ _ (pure (((sIx n 0 lo:Nat):Int),(1:Int),Builtin.Slice.slicePlaces ((sIx n 0 lo:Nat):Int) ((sIx n n hi:Nat):Int) 1)) _ _ s;rw [wq1];exact wpAny_pure h
theorem wj2 (xs:Array Value) (i k:Nat):((List.range k).filterMap λ (m:Nat)=>xs[((i:Int) + (m:Int) * 1).toNat]?).toArray=((xs.toList.drop i).take k).toArray:=by
 have e:(λ (m:Nat)=>xs[((i:Int) + (m:Int) * 1).toNat]?)=λ m=>xs[i + m]?:=by
  funext m;have:((i:Int) + (m:Int) * 1).toNat=i + m:=by omega
  rw [this]
 rw [e];have:=pick_run xs i k;rw [List.filterMap_map] at this;have e2:((λ x=>xs[x]?) ∘ λ x=>i + x)=λ m=>xs[i + m]?:=rfl;rw [e2] at this;rw [this]
theorem getItem_tuple_cut {t sl:Addr} {items:Array Value} {vl vu:Value} {lo hi:Option Int} {Q:[4]} (ht:IsTup s.heap t items) (hs:s.heap.IsSliceOf sl vl vu .none) (pl:IsPart vl lo) (pu:IsPart vu hi)
    (hw:¬ (sIx items.size 0 lo=0 /\ sIx items.size items.size hi=items.size))
    (h:Q (.ref s.heap.objs.size) { s with heap:=s.heap.push { cls:=.type "tuple",data:=.seq ((items.toList.drop (sIx items.size 0 lo)).take (sIx items.size items.size hi - sIx items.size 0 lo)).toArray } })
    (hsz:items.size<=sizeLine):wpAny [5] A (getItem (.ref t) (.ref sl)) Q E s:=by
 have htake:sizeOk (.seq ((items.toList.drop (sIx items.size 0 lo)).take (sIx items.size items.size hi - sIx items.size 0 lo)).toArray):=by
  show ((items.toList.drop (sIx items.size 0 lo)).take (sIx items.size items.size hi - sIx items.size 0 lo)).toArray.size<=sizeLine;rw [size_toArray,length_take,length_drop,length_toList];omega
 have hj:sIx items.size items.size hi<=items.size:=tl3 _ _ [26] hi;obtain ⟨os,hos,hcs,hds⟩:=id hs;have hTs:s.TypeIs (.ref sl) "slice" := ⟨os,hos,hcs⟩;unfold getItem
 try with_reducible refine wpAny_holding ?_
 first | refine wpAny_bind [32] | skip
 refine wpAny_bind (wpAny_sequenceKey ht.typeIs [9] ?_)
 refine wpAny_bind (wpAny_callSpecial?_slot (name:=Str.ofString "__getitem__") ht.typeIs PyProof.Rows.slot_tuple_getitem
  (wpAny_call_entry PyProof.Rows.slot_tuple_getitem ht.typeIs entry_tuple_getitem ?_ (args_tuple_getitem _ _)))
 show wpAny _ _ (Builtin.Tuple.tupleItemsOf (.ref t) >>= _) _ _ s;refine wpAny_bind (tupleItemsOf_ ht ?_);refine wpAny_bind (wpAny_typeOf hTs ?_);rw [if_pos [9]];refine wpAny_bind (sliceApplied_gen hs pl pu ?_)
 have hno:¬ ((((sIx items.size 0 lo:Nat):Int) == 0 && (1:Int) == 1 && (sIx items.size items.size hi - sIx items.size 0 lo) == items.size)=true):=by
  intro q;rw [Bool.and_eq_true,Bool.and_eq_true] at q;have q1:((sIx items.size 0 lo:Nat):Int)=0:=eq_of_beq q.1.1;have q2:sIx items.size items.size hi - sIx items.size 0 lo=items.size:=eq_of_beq q.2;exact hw ⟨by omega,by omega⟩
 show wpAny _ _ (if (((sIx items.size 0 lo:Nat):Int) == 0 && (1:Int) == 1 && (sIx items.size items.size hi - sIx items.size 0 lo) == items.size)=true then _ else _) _ _ s;rw [if_neg hno,wj2]
 first
  | exact wpAny_bind (m:=Builtin.Tuple.tupleExact _) (wpAny_newObj_type (wpAny_pure ⟨_,rfl,wpAny_pure h⟩) htake)
  | exact wpAny_bind (m:=Builtin.Tuple.tupleExact _) (wpAny_newObj_type (wpAny_bind (wpAny_pure (wpAny_pure ⟨_,rfl,wpAny_pure h⟩))) htake)
  | exact wpAny_bind (wpAny_bind (m:=Builtin.Tuple.tupleExact _) (wpAny_newObj_type (wpAny_pure (wpAny_pure ⟨_,rfl,wpAny_pure h⟩)) htake))
  | exact wpAny_bind (wpAny_bind (m:=Builtin.Tuple.tupleExact _) (wpAny_newObj_type (wpAny_pure ⟨_,rfl,wpAny_pure h⟩) htake))
end
end HT
namespace L2
open PySem PySem.Spec PyProof.Rows
abbrev TO:=St->Hp->(Option Int->Hp->Prop)->Prop
def PO (X:Cx) (e:Option Expr) (t:TO):Prop :=
 ∀ (pins:[8]) (s:[39]) (σ:St) (H:Hp) (Q:Option Int->Hp->Prop),Inv X pins σ H s->t σ H Q ->
  wpAny [10] X.A (evalPart e X.env) (λ u s'=>∃ o H',Inv X pins σ H' s' /\ IsPart u o /\ Q o H') X.xe s
def tt2:TO:=λ _ H Q=>Q none H
def sb4 (t:TE):TO:=λ σ H Q=>t σ H λ x H1=>∃ i,x=.int i /\ Q (some i) H1
theorem ys0 {ns:List Int}:∀ {us:[22]},Vals (ns.map V.int) us->IntsAre us ns:=by
 induction ns with
 | nil=>intro us r; rw [map_nil] at r; cases r; exact .nil
 | cons n ns ih =>
  intro us r;rw [map_cons] at r;cases r with
  | cons r1 r2 =>
   obtain ⟨t,e⟩:=r1;subst e;exact .cons n t (ih r2)
section
variable {X:Cx} {e:Expr} {te:TE} {lo hi:Option Expr} {tl th:TO} {pos p2:Pos}
theorem tx2:PO X none tt2:=by
 intro pins s σ H Q I h;rw [evalPart_none];exact wpAny_pure ⟨none,H,I,.none,h⟩
theorem ux2 (h:PE X e te):PO X (some e) (sb4 te):=by
 intro pins s σ H Q I hw;rw [evalPart_some];refine thn (h pins s σ H _ I hw) λ u s1 ⟨x,H1,I1,r1,q1⟩=>?_;obtain ⟨i,rfl,q⟩:=q1;obtain ⟨t,rfl⟩:=r1;exact ⟨some i,H1,I1,.int i t,q⟩
def SlR (X:Cx) (r:V->Option Int->Option Int->Hp->VK->Prop):Prop :=
 ∀ (pins:[8]) (s:[39]) (σ:St) (H:Hp) (x:V) (v vl vu:Value) (lo hi:Option Int) (sl:Addr) (Q:VK),Inv X pins σ H s->RelV x v->s.heap.IsSliceOf sl vl vu .none->IsPart vl lo->IsPart vu hi->r x lo hi H Q ->
  ∃ T id,typeLookup (.type T) "__getitem__" = pure (some (.builtin id)) /\ s.TypeIs v T /\ wpAny [10] X.A (getItem v (.ref sl)) (EP X pins σ Q) X.xe s
theorem SlR.or {r r':V->Option Int->Option Int->Hp->VK->Prop} (h:SlR X r) (h':SlR X r'):SlR X (λ x lo hi H Q=>r x lo hi H Q \/ r' x lo hi H Q):=by
 intro pins s σ H x v vl vu lo hi sl Q I rx hs pl pu q;rcases q with q | q
 ·exact h pins s σ H x v vl vu lo hi sl Q I rx hs pl pu q
 ·exact h' pins s σ H x v vl vu lo hi sl Q I rx hs pl pu q
def tSl (r:V->Option Int->Option Int->Hp->VK->Prop) (te:TE) (tl th:TO):TE:=λ σ H Q=>te σ H λ x H1=>tl σ H1 λ l H2=>th σ H2 λ u H3=>r x l u H3 Q
theorem uj2 {r:V->Option Int->Option Int->Hp->VK->Prop} (hr:SlR X r) (he:PE X e te) (hl:PO X lo tl) (hu:PO X hi th):PE X (.Subscript e (.Slice lo hi none p2) pos) (tSl r te tl th):=by
 intro pins s σ H Q I h;refine Subscript_ (thn (he pins s σ H _ I h) λ v s1 ⟨x,H1,I1,r1,q1⟩=>?_);refine wpAny_Slice (thn (hl pins s1 σ H1 _ I1 q1) λ vl s2 ⟨l,H2,I2,pl,q2⟩=>thn (hu pins s2 σ H2 _ I2 q2) λ vu s3 ⟨u,H3,I3,pu,q3⟩=>?_);rw [evalPart_none];refine wpAny_pure ?_;have I4:Inv X pins σ H3 { s3 with heap:=s3.heap.push { cls:=.type "slice",data:=.fields #[vl,vu,.none] } }:=I3.kept (t':=s3.toks) λ b ob q=>Heap.get?_push_of_some _ q;obtain ⟨T,id,hT,ht,hg⟩:=hr pins { s3 with heap:=s3.heap.push { cls:=.type "slice",data:=.fields #[vl,vu,.none] } } σ H3 x v vl vu l u s3.heap.objs.size Q I4 r1 (Heap.IsSliceOf.new ..) pl pu q3;show wpAny [10] X.A (subscriptTail e (.Slice lo hi none p2) v (.ref s3.heap.objs.size)) (EP X pins σ Q) X.xe { s3 with heap:=s3.heap.push { cls:=.type "slice",data:=.fields #[vl,vu,.none] } };exact tail_any (ops:=[.ref s3.heap.objs.size,v]) ht hT hg (by with_unfolding_all rfl)
def cutV (xs:List V) (lo hi:Option Int):List V:=(xs.drop (HT.sIx xs.length 0 lo)).take (HT.sIx xs.length xs.length hi - HT.sIx xs.length 0 lo)
theorem xq0 (xs:List V) (lo hi:Option Int):(cutV xs lo hi).length<=xs.length:=by
 unfold cutV;rw [length_take,length_drop];omega
def rSlT (K:PySem.W.Frag):V->Option Int->Option Int->Hp->VK->Prop:=λ x lo hi H Q=>∃ a xs,x=.ref a /\ SqT K H a xs ∧
 ¬ (HT.sIx xs.length 0 lo=0 /\ HT.sIx xs.length xs.length hi=xs.length) /\ ∀ p,H p=none->Q (.ref p) (upd H p (.tup (cutV xs lo hi)))
theorem yk3:SlR X (rSlT X.K):=by
 intro pins s σ H x v vl vu lo hi sl Q I rx hs pl pu h;obtain ⟨a,xs,rfl,hx,hw,q⟩:=h;cases rx;obtain ⟨its,r,ht,hz⟩:=I.tuple hx;have hlen:its.toArray.size=xs.length:=by rw [size_toArray]; exact r.length.symm
 refine ⟨"tuple",_,PyProof.Rows.slot_tuple_getitem.lookup,ht.typeIs,?_⟩;refine HT.getItem_tuple_cut ht hs pl pu (by rw [hlen]; exact hw) ?_ (by rw [hlen]; exact hz);rw [hlen];refine ⟨.ref s.heap.objs.size,_,I.laid (t':=s.toks) (o:=.tup (cutV xs lo hi)) (λ b ob q=>Heap.get?_push_of_some _ q) [26] ?_,rfl,q _ (I.hok.fresh [26])⟩;exact ⟨Nat.le_trans (xq0 xs lo hi) hz,_,(r.drop (HT.sIx xs.length 0 lo)).take (HT.sIx xs.length xs.length hi - HT.sIx xs.length 0 lo),IsTup.new _ _⟩
def sh4 (K:PySem.W.Frag):R2:=λ x y H Q=>∃ a b xs ys,x=.ref a /\ y=.ref b /\ SqT K H a xs /\ SqT K H b ys /\ xs ≠ [] /\ xs.length + ys.length<=sizeLine ∧
 (ys=[]->Q (.ref a) H) /\ (ys ≠ []->∀ p,H p=none->Q (.ref p) (upd H p (.tup (xs ++ ys))))
theorem Vals.nil_iff {xs:List V} {us:[22]} (r:Vals xs us):us=[] ↔ xs=[]:=by
 cases r with
 | nil=>simp
 | cons _ _=>simp
theorem xz2:OpR X (binaryOp .Add) (sh4 X.K):=by
 intro pins s σ H x y v u Q I rx ry h;obtain ⟨a,b,xs,ys,rfl,rfl,ha,hb,hx,hz,q1,q2⟩:=h;cases rx;cases ry;obtain ⟨its,r1,p1,_⟩:=I.tuple ha;obtain ⟨its2,r2,p2,_⟩:=I.tuple hb;refine HT.cat_tup p1 p2 (λ z=>hx (r1.nil_iff.mp z)) (λ z=>⟨.ref a,H,I,rfl,q1 (r2.nil_iff.mp z)⟩) (λ z=>?_) (by rw [<- r1.length,<- r2.length]; exact hz);refine ⟨.ref s.heap.objs.size,_,I.laid (t':=s.toks) (o:=.tup (xs ++ ys)) (λ b ob q=>Heap.get?_push_of_some _ q) [26] ?_,rfl,q2 (λ w=>z (r2.nil_iff.mpr w)) _ (I.hok.fresh [26])⟩;exact ⟨by rw [length_append]; exact hz,_,r1.append r2,IsTup.new _ _⟩
end
def ixN (n:Nat) (i:Int):Option Nat:=if 0<=i then (if i < n then some i.toNat else none) else if -(n:Int)<=i then some (i + n).toNat else none
def atI {α:Type} (xs:List α) (i:Int):Option α:=(ixN xs.length i).bind λ j=>xs[j]?
theorem xa2 {n:Nat} {i:Int} {j:Nat} (h:ixN n i=some j):seqIndex? i n=some j /\ j < n /\ -(n:Int)<=i /\ i < n:=by
 unfold ixN at h;by_cases h0:0<=i
 ·rw [if_pos h0] at h;by_cases h1:i < n
  ·rw [if_pos h1] at h;have e:i.toNat=j:=Option.some.inj h;exact ⟨by rw [seqIndex_of h0 h1,e],by omega,by omega,h1⟩
  ·rw [if_neg h1] at h; cases h
 ·rw [if_neg h0] at h;by_cases h1 : -(n:Int)<=i
  ·rw [if_pos h1] at h;have e:(i + n).toNat=j:=Option.some.inj h;exact ⟨by rw [seqIndex_neg [1] h1,e],by omega,h1,by omega⟩
  ·rw [if_neg h1] at h; cases h
theorem se2 {α:Type} {xs:List α} {i:Int} {v:α} (h:atI xs i=some v):∃ j,seqIndex? i xs.length=some j /\ xs[j]?=some v /\ j < xs.length /\ -(xs.length:Int)<=i /\ i < xs.length:=by
 unfold atI at h;cases e:ixN xs.length i with
 | none=>rw [e] at h; cases h
 | some j =>
  rw [e] at h;obtain ⟨h1,h2,h3,h4⟩:=xa2 e;exact ⟨j,h1,h,h2,h3,h4⟩
def yf2 (b:Expr):Prop:=∀ o i,subscripted b false o i=operate [o,i] (getItem o i)
def IxR (X:Cx) (r:R2):Prop :=
 ∀ (value slice:Expr) (pins:[8]) (s:[39]) (σ:St) (H:Hp) (x y:V) (v u:Value) (Q:VK),Inv X pins σ H s->RelV x v->RelV y u->r x y H Q ->
  subscripted slice false v u=operate [v,u] (getItem v u)->wpAny [10] X.A (subscriptTail value slice v u) (EP X pins σ Q) X.xe s
def MtR (X:Cx) (id:String) (r:V->List V->Hp->VK->Prop):Prop :=
 ∀ (pins:[8]) (s:[39]) (σ:St) (H:Hp) (x:V) (xs:List V) (v:Value) (us:[22]) (Q:VK),Inv X pins σ H s->RelV x v->Vals xs us->r x xs H Q ->
  wpAny [10] X.A (call (.builtin id) (v :: us)) (EP X pins σ Q) X.xe s
section
variable {X:Cx} {a b:Expr} {ta tb:TE} {pos:Pos}
theorem IxR.or {r r':R2} (h:IxR X r) (h':IxR X r'):IxR X (λ x y H Q=>r x y H Q \/ r' x y H Q):=by
 intro value slice pins s σ H x y v u Q I rx ry q hs;rcases q with q | q
 ·exact h value slice pins s σ H x y v u Q I rx ry q hs
 ·exact h' value slice pins s σ H x y v u Q I rx ry q hs
theorem zj4 {r:R2} (hr:IxR X r) (ha:PE X a ta) (hb:PE X b tb) (hs:yf2 b):PE X (.Subscript a b pos) (tOp r ta tb):=by
 intro pins s σ H Q I h;exact Subscript_ (binT ha hb I h λ v u s2 x y H2 I2 rx ry q=>hr a b pins s2 σ H2 x y v u Q I2 rx ry q (hs _ _))
def rIxL (K:PySem.W.Frag):R2:=λ x y H Q=>∃ p xs i v,x=.ref p /\ y=.int i /\ SqL K H p xs /\ atI xs i=some v /\ Q v H
def rIxT (K:PySem.W.Frag):R2:=λ x y H Q=>∃ p xs i v,x=.ref p /\ y=.int i /\ SqT K H p xs /\ atI xs i=some v /\ Q v H
theorem ix_list:IxR X (rIxL X.K):=by
 intro value slice pins s σ H x y v u Q I rx ry h hs;obtain ⟨p,xs,i,z,rfl,rfl,hq,he,q⟩:=h;cases rx;obtain ⟨t,rfl⟩:=ry;obtain ⟨its,r,pl,hz⟩:=I.list hq;obtain ⟨j,h1,h2,h3,h4,h5⟩:=se2 he;obtain ⟨w,ew,rw'⟩:=r.get h2;have hl:=r.length;have hn:=zc1;have fin:EP X pins σ Q w s:=⟨z,H,I,rw',q⟩;by_cases h0:0<=i
 ·have hj:i.toNat=j:=by
    rw [seqIndex_of h0 h5] at h1;exact Option.some.inj h1
  exact item_listR pl.isList h0 [1] (by rw [hj]; simpa using ew) fin hs
 ·have hj:(i + (its.toArray.size:Int)).toNat=j:=by
    rw [seqIndex_neg [1] h4] at h1;rw [size_toArray,<- hl];exact Option.some.inj h1
  exact subscriptTail_builtinR (x:=w) pl.isList.typeIs slot_list_getitem.lookup
   (wpAny_getItem_list_neg (Q:=λ r s'=>r=w /\ EP X pins σ Q r s') pl.isList [1] (by rw [size_toArray] <;> omega) [1] (by rw [hj]; simpa using ew) ⟨rfl,fin⟩) hs
theorem vy3:IxR X (rIxT X.K):=by
 intro value slice pins s σ H x y v u Q I rx ry h hs;obtain ⟨p,xs,i,z,rfl,rfl,hq,he,q⟩:=h;cases rx;obtain ⟨t,rfl⟩:=ry;obtain ⟨its,r,pl,hz⟩:=I.tuple hq;obtain ⟨j,h1,h2,h3,h4,h5⟩:=se2 he;obtain ⟨w,ew,rw'⟩:=r.get h2;have hl:=r.length;have hn:=zc1;have fin:EP X pins σ Q w s:=⟨z,H,I,rw',q⟩
 exact subscriptTail_builtinR (x:=w) pl.typeIs slot_tuple_getitem.lookup
  (getItem_tuple (j:=j) (Q:=λ r s'=>r=w /\ EP X pins σ Q r s') pl [1] [1] (by rw [size_toArray,<- hl]; exact h1) (by simpa using ew) ⟨rfl,fin⟩) hs
theorem xr1 (its:[22]) (n j:Nat) (u:Value):Obj.mapSeq (·.setIfInBounds j u) { cls:=.type "list",data:=.seq its.toArray n }={ cls:=.type "list",data:=.seq (its.set j u).toArray n }:=by
 simp [Obj.mapSeq]
theorem Inv.lst {pins:[8]} {σ:St} {H:Hp} {s:[39]} {p:Addr} {xs:List V} (I:[7]) (h:H p=some (.lst xs)) :
    ∃ (its:[22]) (n:Nat),Vals xs its /\ s.heap.get? p=some { cls:=.type "list",data:=.seq its.toArray n } /\ xs.length<=sizeLine:=by
 obtain ⟨z,its,n,r,e⟩:=I.hok p _ h;exact ⟨its,n,r,e,z⟩
theorem Inv.lstUpd {pins:[8]} {σ:St} {H:Hp} {s:[39]} {p:Addr} {xs ys:List V} {its its':[22]} {n n':Nat} {f:Obj->Obj} (I:[7]) (h:H p=some (.lst xs))
    (ho:s.heap.get? p=some { cls:=.type "list",data:=.seq its.toArray n }) (hf:f { cls:=.type "list",data:=.seq its.toArray n }={ cls:=.type "list",data:=.seq its'.toArray n' }) (r:Vals ys its') (hz:ys.length<=sizeLine) (t:Nat) :
    Inv X pins σ (upd H p (.lst ys)) { s with heap:=s.heap.update p f,toks:=t }:=by
 have e:(s.heap.update p f).get? p=some { cls:=.type "list",data:=.seq its'.toArray n' }:=by
  rw [Heap.get?_update_self f ho (by rw [hf] <;> rfl),hf]
 refine I.write (x:=p) (e:=p) (by rw [h]; trivial) (.inl rfl) (λ b u hb q=>(Heap.get?_update_other _ _ (Ne.symm hb)).trans q) ⟨_,e⟩ ?_;exact ⟨hz,its',n',r,e⟩
def uh4:V->V->V->Hp->(Hp->Prop)->Prop:=λ o i v H Q=>∃ p xs k j,o=.ref p /\ i=.int k /\ H p=some (.lst xs) /\ ixN xs.length k=some j /\ Q (upd H p (.lst (xs.set j v)))
theorem sv0:PSet X uh4:=by
 intro pins s σ H o i v ov iv u Q I ro ri rv h;obtain ⟨p,xs,k,j,rfl,rfl,hp,hj,q⟩:=h;cases ro;obtain ⟨t,rfl⟩:=ri;obtain ⟨its,n,r,ho,hz⟩:=I.lst hp;obtain ⟨h1,h2,h3,h4⟩:=xa2 hj;have hl:=r.length;have hn:=zc1
 have I':Inv X pins σ (upd H p (.lst (xs.set j v))) { s with heap:=s.heap.update p (Obj.mapSeq (·.setIfInBounds j u)) } :=
  I.lstUpd hp ho (xr1 its n j u) (r.set rv j) (by rw [List.length_set]; exact hz) s.toks
 by_cases h0:0<=k
 ·have hk:k.toNat=j:=by
    rw [seqIndex_of h0 h4] at h1;exact Option.some.inj h1
  exact PySem.W.ki_setAt ho h0 [1] (by rw [size_toArray,<- hl]; exact h4) (by rw [hk]; exact ⟨_,I',q⟩)
 ·have hk:(k + (its.toArray.size:Int)).toNat=j:=by
    rw [seqIndex_neg [1] h3] at h1;rw [size_toArray,<- hl];exact Option.some.inj h1
  exact PySem.W.ki_setBack ho [1] (by rw [size_toArray,<- hl]; exact h3) [1] (by rw [hk]; exact ⟨_,I',q⟩)
theorem sa1 (lo hi:Option Int) (n:Nat):(sliceBounds lo hi none n).1=((HT.sIx n 0 lo:Nat):Int) /\ (sliceBounds lo hi none n).2.1=((HT.sIx n n hi:Nat):Int) /\ (sliceBounds lo hi none n).2.2=1:=by
 refine ⟨?_,?_,rfl⟩
 ·cases lo with
  | none=>simp [sliceBounds,HT.sIx]
  | some i =>
   simp only [sliceBounds,HT.sIx,Option.getD_none,show (1:Int) > 0 by decide,if_true];by_cases h:i < 0
   ·simp only [h,if_true] <;> omega
   ·simp only [h,if_false] <;> omega
 ·cases hi with
  | none=>simp [sliceBounds,HT.sIx]
  | some i =>
   simp only [sliceBounds,HT.sIx,Option.getD_none,show (1:Int) > 0 by decide,if_true];by_cases h:i < 0
   ·simp only [h,if_true] <;> omega
   ·simp only [h,if_false] <;> omega
theorem tv0 (its:[22]) (lo hi:Option Int):slicePick its.toArray lo hi none=((its.drop (HT.sIx its.length 0 lo)).take (HT.sIx its.length its.length hi - HT.sIx its.length 0 lo)).toArray:=by
 obtain ⟨h1,h2,h3⟩:=sa1 lo hi its.toArray.size;unfold slicePick;rw [h1,h2,h3];simp only [sliceRange_one,pick_run,size_toArray] <;> rfl
def rSlL (K:PySem.W.Frag):V->Option Int->Option Int->Hp->VK->Prop:=λ x lo hi H Q=>∃ a xs,x=.ref a /\ SqL K H a xs /\ ∀ p,H p=none->Q (.ref p) (upd H p (.lst (cutV xs lo hi)))
theorem vu2:SlR X (rSlL X.K):=by
 intro pins s σ H x v vl vu lo hi sl Q I rx hs pl pu h;obtain ⟨a,xs,rfl,hx,q⟩:=h;cases rx;obtain ⟨its,r,ht,hz⟩:=I.list hx;have hlen:=r.length;refine ⟨"list",_,slot_list_getitem.lookup,ht.isList.typeIs,?_⟩;refine wpAny_getItem_list_slice ht.isList hs pl pu .none [20] ?_ (by rw [size_toArray] <;> omega);rw [tv0,<- hlen];refine ⟨.ref s.heap.objs.size,_,I.laid (t':=s.toks) (o:=.lst (cutV xs lo hi)) (λ b ob q=>Heap.get?_push_of_some _ q) [26] ?_,rfl,q _ (I.hok.fresh [26])⟩;exact ⟨Nat.le_trans (xq0 xs lo hi) hz,_,0,(r.drop (HT.sIx xs.length 0 lo)).take (HT.sIx xs.length xs.length hi - HT.sIx xs.length 0 lo),Heap.get?_push_size _ rfl⟩
def wy0:V->Bool
 | .non=>true
 | .bl _=>true
 | .int _=>true
 | .str _=>true
 | _=>false
def eqV:V->V->Bool
 | .non,.non=>true
 | .bl a,.bl b=>a == b
 | .bl a,.int b=>(if a then 1 else 0) == b
 | .int a,.bl b=>a == (if b then 1 else 0)
 | .int a,.int b=>a == b
 | .str a,.str b=>a == b
 | _,_=>false
theorem tz3 {A:Around} {s:[39]} {y x:V} {u v:Value} (ry:RelV y u) (rx:RelV x v) (fy:wy0 y=true) (fx:wy0 x=true):SeqAt.EqAt A s u v (eqV y x):=by
 cases y with
 | non =>
  cases ry;cases x with
  | non=>cases rx; exact SeqAt.EqAt.same _
  | bl b=>cases rx; exact SeqAt.EqAt.none_bool b
  | int b=>obtain ⟨t,rfl⟩:=rx; exact SeqAt.EqAt.none_int b t
  | str b=>obtain ⟨t,rfl⟩:=rx; exact SeqAt.EqAt.none_str b t
  | _=>exact absurd (show false=true from fx) Bool.false_ne_true
 | bl a =>
  cases ry;cases x with
  | non=>cases rx; exact SeqAt.EqAt.bool_none a
  | bl b=>cases rx; exact SeqAt.EqAt.bool_bool a b
  | int b=>obtain ⟨t,rfl⟩:=rx; exact SeqAt.EqAt.bool_int a b t
  | str b=>obtain ⟨t,rfl⟩:=rx; exact SeqAt.EqAt.bool_str a b t
  | _=>exact absurd (show false=true from fx) Bool.false_ne_true
 | int a =>
  obtain ⟨t',rfl⟩:=ry;cases x with
  | non=>cases rx; exact SeqAt.EqAt.int_none a t'
  | bl b=>cases rx; exact SeqAt.EqAt.int_bool a t' b
  | int b=>obtain ⟨t,rfl⟩:=rx; exact SeqAt.EqAt.int_int a t' b t
  | str b=>obtain ⟨t,rfl⟩:=rx; exact SeqAt.EqAt.int_str a t' b t
  | _=>exact absurd (show false=true from fx) Bool.false_ne_true
 | str a =>
  obtain ⟨t',rfl⟩:=ry;cases x with
  | non=>cases rx; exact SeqAt.EqAt.str_none a t'
  | bl b=>cases rx; exact SeqAt.EqAt.str_bool a t' b
  | int b=>obtain ⟨t,rfl⟩:=rx; exact SeqAt.EqAt.str_int a t' b t
  | str b=>obtain ⟨t,rfl⟩:=rx; exact SeqAt.EqAt.str_str a t' b t
  | _=>exact absurd (show false=true from fx) Bool.false_ne_true
 | _=>exact absurd (show false=true from fy) Bool.false_ne_true
def eqU (x:V) (u:Value):Bool:=match u with
 | .none=>eqV .non x
 | .bool b=>eqV (.bl b) x
 | .int i _=>eqV (.int i) x
 | .str z _=>eqV (.str z) x
 | _=>false
theorem tr2 {x y:V} {u:Value} (r:RelV y u) (f:wy0 y=true):eqU x u=eqV y x:=by
 cases y with
 | non=>cases r; rfl
 | bl b=>cases r; rfl
 | int i=>obtain ⟨t,rfl⟩:=r; rfl
 | str z=>obtain ⟨t,rfl⟩:=r; rfl
 | _=>exact absurd (show false=true from f) Bool.false_ne_true
theorem xi1 {x:V}:∀ {xs:List V} {us:[22]},Vals xs us->xs.all wy0=true->us.any (eqU x)=xs.any λ y=>eqV y x
 | _,_,.nil,_=>rfl
 | y :: xs,u :: us,.cons r t,f=>by
  rw [List.all_cons,Bool.and_eq_true] at f;rw [any_cons,any_cons,tr2 r f.1,xi1 t f.2]
theorem wx0 {A:Around} {s:[39]} {x:V} {v:Value} (rx:RelV x v) (fx:wy0 x=true):∀ {xs:List V} {us:[22]},Vals xs us->xs.all wy0=true->∀ u ∈ us,SeqAt.EqAt A s u v (eqU x u)
 | _,_,.nil,_=>λ u hu=>by cases hu
 | y :: xs,u :: us,.cons r t,f=>λ u' hu=>by
  rw [List.all_cons,Bool.and_eq_true] at f;rcases List.mem_cons.mp hu with rfl | hu
  ·rw [tr2 r f.1]; exact tz3 r rx f.1 fx
  ·exact wx0 rx fx t f.2 u' hu
def inV (x:V) (xs:List V):Bool:=xs.any λ y=>eqV y x
def rIn (K:PySem.W.Frag) (neg:Bool):R2:=λ x y H Q=>∃ p xs,y=.ref p /\ (SqL K H p xs \/ SqT K H p xs) /\ wy0 x=true /\ xs.all wy0=true /\ Q (.bl (if neg then !inV x xs else inV x xs)) H
theorem op_notIn_seq:OpR X (compareOp .NotIn) (rIn X.K true):=by
 intro pins s σ H x y v u Q I rx ry h;obtain ⟨p,xs,rfl,hq,fx,fs,q⟩:=h;cases ry;rcases hq with hq | hq
 ·obtain ⟨its,r,pl,hz⟩:=I.list hq;refine SeqAt.notIn_listAt (eqU x) pl.isList (λ w hw=>wx0 rx fx r fs w (by simpa using hw)) ⟨.bl _,H,I,rfl,?_⟩;rw [show its.toArray.any (eqU x)=its.any (eqU x) by simp,xi1 r fs];exact q
 ·obtain ⟨its,r,pl,hz⟩:=I.tuple hq;refine SeqAt.notIn_tupleAt (eqU x) pl (λ w hw=>wx0 rx fx r fs w (by simpa using hw)) ⟨.bl _,H,I,rfl,?_⟩;rw [show its.toArray.any (eqU x)=its.any (eqU x) by simp,xi1 r fs];exact q
theorem tb1:OpR X (compareOp .NotIn) (λ x y H Q=>∃ i j,x=.str i /\ y=.str j /\ Q (.bl (!(!(Builtin.Str.occurrences j i 0 j.length 1).isEmpty))) H):=by
 intro pins s σ H x y v u Q I rx ry h;obtain ⟨i,j,rfl,rfl,q⟩:=h;obtain ⟨t,rfl⟩:=rx;obtain ⟨t',rfl⟩:=ry;exact notIn_str ⟨.bl _,H,I,rfl,q⟩
theorem call_len_seq:CallR X (.builtin "len") (λ xs H Q=>∃ p ys,xs=[.ref p] /\ (SqL X.K H p ys \/ SqT X.K H p ys) /\ Q (.int ys.length) H):=by
 intro pins s σ H xs us Q I r h;obtain ⟨p,ys,rfl,hq,q⟩:=h;obtain ⟨u,rfl,rx⟩:=us1 r;cases rx;have hn:=zc1;rcases hq with hq | hq
 ·obtain ⟨its,r',pl,hz⟩:=I.list hq;have hlen:=r'.length;exact Calls.call_len_list pl.isList (by simp only [size_toArray] <;> omega) ⟨.int ys.length,H,I.tok _,⟨s.toks + 1,by rw [size_toArray,hlen]⟩,q⟩
 ·obtain ⟨its,r',pl,hz⟩:=I.tuple hq;have hlen:=r'.length;exact len_tuple pl (by simp only [size_toArray] <;> omega) ⟨.int ys.length,H,I.tok _,⟨s.toks + 1,by rw [size_toArray,hlen]⟩,q⟩
theorem ye1:CallR X (.builtin "len") (λ xs H Q=>∃ z,xs=[.str z] /\ z.length<=sizeLine /\ Q (.int z.length) H):=by
 intro pins s σ H xs us Q I r h;obtain ⟨z,rfl,hz,q⟩:=h;obtain ⟨u,rfl,t,rfl⟩:=us1 r;have hn:=zc1;exact len_str [1] ⟨.int z.length,H,I.tok _,⟨_,rfl⟩,q⟩
theorem CallR.or {f:Value} {r r':List V->Hp->VK->Prop} (h:CallR X f r) (h':CallR X f r'):CallR X f (λ xs H Q=>r xs H Q \/ r' xs H Q):=by
 intro pins s σ H xs us Q I rs q;rcases q with q | q
 ·exact h pins s σ H xs us Q I rs q
 ·exact h' pins s σ H xs us Q I rs q
theorem wz0:CallR X (.type "tuple") (λ xs H Q=>∃ p ys,xs=[.ref p] /\ ((SqL X.K H p ys /\ ∀ l,H l=none->Q (.ref l) (upd H l (.tup ys))) \/ (SqT X.K H p ys /\ Q (.ref p) H))):=by
 intro pins s σ H xs us Q I r h;obtain ⟨p,ys,rfl,h⟩:=h;obtain ⟨u,rfl,rx⟩:=us1 r;cases rx;rcases h with ⟨hq,q⟩ | ⟨hq,q⟩
 ·obtain ⟨its,r',pl,hz⟩:=I.list hq;have hlen:=r'.length;refine call_tuple_list pl.isList (λ h' kp=>?_) (by simp only [size_toArray] <;> omega);have I1:Inv X pins σ H { s with heap:=h' }:=I.kept (t':=s.toks) kp
  have I2:Inv X pins σ (upd H h'.objs.size (.tup ys)) { s with heap:=h'.push { cls:=.type "tuple",data:=.seq its.toArray } } :=
   I1.laid (t':=s.toks) (λ b o e=>Heap.get?_push_of_some _ e) [26] (show ObjOk X.prog X.w _ _ _ (.tup ys) from ⟨hz,its,r',IsTup.new _ _⟩)
  exact ⟨.ref h'.objs.size,_,I2,rfl,q _ (I1.hok.fresh [26])⟩
 ·obtain ⟨its,r',pl,hz⟩:=I.tuple hq;exact call_tuple_same pl ⟨.ref p,H,I,rfl,q⟩
def tyV (K:PySem.W.Frag) (T:String) (x:V) (H:Hp):Prop:=match x with
 | .str _=>T = "str"
 | .int _=>T = "int"
 | .ref p=>(T = "list" /\ ∃ xs,SqL K H p xs) \/ (T = "tuple" /\ ∃ o,K.lookup p=some o /\ o.cls=.type "tuple" /\ o.dict=none) ∨
     (T = "dict" /\ ((∃ kvs,H p=some (.dK kvs)) \/ ∃ kvs,H p=some (.dT kvs))) \/ (T = "set" /\ ∃ S n,H p=some (.set S n))
 | _=>False
theorem sf3 {pins:[8]} {σ:St} {H:Hp} {s:[39]} {T:String} {x:V} {v:Value} (I:[7]) (r:RelV x v) (ty:tyV X.K T x H) :
    s.TypeIs v T /\ ∀ a,v=.ref a->∃ ob,s.heap.get? a=some ob /\ ob.dict=none:=by
 cases x with
 | str z =>
  obtain ⟨t,rfl⟩:=r;cases (show T = "str" from ty);exact ⟨typeIs_str s z t,λ _ e=>nomatch e⟩
 | int i =>
  obtain ⟨t,rfl⟩:=r;cases (show T = "int" from ty);exact ⟨typeIs_int s i t,λ _ e=>nomatch e⟩
 | ref p =>
  cases r;rcases ty with ⟨rfl,xs,hq⟩ | ⟨rfl,o,hk,hc,hd⟩ | ⟨rfl,hk⟩ | ⟨rfl,S,n,hk⟩
  ·obtain ⟨its,_,pl,_⟩:=I.list hq;refine ⟨pl.isList.typeIs,λ a e=>?_⟩;cases e;obtain ⟨o,n,e,c,hd,_⟩:=pl;exact ⟨o,e,hd⟩
  ·refine ⟨⟨o,I.kIn p o hk,hc⟩,λ a e=>?_⟩;cases e;exact ⟨o,I.kIn _ o hk,hd⟩
  ·have z:∃ o,s.heap.get? p=some o /\ o.ExactDict:=by
     rcases hk with ⟨kvs,hk⟩ | ⟨kvs,hk⟩
     ·obtain ⟨_,_,_,_,o,_,_,e,ex,_⟩:=I.hok p _ hk;exact ⟨o,e,ex⟩
     ·obtain ⟨_,_,_,_,o,_,_,e,ex,_⟩:=I.hok p _ hk;exact ⟨o,e,ex⟩
   obtain ⟨o,e,ex⟩:=z;refine ⟨⟨o,e,ex.1⟩,λ a e2=>?_⟩;cases e2;exact ⟨o,e,ex.2.1⟩
  ·obtain ⟨o,_,_,_,e,ex,_⟩:=I.hok p _ hk;refine ⟨⟨o,e,ex.1⟩,λ a e2=>?_⟩;cases e2;exact ⟨o,e,ex.2.1⟩
 | _=>exact False.elim ty
def tBM (K:PySem.W.Frag) (T:String) (r:V->List V->Hp->VK->Prop) (to:TE) (t:TA):TE:=λ σ H Q=>to σ H λ x H1=>tyV K T x H1 /\ t σ H1 λ xs H2=>r x xs H2 Q
variable {o e:Expr} {es:List Expr} {to:TE} {t:TA} {name:Str} {apos cpos:Pos} {T id:String} {r:V->List V->Hp->VK->Prop}
theorem uy2 (pa:PlainAttrs T) (slot:Slot T name id) (hty:typeOf (.builtin id)=pure (.type "method_descriptor")) (hm:MtR X id r) (ho:PE X o to) (ha:PA X (e :: es) t)
    (hbase:attributeBase o name X.env (eval o X.env)=eval o X.env:=by rfl)
    (hfew:((backTo cpos (starEach (e :: es) X.env)).all (λ x=>!x.1) && (backToKw cpos (keywordEach [] X.env)).all (λ x=>x.1.isSome)
     && decide [24])=true:=by rfl)
    (hline:(apos.endLine == cpos.line)=true:=by rfl) (hs:starEach (e :: es) X.env=[29] :: starEach es X.env:=by rfl) (hplain:(backTo cpos (starEach es X.env)).any (·.1)=false:=by rfl) :
    PE X (.Call (.Attribute o name apos) (e :: es) [] cpos) (tBM X.K T r to t):=by
 intro pins s σ H Q I h;refine wpAny_Call_method_late hbase hfew hline rfl (thn (ho pins s σ H _ I h) λ v s1 ⟨x,H1,I1,r1,ty,q1⟩=>?_);obtain ⟨h1,h2⟩:=sf3 I1 r1 ty;refine ⟨T,id,pa,slot,hty,h1,h2,?_⟩;have hA:=ha cpos pins s1 σ H1 _ I1 q1;rw [hs] at hA ⊢;refine Calls.callWith_builtin (by show (false || (backTo cpos (starEach es X.env)).any (·.1))=false; rw [hplain] <;> rfl) (Calls.evalArgs_plain ?_);exact thn hA λ us s2 ⟨vs,H2,I2,r2,q2⟩=>hm pins s2 σ H2 x vs v us Q I2 r1 r2 q2
end
def MtM (X:Cx) (id:String) (r:V->List V->Hp->VK->Prop):Prop :=
 ∀ (pins:[8]) (s:[39]) (σ:St) (H:Hp) (x:V) (xs:List V) (v:Value) (us:[22]) (Q:VK),Inv X pins σ H s->RelV x v->Vals xs us->r x xs H Q ->
  wpAny [10] X.A (call (.builtin id) (v :: us)) (EP X pins σ Q) X.xe s
theorem Vals.one:∀ {x:V} {us:[22]},Vals [x] us->∃ u,us=[u] /\ RelV x u
 | _,_,.cons r .nil=>⟨_,rfl,r⟩
theorem Vals.rep {xs:List V} {us:[22]} (h:Vals xs us):∀ k:Nat,Vals (List.replicate k xs).flatten (List.replicate k us).flatten
 | 0=>.nil
 | k + 1=>by
  rw [replicate_succ,replicate_succ,flatten_cons,flatten_cons];exact Vals.append h (Vals.rep h k)
theorem tp0 (its:[22]):∀ (k:Nat) (acc:[22]),
    List.foldl (λ x1 x2=>x1 ++ x2) acc.toArray (List.replicate k its.toArray)=(acc ++ (List.replicate k its).flatten).toArray
 | 0,acc=>by simp
 | k + 1,acc=>by
  have e:acc.toArray ++ its.toArray=(acc ++ its).toArray:=by simp
  have e2:(acc ++ its) ++ (List.replicate k its).flatten=acc ++ (List.replicate (k + 1) its).flatten:=by
   rw [replicate_succ,flatten_cons,append_assoc]
  rw [<- e2,<- tp0 its k (acc ++ its),<- e,replicate_succ,foldl_cons]
section
variable {X:Cx} {pins:[8]} {σ:St} {H:Hp} {s:[39]} {l b:Addr} {xs ys zs:List V}
theorem Inv.lset {its its':[22]} {n:Nat} {f:Array Value->Array Value} {t':Nat} (I:[7]) (hH:H l=some (.lst xs))
    (e:s.heap.get? l=some { cls:=.type "list",data:=.seq its.toArray n }) (hf:f its.toArray=its'.toArray) (hv:Vals ys its') (hz:ys.length<=sizeLine) :
    Inv X pins σ (upd H l (.lst ys)) { s with heap:=s.heap.update l (Obj.mapSeq f),toks:=t' }:=by
 have q:=PySem.IsL.update e f;rw [hf] at q;refine I.write (x:=l) (e:=l) (by rw [hH]; exact trivial) (.inl rfl) (λ b' u hb hu=>(Heap.get?_update_other s.heap (Obj.mapSeq f) (Ne.symm hb)).trans hu) ⟨_,q⟩ ?_;exact ⟨hz,its',_,hv,q⟩
theorem Inv.lnew {its:[22]} {t':Nat} (I:[7]) (hv:Vals ys its) (hz:ys.length<=sizeLine) :
    Inv X pins σ (upd H s.heap.objs.size (.lst ys)) { s with heap:=s.heap.push { cls:=.type "list",data:=.seq its.toArray },toks:=t' } :=
 I.laid (λ _ _ q=>Heap.get?_push_of_some _ q) [26] ⟨hz,its,0,hv,Heap.get?_push_size _ rfl⟩
theorem Inv.fresh (I:[7]):H s.heap.objs.size=none:=I.hok.fresh [26]
theorem Inv.lstM (I:[7]) (hH:H l=some (.lst xs)):xs.length<=sizeLine /\ ∃ (its:[22]) (n:Nat),Vals xs its /\ xs.length=its.length /\ s.heap.get? l=some { cls:=.type "list",data:=.seq its.toArray n }:=by
 obtain ⟨z,its,n,r,e⟩:=I.hok l _ hH;exact ⟨z,its,n,r,r.length,e⟩
theorem uk1 {n:Nat} (h:n<=sizeLine):Builtin.List.listTooLong n=false:=by
 unfold Builtin.List.listTooLong;exact decide_eq_false [1]
end
section
variable {X:Cx}
def xw2:V->List V->Hp->VK->Prop:=λ x vs H Q=>∃ l xs y,x=.ref l /\ vs=[y] /\ H l=some (.lst xs) /\ xs.length < sizeLine /\ Q .non (upd H l (.lst (xs ++ [y])))
theorem zp0:MtM X "list.append" xw2:=by
 intro pins s σ H x vs v us Q I rx rv h;obtain ⟨l,xs,y,rfl,rfl,hH,hz,q⟩:=h;cases rx;obtain ⟨u,rfl,ru⟩:=rv.one;obtain ⟨z,its,n,r,hl,e⟩:=I.lstM hH;refine call_meets F.slot_list_append ⟨_,e,rfl⟩ F.entry_list_append (F.args_list_append_2 _ _) (PySem.list_append l its.toArray n u (by rw [size_toArray]; omega)) ⟨e,?_⟩;refine ⟨.non,_,I.lset (its':=its ++ [u]) hH e [20] (r.append (.cons ru .nil)) ?_,rfl,q⟩;rw [length_append,length_singleton];omega
def sv2:V->List V->Hp->VK->Prop:=λ x vs H Q=>∃ l b xs zs,x=.ref l /\ vs=[.ref b] /\ H l=some (.lst xs) /\ H b=some (.lst zs) /\ xs.length + zs.length<=sizeLine /\ Q .non (upd H l (.lst (xs ++ zs)))
theorem ty1:MtM X "list.extend" sv2:=by
 intro pins s σ H x vs v us Q I rx rv h;obtain ⟨l,b,xs,zs,rfl,rfl,hH,hB,hz,q⟩:=h;cases rx;obtain ⟨u,rfl,ru⟩:=rv.one;cases ru;obtain ⟨z,its,n,r,hl,e⟩:=I.lstM hH;obtain ⟨z2,its2,n2,r2,hl2,e2⟩:=I.lstM hB;have hsz:its.toArray.size + its2.toArray.size<=sizeLine:=by rw [size_toArray,size_toArray]; omega
 have hlong:¬ (!its.toArray.isEmpty && Builtin.List.listTooLong (its.toArray.size + its2.toArray.size))=true:=by
  rw [uk1 hsz,Bool.and_false];exact Bool.false_ne_true
 refine call_meets F.slot_list_extend ⟨_,e,rfl⟩ F.entry_list_extend (F.args_list_extend_2 _ _)
  (AutoSeq1.list_extend_list_list_0 l its.toArray n b its2.toArray n2 hlong (by rw [size_toArray]; omega) [1]) ⟨e,e2,?_⟩
 refine ⟨.non,_,I.lset (its':=its ++ its2) hH e [20] (r.append r2) ?_,rfl,q⟩;rw [length_append];omega
def rCat:R2:=λ x y H Q=>∃ l b xs zs,x=.ref l /\ y=.ref b /\ H l=some (.lst xs) /\ H b=some (.lst zs) /\ xs.length + zs.length<=sizeLine /\ ∀ p,H p=none->Q (.ref p) (upd H p (.lst (xs ++ zs)))
theorem op_cat:OpR X (binaryOp .Add) rCat:=by
 intro pins s σ H x y v u Q I rx ry h;obtain ⟨l,b,xs,zs,rfl,rfl,hH,hB,hz,q⟩:=h;cases rx;cases ry;obtain ⟨z,its,n,r,hl,e⟩:=I.lstM hH;obtain ⟨z2,its2,n2,r2,hl2,e2⟩:=I.lstM hB;refine PySem.P.add_list e e2 ?_ (by rw [size_toArray,size_toArray]; omega);have ea:its.toArray ++ its2.toArray=(its ++ its2).toArray:=by simp
 rw [ea];exact ⟨.ref _,_,I.lnew (t':=s.toks) (r.append r2) (by rw [length_append]; omega),rfl,q _ I.fresh⟩
def rRep:R2:=λ x y H Q=>∃ l k xs,x=.ref l /\ y=.int k /\ H l=some (.lst xs) /\ -(2 ^ 63)<=k /\ k < 2 ^ 63 /\ xs.length * k.toNat<=sizeLine ∧
 ∀ p,H p=none->Q (.ref p) (upd H p (.lst (List.replicate k.toNat xs).flatten))
theorem xh1 {α:Type} (xs:List α) (k:Nat):(List.replicate k xs).flatten.length=k * xs.length:=by
 induction k with
 | zero=>simp
 | succ k ih=>rw [replicate_succ,flatten_cons,length_append,ih,Nat.succ_mul,Nat.add_comm]
theorem uv3:OpR X (binaryOp .Mult) rRep:=by
 intro pins s σ H x y v u Q I rx ry h;obtain ⟨l,k,xs,rfl,rfl,hH,h1,h2,hz,q⟩:=h;cases rx;obtain ⟨t,rfl⟩:=ry;obtain ⟨z,its,n,r,hl,e⟩:=I.lstM hH;have hlen:its.toArray.size * k.toNat<=sizeLine:=by rw [size_toArray,<- hl]; exact hz
 have hcap:¬ its.toArray.size * k.toNat > (2 ^ 63 - 1) / 8:=by
  have:(sizeLine:Nat)<=(2 ^ 63 - 1) / 8:=by decide
  omega
 have hfit:¬ (!Builtin.List.listFitsIndex k)=true:=by
  rw [fitsIndex_both h1 h2];exact Bool.false_ne_true
 have hlong:¬ Builtin.List.listTooLong (its.toArray.size * k.toNat)=true:=by
  rw [uk1 hlen];exact Bool.false_ne_true
 have hnew:List.foldl (λ x1 x2=>x1 ++ x2) #[] (List.replicate (if its.toArray.isEmpty=true then 0 else k.toNat) its.toArray)=(List.replicate k.toNat its).flatten.toArray:=by
  have f0:∀ m:Nat,List.foldl (λ x1 x2=>x1 ++ x2) #[] (List.replicate m its.toArray)=(List.replicate m its).flatten.toArray:=λ m=>by
   have:=tp0 its m [];rw [nil_append] at this;exact this
  rw [f0];cases its with
  | nil=>simp
  | cons a r'=>rw [if_neg [20]]
 refine wpAny_binaryOp_repeat_ref (T := "list") (U := "int") [9] ⟨_,e,rfl⟩ (λ s'=>typeIs_int s' k t) noFill_list_mul F.fills_int_mul F.slot_int_rmul repeat_list F.slot_int_index.lookup
  (call_meets F.slot_int_rmul (typeIs_int s k t) F.entry_int_rmul (F.args_int_rmul_2 _ _) (int___rmul___int_list k t l its.toArray n)
   ⟨e,rfl,⟨_,e,rfl⟩,call_meets F.slot_list_mul ⟨_,e,rfl⟩ F.entry_list_mul (F.args_list_mul_2 _ _) (AutoListH.list___mul___list_int_3 l its.toArray n k t hfit hcap hlong) ⟨e,?_⟩⟩)
 rw [hnew];exact ⟨.ref _,_,I.lnew (t':=s.toks) (r.rep k.toNat) (by rw [xh1,Nat.mul_comm]; exact hz),rfl,q _ I.fresh⟩
end
end L2
namespace Att
open PySem PySem.W PySem.Calls PyProof.Rows
theorem up0 {P:Params} {h:Heap}:∀ (ns:List Int) (vs:[22]),WellAll P h vs (ns.map WData.int)->IntsAre vs ns:=by
 intro ns
 induction ns with
 | nil =>
  intro vs w;rw [map_nil] at w;cases w;exact .nil
 | cons n ns ih =>
  intro vs w;rw [map_cons] at w;cases w with
  | cons a b =>
   cases a;exact .cons _ _ (ih _ b)
theorem yv1 {l:OpenLaw} {n:Nat} (hn:l.most=some n) {P:Params} {h:Heap} {args:List WData} {vals:[22]}
    (hpre:l.row.toRowW.claim.pre args=true) (hwl:WellAll P h vals args) :
    ∃ a vs ns,vals=[Value.ref a] /\ args=[WData.list (ns.map WData.int)] /\ h.get? a=some { cls:=.type "list",data:=.seq vs.toArray } /\ IntsAre vs ns /\ ns.length<=n:=by
 have hsh:WShape.hasAll [] args [.list .int]=true:=(pre_splitW hpre).1;have hc:l.pre.holds [] { args:=args }=true:=(pre_splitW hpre).2;obtain ⟨d,r,rfl,h1,h2⟩:=hasAllW_cons hsh;obtain rfl:=hasAllW_nil h2;obtain ⟨xs,rfl,h3⟩:=hasW_list h1;obtain ⟨ns,rfl⟩:=items_int h3
 have hlen:ns.length<=n:=by
  unfold OpenLaw.pre at hc
  have h4:(WTm.not (.lt (.lit (.int (n:Int))) (.len (.arg 0)))).holds [] { args:=[.list (ns.map .int)] }=true:=by
   have h4:=(holds_andW hc).1;rw [hn] at h4;exact h4
  have h5:=condW_of h4 (w_not (w_lt w_lit (w_len_list (w_arg rfl))));rw [length_map] at h5;refine Nat.le_of_not_lt λ q=>?_;have q':(n:Int) < ((ns.length:Nat):Int):=by omega
  first
   | (rw [decide_eq_true q'] at h5; exact absurd h5 [9])
   | (simp at h5; omega)
 cases hwl with
 | cons w1 w2 =>
  cases w2;cases w1 with
  | list ho hall=>exact ⟨_,_,ns,rfl,rfl,ho,up0 ns _ hall,hlen⟩
theorem yx1 (l:OpenLaw) (args:List WData):l.row.toRowW.claim.post args (.bool true) args=true :=
 postW_of (r:=l.row.toRowW) (X:=(true == true))
  (show WShape.has [] (.bool true) .bool=true by first | rfl | decide | simp [WShape.has,WShape.arms,WShape.armsAll])
  (show (WTm.eq .res (.lit (.bool true))).value [] { args:=args,res:=some (.bool true),after:=args }=some (.bool (true == true)) from w_eq_bool (w_res rfl) w_lit) rfl
theorem attach_call {l:OpenLaw} {n:Nat} {q:Program} {loose:List Str} {XP:(Str->Option Value)->Heap->Prop} {YP:World->Heap->Prop} {d:DefRec}
    (hn:l.most=some n) (hdf:d.params.defaults=[])
    (call:∀ (w:World) (s₀ s₁:[39]) (mg mb:[23]) (fa:Addr) (o:Obj) (pm cd doc:Value) (a:Addr) (vs:[22]) (ns:List Int),
     Ground q loose [] XP w s₀ mg mb s₁.heap->YP w s₁.heap ->
     s₁.heap.get? fa=some o->o.data=.func (docDef d.name d.params d.body d.scope pm cd doc)->s₁.heap.CodeRec cd d.name->mg d.name=some (.ref fa) ->
     s₁.heap.get? a=some { cls:=.type "list",data:=.seq vs.toArray }->IntsAre vs ns->ns.length<=n->s₁.gens = #[] ->
     codeAny (model l.prog w) callerA (.call (.ref fa) ⟨[.ref a],[]⟩) (λ r s'=>r=.ok (.ret (.bool true)) /\ OldK s₁.heap s'.heap /\ s'.os=s₁.os /\ AllBare s'.gens) s₁) :
    WalkO q loose XP YP l.row.toRowW d [] (λ f vs=>PySem.call f vs):=by
 intro w s₀ s₁ mg mb G Y fa o pm cd doc dV kV ho hd hcd hD hmg hg args vals as hpre hlay hrd hwl hlo;obtain rfl:dV=.none:=Dflts.none hD hdf;obtain rfl:kV=.none:=Dflts.noKw hD;obtain ⟨a,vs,ns,rfl,rfl,hobj,hints,hlen⟩:=yv1 hn hpre hwl;refine enter_call (codeAny_mono (call w s₀ s₁ mg mb fa o pm cd doc a vs ns G Y ho (fd_plain hd) hcd hmg hobj hints hlen hg) λ r s' hq=>?_);obtain ⟨rfl,h2,h3,h4⟩:=hq;exact ⟨.inl ⟨.bool true,.bool true,[],rfl,λ _=>rfl,.bool true,yx1 l _,λ _=>⟨List.Pairwise.nil,λ _ hm=>(nomatch hm)⟩⟩,h2,h3,h4⟩
section
variable {prog:Program} {w:World} {A:Around} {E:[4]} {s:[39]} {K:Frag}
def ledger (h:Heap) (L d:Addr):List (Addr × Obj):=(List.range h.objs.size).filterMap λ a=>if a=L \/ a=d then none else (h.get? a).map λ o=>(a,o)
end
end Att
namespace L2
open PySem PySem.Spec PyProof.Rows
theorem tz0:∀ {vs:[22]} {ns:List Int},IntsAre vs ns->Vals (ns.map V.int) vs
 | _,_,.nil=>.nil
 | _,_,.cons n t h=>.cons ⟨t,rfl⟩ (tz0 h)
def Only (H:Hp):Prop:=∀ b,H b=none \/ ∃ o xs,H b=some (.frz o (.lst xs))
theorem vk2 {P:Program} {w:World} {K:PySem.W.Frag} {mg mb:[23]} {CX:CXT} {k:Nat} {fa a:Addr} {fd:FuncData} {x:Str} {sp:Sp} {s₁:[39]} {vs:[22]} {ns:List Int}
    (KX:K.In s₁.heap) (hns:s₁.heap.Ns mainGlobals mg) (hb:s₁.heap.Ns builtinsNs mb) (hbb:∀ x:Str,x ≠ "__name__" -> mb x=bootBuiltins x) (hlim:s₁.heap.NoLimit) (hg:s₁.gens = #[])
    (ha:s₁.heap.get? a=some { cls:=.type "list",data:=.seq vs.toArray }) (hi:IntsAre vs ns) (hl:ns.length<=sizeLine) (hr:Room k callerA)
    (F:∀ base:Heap,K.In base->base.Ns mainGlobals mg->FnOk P w K mg base CX k fa fd [x] sp) (hbind:∀ (s:[39]) (u:Value),BindsTo s fd ⟨[u],[]⟩ [(x,u)])
    (hsp:∀ H:Hp,Only H->SqL K H a (ns.map V.int)->sp [.ref a] H (λ v _=>v=.bl true) λ _ _ _=>False)
    (hCX:∀ H e s',CX [] H s₁ (λ _ _ _=>False) e s'->False) :
    codeAny (model P w) callerA (.call (.ref fa) ⟨[.ref a],[]⟩) (λ r s'=>r=.ok (.ret (.bool true)) /\ OldK s₁.heap s'.heap /\ s'.os=s₁.os /\ AllBare s'.gens) s₁:=by
 have rv:=tz0 hi;have lenV:=hi.length
 have core:∀ H:Hp,Only H->SqL K H a (ns.map V.int)->HOk P w H s₁.heap->(∀ b,H b ≠ none->b=a)->(H a ≠ none->K.lookup a=none) ->
     codeAny (model P w) callerA (.call (.ref fa) ⟨[.ref a],[]⟩) (λ r s'=>r=.ok (.ret (.bool true)) /\ OldK s₁.heap s'.heap /\ s'.os=s₁.os /\ AllBare s'.gens) s₁:=by
  intro H hO hS hok hA hK;have base_of:∀ {b:Addr} {o:Obj},s₁.heap.get? b=some o->H b=none->(hidT s₁.heap H).get? b=some o:=λ e n=>tl2 e n
  have noA:∀ {b:Addr} {o:Obj} {es:Array DictEntry} {ep:Nat},s₁.heap.get? b=some o->o.data=.dict es ep->H b=none:=λ {b o es ep} e d=>by
   cases q:H b with
   | none=>rfl
   | some u =>
    have e':b=a:=hA b (by rw [q]; simp);subst e';rw [ha] at e; cases e;have d':Data.seq vs.toArray _=Data.dict es ep:=d;cases d'
  have nsK:∀ {b:Addr} {m:[23]},s₁.heap.Ns b m->(hidT s₁.heap H).Ns b m:=λ {b m} ⟨o,es,ep,e,d,r⟩=>⟨o,es,ep,base_of e (noA e d),d,r⟩
  have hKb:K.In (hidT s₁.heap H):=λ b o e=>base_of (KX b o e) (by
   cases q:H b with
   | none=>rfl
   | some u =>
    have e':b=a:=hA b (by rw [q]; simp);subst e';rw [hK (by rw [q]; simp)] at e; cases e)
  have hM:Mod K mg (hidT s₁.heap H):=⟨hKb,nsK hns,⟨mb,nsK hb,hbb⟩,let ⟨mc,h1,h2⟩:=hlim; ⟨mc,nsK h1,h2⟩⟩;have e0:Env0 P w K mg (hidT s₁.heap H) callerA [] s₁ H:=⟨rfl,hM,λ b o e=>wz2 e,Nat.le_of_eq (va2 _ _),trivial,λ b hb=>absurd (show b ∈ ([]:List Addr) from hb) [20],hok,.of_eq hg⟩;refine codeAny_mono ((F _ hKb (nsK hns)).run callerA [] s₁ H ⟨[.ref a],[]⟩ [.ref a] [.ref a] _ _ hr e0 (hbind s₁ (.ref a)) (.cons rfl .nil) (hsp H hO hS)) λ r s' h=>?_;cases r with
  | error e=>exact (hCX H e s' h).elim
  | ok fl =>
   cases fl with
   | next=>exact False.elim h
   | brk=>exact False.elim h
   | cont=>exact False.elim h
   | ret u =>
    obtain ⟨v,H',os,bare,un,hok',r',q⟩:=h;have q':v=.bl true:=q;subst q';obtain rfl:u=Value.bool true:=r';refine ⟨rfl,OldK.of_keep λ b o e=>?_,os,bare⟩;cases q:H b with
    | none=>exact un.keep b o e q (by intro z; exact absurd (show b ∈ ([]:List Addr) from z) [20]) [20]
    | some u =>
     rcases hO b with z | ⟨ob,xs,z⟩
     ·rw [q] at z; cases z
     ·have z2:=un.frzs b ob _ z;obtain ⟨e1,_⟩:=hok b _ z;obtain ⟨e2,_⟩:=hok' b _ z2;rw [e] at e1; cases e1;exact e2
 cases hk:K.lookup a with
 | some o =>
  have e:=KX a o hk;rw [ha] at e;cases e;refine core (λ _=>none) (λ _=>.inl rfl) (.inr ⟨_,vs.toArray,_,hk,rfl,rfl,rfl,by rw [size_toArray,lenV]; exact hl,by simpa using rv⟩) (λ b u z=>by have z':(none:Option HO)=some u:=z; cases z') (λ b z=>absurd rfl z) λ z=>absurd rfl z
 | none =>
  refine core (λ b=>if b=a then some (.frz { cls:=.type "list",data:=.seq vs.toArray } (.lst (ns.map V.int))) else none) (λ b=>?_) (.inl (.inr ⟨{ cls:=.type "list",data:=.seq vs.toArray },if_pos rfl⟩)) (λ b u z=>?_) (λ b z=>?_) λ _=>hk
  ·by_cases hb:b=a
   ·exact .inr ⟨_,_,if_pos hb⟩
   ·exact .inl (if_neg hb)
  ·by_cases hb:b=a
   ·have z':=(if_pos hb).symm.trans z;cases z';subst hb;exact ⟨ha,by rw [length_map]; exact hl,vs,_,rv,ha⟩
   ·have z':=(if_neg hb).symm.trans z;cases z'
  ·by_cases hb:b=a
   ·exact hb
   ·exact absurd (if_neg hb) z
abbrev KOf {K:PySem.W.Frag} {h:Heap} (_:K.In h):PySem.W.Frag:=K
theorem walk_of {l:PySem.W.OpenLaw} {n k:Nat} {q:Program} {loose:List Str} {XP:(Str->Option Value)->Heap->Prop} {YP:World->Heap->Prop} {d:DefRec} {K:Params->PySem.W.Frag} {CX:World->CXT} {sp:World->Sp} {x:Str}
    (hn:l.most=some n) (hn2:n<=sizeLine) (hdf:d.params.defaults=[]) (hr:Room k callerA)
    (hY:∀ (w:World) (h:Heap),YP w h->(K w.params).In h)
    (F:∀ (w:World) (mg:[23]) (fa:Addr) (h:Heap),(K w.params).In h->h.Ns mainGlobals mg->mg d.name=some (.ref fa) ->
     ∃ fd:FuncData,(∀ (s:[39]) (u:Value),BindsTo s fd ⟨[u],[]⟩ [(x,u)]) ∧
      ∀ base:Heap,(K w.params).In base->base.Ns mainGlobals mg->FnOk l.prog w (K w.params) mg base (CX w) k fa fd [x] (sp w))
    (hsp:∀ (w:World) (H:Hp) (a:Addr) (ns:List Int),ns.length<=n->Only H->SqL (K w.params) H a (ns.map V.int)->sp w [.ref a] H (λ v _=>v=.bl true) λ _ _ _=>False)
    (hCX:∀ (w:World) (H:Hp) (s:[39]) (e:Value) (s':[39]),CX w [] H s (λ _ _ _=>False) e s'->False) :
    PySem.W.WalkO q loose XP YP l.row.toRowW d [] (λ f vs=>PySem.call f vs):=by
 refine Att.attach_call hn hdf λ w s₀ s₁ mg mb fa o pm cd doc a vs ns G Y ho hd hcd hmg hobj hints hlen hg=>?_;have KX:=hY w _ Y;obtain ⟨fd,hb,hF⟩:=F w mg fa _ KX G.T.g hmg;exact vk2 KX G.T.g G.T.b G.T.builtins G.T.nolimit hg hobj hints (Nat.le_trans hlen hn2) hr hF hb (λ H hO hS=>hsp w H a ns hlen hO hS) λ H e s'=>hCX w H s₁ e s'
abbrev CX0:CXT:=λ _ _ _ _ _ _=>False
abbrev E0:XK:=λ _ _ _=>False
theorem uj4 {X:Cx}:zn1 CX0 X E0:=λ _ _ _ _ _ _ _ h=>h.elim
structure Fun (K:PySem.W.Frag) (x qual:Str) (st:Stmt) (f:Addr) (fd:FuncData):Prop where
 ex:∃ (oc:Value) (od:Option Addr) (kV doc pm:Value) (an:Option Addr) (cdv ct:Value) (osl:Array (Option Value)),
  fd=fnOf x qual (si0 st) (vb0 st) (va0 st) .none kV doc pm an cdv ct /\ K.lookup f=some ⟨oc,od,.func fd,osl⟩ /\ codeIn K cdv qual=true
 kp:keepIn K (.ref f)=true
section
variable {P:Program} {w:World} {K:PySem.W.Frag} {mg:[23]} {base:Heap}
theorem Fun.ok {x qual:Str} {st:Stmt} {f:Addr} {fd:FuncData} {N ps:List Str} {k:Nat} {sp:Sp} (F:Fun K x qual st f fd) (S:FnScope N ps (va0 st)) (len:∀ vs H Q E,sp vs H Q E->vs.length=ps.length)
    (hbody:∀ (cdv:Value) (A:Around) (outer:List Env) (s:[39]) (H:Hp) (vs:List V) (Q:VK) (E:XK),Room k (A.deeper (envOfC qual (va0 st) s.heap.objs.size f cdv))->sp vs H Q E ->
     ∃ t,PSs (cxOf CX0 P w K mg base N qual (va0 st) f cdv A outer s H E).nox (vb0 st) t /\ t { nx:=λ _ H'=>Q .non H',rt:=Q } (start N vs) H):FnOk P w K mg base CX0 (k + 1) f fd ps sp:=by
 obtain ⟨oc,od,kV,doc,pm,an,cdv,ct,osl,rfl,lk,hcd⟩:=F.ex;refine wz3 lk hcd S len λ A outer s H vs Q E hr hsp=>?_;obtain ⟨t,h,q⟩:=hbody cdv A outer s H vs Q E hr hsp;exact ⟨t,h.nox,q⟩
theorem Fun.binds {x qual:Str} {st:Stmt} {f:Addr} {fd:FuncData} {ps:List Str} (F:Fun K x qual st f fd)
    (h:∀ (kV doc pm:Value) (an:Option Addr) (cdv ct:Value) (us:[22]),us.length=ps.length->bindArgs (fnOf x qual (si0 st) (vb0 st) (va0 st) .none kV doc pm an cdv ct) ⟨us,[]⟩=pure (ps.zip us)):Binds K fd ps []:=by
 obtain ⟨oc,od,kV,doc,pm,an,cdv,ct,osl,rfl,lk,hcd⟩:=F.ex;exact .all (h kV doc pm an cdv ct)
theorem wr2 {x qual:Str} {st:Stmt} {f:Addr} {oc:Value} {od an:Option Addr} {osl:Array (Option Value)} {kV doc pm cdv ct:Value} (l:K.lookup f=some ⟨oc,od,.func (fnOf x qual (si0 st) (vb0 st) (va0 st) .none kV doc pm an cdv ct),osl⟩)
    (c:codeIn K cdv qual=true) (k:keepIn K (.ref f)=true):Fun K x qual st f (fnOf x qual (si0 st) (vb0 st) (va0 st) .none kV doc pm an cdv ct):=⟨⟨oc,od,kV,doc,pm,an,cdv,ct,osl,rfl,l,c⟩,k⟩
end
section
variable {X:Cx}
theorem pv (i:Nat) {x:Str} {pos:Pos} (hN:X.N[i]?=some x:=by rfl) (hv:Vis X.env.scope x:=by first | exact Or.inl rfl | exact Or.inr (Or.inl rfl) | exact Or.inr (Or.inr rfl)) (hd:[25]=false:=by decide)
    (hcd:(x == ("__classdict__" : Str))=false:=by decide):PE X (.Name x pos) (tVar i):=sp2 hN hv hd hcd
end
def Same (H H':Hp):Prop:=∀ b o,H b=some o->H' b=some o
end L2
namespace Pv
open PySem
inductive D where
 | non | bl (b:Bool) | int (i:Int) | str (x:Str) | tup (l:List D) | fls (l:List D) | ref (a:Addr) | ty (n:String) | exc (c:Str)
 | ktp (l:List D)
inductive MO where
 | lst (xs:List D)
 | ins (c:Str) (fs:List (Str × D))
 | dcl (kvs:List (List Int × D))
abbrev Mu:=Addr->Option MO
def updM (μ:Mu) (a:Addr) (o:MO):Mu:=λ b=>if b=a then some o else μ b
theorem za0 {μ:Mu} {a:Addr} {o:MO}:updM μ a o a=some o:=by unfold updM; rw [if_pos rfl]
theorem xb0 {μ:Mu} {a b:Addr} {o:MO} (h:b ≠ a):updM μ a o b=μ b:=by unfold updM; rw [if_neg h]
theorem xh0 {μ:Mu} {a:Addr} {o u:MO}:updM (updM μ a o) a u=updM μ a u:=by
 funext b; unfold updM; by_cases h:b=a <;> simp [h]
def Ext (μ μ':Mu):Prop:=∀ a o,μ a=some o->μ' a=some o
theorem Ext.refl (μ:Mu):Ext μ μ:=λ _ _ h=>h
theorem Ext.trans {a b c:Mu} (h:Ext a b) (k:Ext b c):Ext a c:=λ x o q=>k x o (h x o q)
theorem Ext.new {μ:Mu} {p:Addr} {o:MO} (h:μ p=none):Ext μ (updM μ p o):=λ a u q=>by
 rw [xb0]; exact q;intro e; subst e; rw [h] at q; cases q
theorem Ext.free {μ μ':Mu} {p:Addr} (e:Ext μ μ') (h:μ' p=none):μ p=none:=by
 cases q:μ p with
 | none=>rfl
 | some o=>rw [e p o q] at h; cases h
def ExtB (p:Addr) (μ μ':Mu):Prop:=∀ a o,a ≠ p->μ a=some o->μ' a=some o
theorem ExtB.refl (p:Addr) (μ:Mu):ExtB p μ μ:=λ _ _ _ h=>h
theorem ExtB.trans {p:Addr} {a b c:Mu} (h:ExtB p a b) (k:ExtB p b c):ExtB p a c:=λ x o n q=>k x o n (h x o n q)
theorem Ext.b {μ μ':Mu} (p:Addr) (e:Ext μ μ'):ExtB p μ μ':=λ a o _ q=>e a o q
theorem ExtB.upd {μ:Mu} {p:Addr} {o:MO}:ExtB p μ (updM μ p o):=λ a u n q=>by rw [xb0 n]; exact q
theorem zb0 {μ:Mu} {p q:Addr} {o:MO} (h:μ p=some o) (k:μ q=none):p ≠ q:=by
 intro e; subst e; rw [h] at k; cases k
abbrev St3:=List (Option D)
def getI:St3->Nat->Option D
 | [],_=>none
 | o :: _,0=>o
 | _ :: r,i + 1=>getI r i
theorem wh1:∀ (ρ:St3) (i:Nat),getI ρ i=(ρ[i]?).getD none
 | [],i=>by simp [getI]
 | o :: _,0=>by simp [getI]
 | _ :: r,i + 1=>by simp [getI,wh1 r i]
abbrev VK3:=D->Mu->Prop
abbrev TE3:=St3->Mu->VK3->Prop
abbrev TT3:=St3->Mu->(Bool->Mu->Prop)->Prop
abbrev TA3:=St3->Mu->(List D->Mu->Prop)->Prop
structure Ends3 where
 nx:St3->Mu->Prop
 rt:VK3
 bk:St3->Mu->Prop:=λ _ _=>False
 ct:St3->Mu->Prop:=λ _ _=>False
abbrev TS3:=Ends3->St3->Mu->Prop
abbrev R3:=D->D->Mu->VK3->Prop
abbrev Sp3:=List D->Mu->VK3->Prop
abbrev C3:=List D->Mu->VK3->Prop
abbrev TG3:=D->St3->Mu->(St3->Mu->Prop)->Prop
abbrev TGs3:=List D->St3->Mu->(St3->Mu->Prop)->Prop
abbrev TI3:=St3->Mu->(List D->(Mu->Prop)->Mu->Prop)->Prop
def v3 (i:Nat):TE3:=λ ρ μ Q=>match getI ρ i with
 | some d=>Q d μ
 | none=>False
def c3 (d:D):TE3:=λ _ μ Q=>Q d μ
def o3 (r:R3) (ta tb:TE3):TE3:=λ ρ μ Q=>ta ρ μ λ x μ1=>tb ρ μ1 λ y μ2=>r x y μ2 Q
def un3 (r:D->Mu->VK3->Prop) (ta:TE3):TE3:=λ ρ μ Q=>ta ρ μ λ x μ1=>r x μ1 Q
def b3 (t:TE3):TT3:=λ ρ μ Q=>t ρ μ λ d μ1=>match d with
 | .bl c=>Q c μ1
 | _=>False
def and3 (t u:TT3):TT3:=λ ρ μ Q=>t ρ μ λ c μ1=>if c=true then u ρ μ1 Q else Q false μ1
def or3 (t u:TT3):TT3:=λ ρ μ Q=>t ρ μ λ c μ1=>if c=true then Q true μ1 else u ρ μ1 Q
def not3 (t:TT3):TT3:=λ ρ μ Q=>t ρ μ λ c μ1=>Q (!c) μ1
def andV3 (t u:TE3):TE3:=λ ρ μ Q=>t ρ μ λ d μ1=>match d with
 | .bl c=>if c=true then u ρ μ1 Q else Q (.bl false) μ1
 | _=>False
def orV3 (t u:TE3):TE3:=λ ρ μ Q=>t ρ μ λ d μ1=>match d with
 | .bl c=>if c=true then Q (.bl true) μ1 else u ρ μ1 Q
 | _=>False
def notV3 (t:TE3):TE3:=λ ρ μ Q=>t ρ μ λ d μ1=>match d with
 | .bl c=>Q (.bl (!c)) μ1
 | _=>False
def if3 (c:TT3) (t u:TE3):TE3:=λ ρ μ Q=>c ρ μ λ b μ1=>if b=true then t ρ μ1 Q else u ρ μ1 Q
def nil3:TA3:=λ _ μ Q=>Q [] μ
def cons3 (t:TE3) (u:TA3):TA3:=λ ρ μ Q=>t ρ μ λ d μ1=>u ρ μ1 λ ds μ2=>Q (d :: ds) μ2
def tup3 (t:TA3):TE3:=λ ρ μ Q=>t ρ μ λ ds μ1=>ds.length<=sizeLine /\ Q (.tup ds) μ1
def lst3 (t:TA3):TE3:=λ ρ μ Q=>t ρ μ λ ds μ1=>ds.length<=sizeLine /\ ∀ p,μ1 p=none->Q (.ref p) (updM μ1 p (.lst ds))
def call3 (sp:Sp3) (t:TA3):TE3:=λ ρ μ Q=>t ρ μ λ ds μ1=>sp ds μ1 Q
def mt3 (r:D->List D->Mu->VK3->Prop) (to:TE3) (t:TA3):TE3:=λ ρ μ Q=>to ρ μ λ x μ1=>match x with
 | .ref p=>match μ1 p with
  | some (.lst _)=>t ρ μ1 λ ds μ2=>r (.ref p) ds μ2 Q
  | _=>False
 | _=>False
abbrev TO3:=St3->Mu->(Option Int->Mu->Prop)->Prop
def np3:TO3:=λ _ μ Q=>Q none μ
def pt3 (t:TE3):TO3:=λ ρ μ Q=>t ρ μ λ d μ1=>match d with
 | .int i=>Q (some i) μ1
 | _=>False
def sl3 (r:D->Option Int->Option Int->Mu->VK3->Prop) (te:TE3) (tl th:TO3):TE3:=λ ρ μ Q=>te ρ μ λ x μ1=>tl ρ μ1 λ l μ2=>th ρ μ2 λ u μ3=>r x l u μ3 Q
def sIx3 (n d:Nat):Option Int->Nat
 | none=>d
 | some v=>if v < 0 then (v + (n:Int)).toNat else min v.toNat n
def cut3 {α:Type} (xs:List α) (lo hi:Option Int):List α:=(xs.drop (sIx3 xs.length 0 lo)).take (sIx3 xs.length xs.length hi - sIx3 xs.length 0 lo)
def slR:D->Option Int->Option Int->Mu->VK3->Prop:=λ x lo hi μ Q=>match x with
 | .tup l=>Q (.tup (cut3 l lo hi)) μ
 | .str z=>z.length<=sizeLine /\ Q (.str ⟨(cut3 z.cps.toList lo hi).toArray⟩) μ
 | .ref p=>match μ p with
  | some (.lst l)=>∀ r,μ r=none->Q (.ref r) (updM μ r (.lst (cut3 l lo hi)))
  | _=>False
 | .fls l=>∀ r,μ r=none->Q (.ref r) (updM μ r (.lst (cut3 l lo hi)))
 | _=>False
def next3:TS3:=λ D ρ μ=>D.nx ρ μ
def never3:TS3:=λ _ _ _=>False
def brk3:TS3:=λ D ρ μ=>D.bk ρ μ
def cnt3:TS3:=λ D ρ μ=>D.ct ρ μ
def seq3 (t u:TS3):TS3:=λ D ρ μ=>t { D with nx:=u D } ρ μ
def drop3 (t:TE3):TS3:=λ D ρ μ=>t ρ μ λ _ μ1=>D.nx ρ μ1
def ret3 (t:TE3):TS3:=λ D ρ μ=>t ρ μ D.rt
def retN3:TS3:=λ D _ μ=>D.rt .non μ
def ifs3 (c:TT3) (t u:TS3):TS3:=λ D ρ μ=>c ρ μ λ b μ1=>if b=true then t D ρ μ1 else u D ρ μ1
def gn3 (i:Nat):TG3:=λ d ρ μ Q=>Q (ρ.set i (some d)) μ
def gnil3:TGs3:=λ ds ρ μ Q=>match ds with
 | []=>Q ρ μ
 | _=>False
def gcons3 (t:TG3) (u:TGs3):TGs3:=λ ds ρ μ Q=>match ds with
 | d :: r=>t d ρ μ λ ρ1 μ1=>u r ρ1 μ1 Q
 | []=>False
def gtup3 (n:Nat) (t:TGs3):TG3:=λ d ρ μ Q=>match d with
 | .tup l=>l.length=n /\ t l ρ μ Q
 | _=>False
def set3 (i:Nat) (t:TE3):TS3:=λ D ρ μ=>t ρ μ λ d μ1=>D.nx (ρ.set i (some d)) μ1
def asg3 (t:TE3) (g:TG3):TS3:=λ D ρ μ=>t ρ μ λ d μ1=>g d ρ μ1 D.nx
def par3 (i j:Nat) (t:TA3):TS3:=λ D ρ μ=>t ρ μ λ ds μ1=>match ds with
 | [v,w]=>D.nx ((ρ.set i (some v)).set j (some w)) μ1
 | _=>False
def ixN (n:Nat) (i:Int):Option Nat:=if 0<=i then (if i < n then some i.toNat else none) else if -(n:Int)<=i then some (i + n).toNat else none
def atI {α:Type} (xs:List α) (i:Int):Option α:=(ixN xs.length i).bind λ j=>xs[j]?
def sub3 (to ti:TE3):TG3:=λ d ρ μ Q=>to ρ μ λ o μ1=>ti ρ μ1 λ i μ2=>match o,i with
 | .ref p,.int k=>match μ2 p with
  | some (.lst xs)=>match ixN xs.length k with
   | some j=>Q ρ (updM μ2 p (.lst (xs.set j d)))
   | none=>False
  | _=>False
 | _,_=>False
def vh1 (S:Mu->Prop) (g:TG3) (tb:TS3) (D':Ends3):List D->St3->Mu->Prop
 | [],ρ,μ=>S μ /\ D'.nx ρ μ
 | x :: r,ρ,μ=>S μ /\ ∃ N:St3->Mu->Prop,(∀ ρ' μ',N ρ' μ'->vh1 S g tb D' r ρ' μ') /\ g x ρ μ λ ρ1 μ1=>tb { D' with nx:=N,ct:=N,bk:=D'.nx } ρ1 μ1
def for3 (ti:TI3) (g:TG3) (tb:TS3):TS3:=λ D' ρ μ=>ti ρ μ λ l S μ1=>vh1 S g tb D' l ρ μ1
theorem wf0 {S:Mu->Prop} {g:TG3} {tb:TS3} {D':Ends3} (W:List D->St3->Mu->Prop) {l:List D} {ρ:St3} {μ:Mu} (h0:W l ρ μ) (hS:∀ l ρ μ,W l ρ μ->S μ) (hn:∀ ρ μ,W [] ρ μ->D'.nx ρ μ)
    (hs:∀ x r ρ μ,W (x :: r) ρ μ->g x ρ μ λ ρ1 μ1=>tb { D' with nx:=W r,ct:=W r,bk:=D'.nx } ρ1 μ1):vh1 S g tb D' l ρ μ:=by
 induction l generalizing ρ μ with
 | nil=>exact ⟨hS _ _ _ h0,hn _ _ h0⟩
 | cons x r ih=>exact ⟨hS _ _ _ h0,W r,λ ρ' μ' q=>ih q,hs x r ρ μ h0⟩
def is3 (t:TE3):TI3:=λ ρ μ R=>t ρ μ λ d μ1=>match d with
 | .tup l=>R l (λ _=>True) μ1
 | .fls l=>R l (λ _=>True) μ1
 | .str z=>R (z.cps.toList.map λ c=>D.str ⟨#[c]⟩) (λ _=>True) μ1
 | .ref p=>match μ1 p with
  | some (.lst l)=>R l (λ μ=>μ p=some (.lst l)) μ1
  | _=>False
 | _=>False
def rngD (lo:Int) (n:Nat):List D:=(List.range n).map λ i=>.int (lo + (i:Nat))
theorem ui0 (lo:Int) (n:Nat):rngD lo (n + 1)=.int lo :: rngD (lo + 1) n:=by
 unfold rngD;rw [List.range_succ_eq_map,map_cons,map_map];have e0:lo + ((0:Nat):Int)=lo:=by simp
 rw [e0];congr 1;apply List.map_congr_left;intro a _;show D.int (lo + ((a + 1:Nat):Int))=D.int (lo + 1 + (a:Int));have e1:lo + ((a + 1:Nat):Int)=lo + 1 + (a:Int):=by omega
 rw [e1]
def ir3 (t:TA3):TI3:=λ ρ μ R=>t ρ μ λ ds μ1=>match ds with
 | [.int j]=>(-(2 ^ 62)<=j /\ j < 2 ^ 62) /\ R (rngD 0 j.toNat) (λ _=>True) μ1
 | _=>False
def ir23 (t:TA3):TI3:=λ ρ μ R=>t ρ μ λ ds μ1=>match ds with
 | [.int i,.int j]=>(-(2 ^ 62)<=i /\ i < 2 ^ 62 /\ -(2 ^ 62)<=j /\ j < 2 ^ 62) /\ R (rngD i (j - i).toNat) (λ _=>True) μ1
 | _=>False
def ud2 (S:Mu->Prop) (p:Addr) (g:TG3) (tc:TT3) (te:TE3) (Q:VK3) (l:List D) (ρ0:St3) (μ0:Mu):Prop :=
 ∃ W:List D->List D->St3->Mu->Prop,W l [] ρ0 μ0 /\ (∀ l ys ρ μ,W l ys ρ μ->S μ /\ μ p=some (.lst ys)) /\ (∀ ys ρ μ,W [] ys ρ μ->Q (.ref p) μ) ∧
  ∀ x r ys ρ μ,W (x :: r) ys ρ μ->ys.length < sizeLine /\ g x ρ μ λ ρ1 μ1=>tc ρ1 μ1 λ b μ2 =>
   if b=true then te ρ1 μ2 λ d μ3=>μ3 p=some (.lst ys) /\ W r (ys ++ [d]) ρ1 (updM μ3 p (.lst (ys ++ [d]))) else W r ys ρ1 μ2
def comp3 (js:List [34]) (ti:TI3) (g:TG3) (tc:TT3) (te:TE3):TE3:=λ ρ μ Q=>ti ρ μ λ l S μ1=>∀ p,μ1 p=none->ud2 S p g tc te Q l (js.map λ j=>j.bind (getI ρ)) (updM μ1 p (.lst []))
def tt3:TT3:=λ _ μ Q=>Q true μ
theorem zi0 {S:Mu->Prop} {p:Addr} {te:TE3} {Q:VK3} {l:List D} {o:Option D} {rest:St3} {μ:Mu} (f:D->D) (hp:μ p=none) (hl:l.length<=sizeLine) (hS:∀ μ',Ext μ μ'->S μ')
    (hx:∀ x ∈ l,∀ μ' R,Ext μ μ'->(∀ μ2,Ext μ' μ2->R (f x) μ2)->te (some x :: rest) μ' R) (hQ:∀ μ',Ext μ μ'->μ' p=some (.lst (l.map f))->Q (.ref p) μ') :
    ud2 S p (gn3 0) tt3 te Q l (o :: rest) (updM μ p (.lst [])):=by
 refine ⟨λ r ys ρ μ'=>Ext μ μ' /\ μ' p=some (.lst ys) /\ (∃ o',ρ=o' :: rest) /\ ∃ a,a ++ r=l /\ ys=a.map f,?_,?_,?_,?_⟩
 ·exact ⟨Ext.new hp,za0,⟨o,rfl⟩,[],rfl,rfl⟩
 ·rintro r ys ρ μ' ⟨h1,h2,_⟩;exact ⟨hS _ h1,h2⟩
 ·rintro ys ρ μ' ⟨h1,h2,_,a,e,rfl⟩;rw [append_nil] at e;subst e;exact hQ _ h1 h2
 ·rintro x r ys ρ μ' ⟨h1,h2,⟨o',rfl⟩,a,e,rfl⟩;refine ⟨by rw [length_map]; rw [<- e,length_append,length_cons] at hl; omega,?_⟩;show te (some x :: rest) μ' _;refine hx x (by rw [<- e]; simp) μ' _ h1 λ μ2 h3=>⟨h3 _ _ h2,λ b u hb=>?_,za0,⟨_,rfl⟩,a ++ [x],by simp [<- e],by simp⟩;rw [xb0 (zb0 hb hp)];exact h3 _ _ (h1 _ _ hb)
def CPow (i j:Int):Prop:=0<=j /\ j<=1000000 /\ i.natAbs < 2 ^ 64
def Big:Nat:=2 ^ 1000
def CMul (i j:Int):Prop:=((-(2 ^ 64) < i /\ i < 2 ^ 64) \/ (-(2 ^ 64) < j /\ j < 2 ^ 64)) \/ (i.natAbs < Big /\ j.natAbs < Big)
def int2 (C:Int->Int->Prop) (g:Int->Int->D):R3:=λ x y μ Q=>match x,y with
 | .int i,.int j=>C i j /\ Q (g i j) μ
 | _,_=>False
def int20 (g:Int->Int->D):R3:=λ x y μ Q=>match x,y with
 | .int i,.int j=>Q (g i j) μ
 | _,_=>False
def subR:R3:=int20 λ i j=>.int (i - j)
def mulR:R3:=λ x y μ Q=>match x,y with
 | .int i,.int j=>CMul i j /\ Q (.int (i * j)) μ
 | .tup l,.int k=>((-(2 ^ 62)<=k /\ k < 2 ^ 62) /\ l.length * k.toNat<=1000000) /\ Q (.tup (List.replicate k.toNat l).flatten) μ
 | .ref p,.int k=>match μ p with
  | some (.lst l)=>((-(2 ^ 62)<=k /\ k < 2 ^ 62) /\ l.length * k.toNat<=1000000) /\ ∀ r,μ r=none->Q (.ref r) (updM μ r (.lst (List.replicate k.toNat l).flatten))
  | _=>False
 | _,_=>False
def modR:R3:=int2 (λ _ j=>0 < j) λ i j=>.int (i % j)
def fdivR:R3:=int2 (λ _ j=>0 < j /\ j < 2 ^ 120) λ i j=>.int (i / j)
def powR:R3:=int2 CPow λ i j=>.int (i ^ j.toNat)
def ltR:R3:=int20 λ i j=>.bl (decide (i < j))
def leR:R3:=int20 λ i j=>.bl (decide (i<=j))
def gtR:R3:=int20 λ i j=>.bl (decide (j < i))
def geR:R3:=int20 λ i j=>.bl (decide (j<=i))
def negR:D->Mu->VK3->Prop:=λ x μ Q=>match x with
 | .int i=>Q (.int (-i)) μ
 | _=>False
def addR:R3:=λ x y μ Q=>match x,y with
 | .int i,.int j=>Q (.int (i + j)) μ
 | .str i,.str j=>i.length + j.length<=sizeLine /\ Q (.str (i ++ j)) μ
 | .ref p,.ref q=>match μ p,μ q with
  | some (.lst xs),some (.lst ys)=>xs.length + ys.length<=sizeLine /\ ∀ r,μ r=none->Q (.ref r) (updM μ r (.lst (xs ++ ys)))
  | _,_=>False
 | .tup l,.tup m=>l.length + m.length<=sizeLine /\ Q (.tup (l ++ m)) μ
 | _,_=>False
def eqS:D->D->Option Bool
 | .int i,.int j=>some (decide (i=j))
 | .bl i,.bl j=>some (decide (i=j))
 | .str i,.str j=>some (decide (i=j))
 | .non,.non=>some true
 | .non,.int _=>some false
 | .int _,.non=>some false
 | .non,.str _=>some false
 | .str _,.non=>some false
 | .int _,.str _=>some false
 | .str _,.int _=>some false
 | _,_=>none
mutual
def dat:D->Option PyData
 | .non=>some .none
 | .bl b=>some (.bool b)
 | .int i=>some (.int i)
 | .str x=>if PyData.strOk x=true then some (.str x) else none
 | .tup l=>match dats l with
  | some ps=>some (.tuple ps)
  | none=>none
 | .ktp l=>match dats l with
  | some ps=>some (.tuple ps)
  | none=>none
 | _=>none
def dats:List D->Option (List PyData)
 | []=>some []
 | d :: r=>match dat d with
  | some p=>match dats r with
   | some ps=>some (p :: ps)
   | none=>none
  | none=>none
end
def datM (μ:Mu):D->Option PyData
 | .ref p=>match μ p with
  | some (.lst l)=>match dats l with
   | some ps=>some (.list ps)
   | none=>none
  | _=>none
 | d=>dat d
def eqR:R3:=λ x y μ Q=>match eqS x y with
 | some c=>Q (.bl c) μ
 | none=>match datM μ x,datM μ y with
  | some p,some q=>(p.depth<=64 /\ q.depth<=64) /\ Q (.bl (PyData.eqv p q)) μ
  | _,_=>False
def neR:R3:=λ x y μ Q=>match eqS x y with
 | some c=>Q (.bl (!c)) μ
 | none=>match datM μ x,datM μ y with
  | some p,some q=>(p.depth<=64 /\ q.depth<=64) /\ Q (.bl (!PyData.eqv p q)) μ
  | _,_=>False
theorem eqR_ii (i j:Int) (μ:Mu) (Q:VK3):eqR (.int i) (.int j) μ Q=Q (.bl (decide (i=j))) μ:=rfl
theorem eqR_ss (i j:Str) (μ:Mu) (Q:VK3):eqR (.str i) (.str j) μ Q=Q (.bl (decide (i=j))) μ:=rfl
theorem eqR_bb (i j:Bool) (μ:Mu) (Q:VK3):eqR (.bl i) (.bl j) μ Q=Q (.bl (decide (i=j))) μ:=rfl
theorem eqR_is (i:Int) (j:Str) (μ:Mu) (Q:VK3):eqR (.int i) (.str j) μ Q=Q (.bl false) μ:=rfl
theorem neR_ii (i j:Int) (μ:Mu) (Q:VK3):neR (.int i) (.int j) μ Q=Q (.bl (!decide (i=j))) μ:=rfl
theorem neR_ss (i j:Str) (μ:Mu) (Q:VK3):neR (.str i) (.str j) μ Q=Q (.bl (!decide (i=j))) μ:=rfl
theorem neR_bb (i j:Bool) (μ:Mu) (Q:VK3):neR (.bl i) (.bl j) μ Q=Q (.bl (!decide (i=j))) μ:=rfl
theorem vz2 {x y:D} {μ:Mu} {Q:VK3} {p q:PyData} (e:eqS x y=none) (h1:datM μ x=some p) (h2:datM μ y=some q) (d1:p.depth<=64) (d2:q.depth<=64):neR x y μ Q=Q (.bl (!PyData.eqv p q)) μ:=by
 unfold neR; rw [e]; simp only [h1,h2,d1,d2,true_and,and_self]
def strs?:List D->Option (List Str)
 | []=>some []
 | .str x :: r=>match strs? r with
  | some l=>some (x :: l)
  | none=>none
 | _ :: _=>none
def inD (neg:Bool):R3:=λ x y μ Q=>match datM μ x,datM μ y with
 | some d,some (.list xs)=>(d.depth<=64 /\ (PyData.list xs).depth<=64) /\ Q (.bl (if neg then !(xs.any λ e=>PyData.eqv e d) else xs.any λ e=>PyData.eqv e d)) μ
 | some d,some (.tuple xs)=>(d.depth<=64 /\ (PyData.tuple xs).depth<=64) /\ Q (.bl (if neg then !(xs.any λ e=>PyData.eqv e d) else xs.any λ e=>PyData.eqv e d)) μ
 | _,_=>False
def inR (neg:Bool):R3:=λ x y μ Q=>match x,y with
 | .str z,.tup l=>match strs? l with
  | some zs=>Q (.bl (if neg then !zs.contains z else zs.contains z)) μ
  | none=>inD neg (.str z) (.tup l) μ Q
 | .str z,.ktp l=>match strs? l with
  | some zs=>Q (.bl (if neg then !zs.contains z else zs.contains z)) μ
  | none=>inD neg (.str z) (.ktp l) μ Q
 | .str z,.str y=>Q (.bl (if neg then !(!(Builtin.Str.occurrences y z 0 y.length 1).isEmpty) else !(Builtin.Str.occurrences y z 0 y.length 1).isEmpty)) μ
 | x,y=>inD neg x y μ Q
def ixR:R3:=λ x y μ Q=>match x,y with
 | .tup l,.int i=>match atI l i with
  | some d=>Q d μ
  | none=>False
 | .ktp l,.int i=>match atI l i with
  | some d=>Q d μ
  | none=>False
 | .fls l,.int i=>match atI l i with
  | some d=>Q d μ
  | none=>False
 | .ref p,.int i=>match μ p with
  | some (.lst l)=>match atI l i with
   | some d=>Q d μ
   | none=>False
  | _=>False
 | _,_=>False
def lenR:C3:=λ ds μ Q=>match ds with
 | [.tup l]=>Q (.int l.length) μ
 | [.fls l]=>Q (.int l.length) μ
 | [.str z]=>z.length<=sizeLine /\ Q (.int z.length) μ
 | [.ref p]=>match μ p with
  | some (.lst l)=>Q (.int l.length) μ
  | _=>False
 | _=>False
def absR:C3:=λ ds μ Q=>match ds with
 | [.int i]=>Q (.int (if i < 0 then -i else i)) μ
 | _=>False
def intR:C3:=λ ds μ Q=>match ds with
 | [.int i]=>Q (.int i) μ
 | [.bl b]=>Q (.int (if b then 1 else 0)) μ
 | [.str z]=>match PySem.intText? z with
  | some n=>z.length<=640 /\ Q (.int n) μ
  | none=>False
 | _=>False
def strR:C3:=λ ds μ Q=>match ds with
 | [.int i]=>i.natAbs.log2 < 1920 /\ Q (.str (toString i)) μ
 | _=>False
def smt3 (r:Str->List D->Mu->VK3->Prop) (to:TE3) (t:TA3):TE3:=λ ρ μ Q=>to ρ μ λ x μ1=>match x with
 | .str z=>t ρ μ1 λ ds μ2=>r z ds μ2 Q
 | _=>False
def joinR:Str->List D->Mu->VK3->Prop:=λ z ds μ Q=>match ds with
 | [.ref p]=>match μ p with
  | some (.lst l)=>match strs? l with
   | some ys=>(z.length<=16 /\ (ys.map (·.length)).sum + ys.length<=1048576) /\ Q (.str (Str.join z ys)) μ
   | none=>False
  | _=>False
 | _=>False
def splitR:Str->List D->Mu->VK3->Prop:=λ z ds μ Q=>match ds with
 | [.str y]=>((y.length == 0)=false /\ z.length<=1000000) /\ ∀ r,μ r=none->Q (.ref r) (updM μ r (.lst ((Txt.split z y).map D.str)))
 | _=>False
def startsR:Str->List D->Mu->VK3->Prop:=λ z ds μ Q=>match ds with
 | [.str y]=>Q (.bl (Txt.startswith z y)) μ
 | _=>False
def pop3 (to:TE3):TE3:=λ ρ μ Q=>to ρ μ λ x μ1=>match x with
 | .ref p=>match μ1 p with
  | some (.lst l)=>match l.reverse with
   | d :: r=>Q d (updM μ1 p (.lst r.reverse))
   | []=>False
  | _=>False
 | _=>False
def lrev3 (to:TE3):TE3:=λ ρ μ Q=>cons3 to nil3 ρ μ λ ds μ1=>match ds with
 | [.ref p]=>match μ1 p with
  | some (.lst l)=>∀ r,μ1 r=none->Q (.ref r) (updM μ1 r (.lst l.reverse))
  | _=>False
 | _=>False
def tupR:C3:=λ ds μ Q=>match ds with
 | [.tup l]=>Q (.tup l) μ
 | [.ref p]=>match μ p with
  | some (.lst l)=>Q (.tup l) μ
  | _=>False
 | _=>False
def ints?:List D->Option (List Int)
 | []=>some []
 | .int x :: r=>match ints? r with
  | some l=>some (x :: l)
  | none=>none
 | _ :: _=>none
def sumR:C3:=λ ds μ Q=>match ds with
 | [.ref p]=>match μ p with
  | some (.lst l)=>match ints? l with
   | some ns=>Q (.int ns.sum) μ
   | none=>False
  | _=>False
 | _=>False
def tyN (μ:Mu):D->Option String
 | .int _=>some "int"
 | .bl _=>some "bool"
 | .str _=>some "str"
 | .tup _=>some "tuple"
 | .non=>some "NoneType"
 | .ref p=>match μ p with
  | some (.lst _)=>some "list"
  | _=>none
 | _=>none
def isIn (t T:String):Option Bool :=
 if t=T then some true
 else if t = "bool" /\ T = "int" then some true
 else if (t = "int" \/ t = "str" \/ t = "tuple" \/ t = "bool" \/ t = "NoneType" \/ t = "list") /\ (T = "int" \/ T = "str" \/ T = "tuple" \/ T = "bool" \/ T = "list") then some false
 else none
def isiR:C3:=λ ds μ Q=>match ds with
 | [d,.ty T]=>match tyN μ d with
  | some t=>match isIn t T with
   | some b=>Q (.bl b) μ
   | none=>False
  | none=>False
 | _=>False
def appR:D->List D->Mu->VK3->Prop:=λ x ds μ Q=>match x,ds with
 | .ref p,[d]=>match μ p with
  | some (.lst l)=>l.length < sizeLine /\ Q .non (updM μ p (.lst (l ++ [d])))
  | _=>False
 | _,_=>False
def extR:D->List D->Mu->VK3->Prop:=λ x ds μ Q=>match x,ds with
 | .ref p,[.ref q]=>match μ p,μ q with
  | some (.lst l),some (.lst m)=>l.length + m.length<=sizeLine /\ Q .non (updM μ p (.lst (l ++ m)))
  | _,_=>False
 | _,_=>False
theorem atI0 {α:Type} {a:α} {r:List α}:atI (a :: r) 0=some a:=by
 unfold atI ixN; rw [if_pos [9],if_pos (by simp only [length_cons]; omega)]; rfl
theorem atI1 {α:Type} {a b:α} {r:List α}:atI (a :: b :: r) 1=some b:=by
 unfold atI ixN; rw [if_pos [9],if_pos (by simp only [length_cons]; omega)]; rfl
theorem atI2 {α:Type} {a b c:α} {r:List α}:atI (a :: b :: c :: r) 2=some c:=by
 unfold atI ixN; rw [if_pos [9],if_pos (by simp only [length_cons]; omega)]; rfl
theorem ixN0 {n:Nat}:ixN (n + 1) 0=some 0:=by
 unfold ixN; rw [if_pos [9],if_pos [1]]; rfl
theorem ixN1 {n:Nat}:ixN (n + 1 + 1) 1=some 1:=by
 unfold ixN; rw [if_pos [9],if_pos [1]]; rfl
theorem ixN2 {n:Nat}:ixN (n + 1 + 1 + 1) 2=some 2:=by
 unfold ixN; rw [if_pos [9],if_pos [1]]; rfl
theorem yb4 {α:Type} {l:List α} {i:Int} (h0:0<=i) (h1:i < l.length):∃ d,d ∈ l /\ atI l i=some d:=by
 have hn:i.toNat < l.length:=by omega
 refine ⟨l[i.toNat],getElem_mem hn,?_⟩;unfold atI ixN;rw [if_pos h0,if_pos h1];exact getElem?_eq_getElem hn
def start3 (N:List Str) (ds:List D):St3:=ds.map some ++ List.replicate (N.length - ds.length) none
def ws1 (c:TT3) (tb:TS3):TS3:=λ D ρ μ=>∃ W:Nat->St3->Mu->Prop,(∃ m,W m ρ μ) /\ ∀ m ρ μ,W m ρ μ ->
 c ρ μ λ b μ1=>if b=true then ∃ N:St3->Mu->Prop,(∀ ρ' μ',N ρ' μ'->∃ m',m' < m /\ W m' ρ' μ') /\ tb { D with nx:=N,ct:=N,bk:=D.nx } ρ μ1 else D.nx ρ μ1
end Pv
namespace Pv
open PySem L2
abbrev Fg:=PySem.W.Frag
structure Kp (H H':Hp):Prop where
 tup:∀ b xs,H b=some (.tup xs)->H' b=some (.tup xs)
 frz:∀ b o u,H b=some (.frz o u)->H' b=some (.frz o u)
theorem Kp.refl (H:Hp):Kp H H:=⟨λ _ _ h=>h,λ _ _ _ h=>h⟩
theorem Kp.trans {a b c:Hp} (h:Kp a b) (k:Kp b c):Kp a c:=⟨λ x xs q=>k.tup x xs (h.tup x xs q),λ x o u q=>k.frz x o u (h.frz x o u q)⟩
theorem Kp.new {H:Hp} {p:Addr} {o:HO} (h:H p=none):Kp H (upd H p o) :=
 ⟨λ b xs q=>by rw [yc0 (xf0 q h)]; exact q,λ b o u q=>by rw [yc0 (xf0 q h)]; exact q⟩
theorem Kp.wr {H:Hp} {p:Addr} {o:HO} {xs:List V} (h:H p=some (.lst xs)):Kp H (upd H p o) :=
 ⟨λ b ys q=>by rw [yc0 (wg1 q h (by intro z; cases z))]; exact q,λ b o u q=>by rw [yc0 (wg1 q h (by intro z; cases z))]; exact q⟩
def SqF (K:Fg) (H:Hp) (a:Addr) (xs:List V):Prop :=
 (∃ o,H a=some (.frz o (.lst xs))) \/ ∃ (o:Obj) (its:Array Value) (n:Nat),K.lookup a=some o /\ o.cls=.type "list" /\ o.dict=none /\ o.data=.seq its n /\ its.size<=sizeLine /\ Vals xs its.toList
theorem SqF.l {K:Fg} {H:Hp} {a:Addr} {xs:List V} (h:SqF K H a xs):SqL K H a xs:=by
 rcases h with ⟨o,h⟩ | h
 ·exact .inl (.inr ⟨o,h⟩)
 ·exact .inr h
theorem SqF.mono {K:Fg} {H H':Hp} {a:Addr} {xs:List V} (k:Kp H H') (h:SqF K H a xs):SqF K H' a xs:=by
 rcases h with ⟨o,h⟩ | h
 ·exact .inl ⟨o,k.frz _ _ _ h⟩
 ·exact .inr h
theorem SqT.mono {K:Fg} {H H':Hp} {a:Addr} {xs:List V} (k:Kp H H') (h:SqT K H a xs):SqT K H' a xs:=by
 rcases h with h | h
 ·rcases h with h | ⟨o,h⟩
  ·exact .inl (.inl (k.tup _ _ h))
  ·exact .inl (.inr ⟨o,k.frz _ _ _ h⟩)
 ·exact .inr h
mutual
inductive RelD (K:Fg) (H:Hp):D->V->Prop where
 | non:RelD K H .non .non
 | bl (b:Bool):RelD K H (.bl b) (.bl b)
 | int (i:Int):RelD K H (.int i) (.int i)
 | str (x:Str):RelD K H (.str x) (.str x)
 | ref (a:Addr):RelD K H (.ref a) (.ref a)
 | ty (n:String):RelD K H (.ty n) (.ty n)
 | tup {a:Addr} {l:List D} {vs:List V}:H a=some (.tup vs)->RelDs K H l vs->RelD K H (.tup l) (.ref a)
 | ktp {a:Addr} {l:List D} {vs:List V}:SqT K H a vs->RelDs K H l vs->RelD K H (.ktp l) (.ref a)
 | fls {a:Addr} {l:List D} {vs:List V}:SqF K H a vs->RelDs K H l vs->RelD K H (.fls l) (.ref a)
 | exc {a C:Addr} {c:Str} {ob:Obj} {u:HO}:H a=some (.frz ob u)->ob.cls=.ref C->nsIn K mainGlobals c=some (some (.ref C))->RelD K H (.exc c) (.ref a)
inductive RelDs (K:Fg) (H:Hp):List D->List V->Prop where
 | nil:RelDs K H [] []
 | cons {d:D} {v:V} {l:List D} {vs:List V}:RelD K H d v->RelDs K H l vs->RelDs K H (d :: l) (v :: vs)
end
mutual
theorem RelD.mono {K:Fg} {H H':Hp} (k:Kp H H'):∀ {d:D} {v:V},RelD K H d v->RelD K H' d v
 | _,_,.non=>.non
 | _,_,.bl b=>.bl b
 | _,_,.int b=>.int b
 | _,_,.str b=>.str b
 | _,_,.ref b=>.ref b
 | _,_,.ty b=>.ty b
 | _,_,.tup h r=>.tup (k.tup _ _ h) (RelDs.mono k r)
 | _,_,.ktp h r=>.ktp (SqT.mono k h) (RelDs.mono k r)
 | _,_,.fls h r=>.fls (SqF.mono k h) (RelDs.mono k r)
 | _,_,.exc h r1 r2=>.exc (k.frz _ _ _ h) r1 r2
theorem RelDs.mono {K:Fg} {H H':Hp} (k:Kp H H'):∀ {d:List D} {v:List V},RelDs K H d v->RelDs K H' d v
 | _,_,.nil=>.nil
 | _,_,.cons h r=>.cons (RelD.mono k h) (RelDs.mono k r)
end
theorem RelDs.length {K:Fg} {H:Hp}:∀ {l:List D} {vs:List V},RelDs K H l vs->l.length=vs.length
 | _,_,.nil=>rfl
 | _,_,.cons _ r=>congrArg (· + 1) r.length
theorem RelDs.get {K:Fg} {H:Hp}:∀ {l:List D} {vs:List V} {i:Nat} {d:D},RelDs K H l vs->l[i]?=some d->∃ v,vs[i]?=some v /\ RelD K H d v
 | _,_,_,_,.nil,e=>by simp at e
 | _,_,0,_,.cons h _,e=>by simp at e; subst e; exact ⟨_,rfl,h⟩
 | _,_,i + 1,d,.cons _ r,e=>by
  obtain ⟨v,h1,h2⟩:=RelDs.get (i:=i) (d:=d) r (by simpa using e);exact ⟨v,by simpa using h1,h2⟩
theorem RelDs.append {K:Fg} {H:Hp}:∀ {l m:List D} {vs us:List V},RelDs K H l vs->RelDs K H m us->RelDs K H (l ++ m) (vs ++ us)
 | _,_,_,_,.nil,q=>q
 | _,_,_,_,.cons h r,q=>.cons h (RelDs.append r q)
theorem RelDs.set {K:Fg} {H:Hp} {d:D} {v:V} (hd:RelD K H d v):∀ {l:List D} {vs:List V} (i:Nat),RelDs K H l vs->RelDs K H (l.set i d) (vs.set i v)
 | _,_,_,.nil=>.nil
 | _,_,0,.cons _ r=>.cons hd r
 | _,_,i + 1,.cons h r=>.cons h (RelDs.set hd i r)
theorem RelDs.take {K:Fg} {H:Hp}:∀ {l:List D} {vs:List V} (n:Nat),RelDs K H l vs->RelDs K H (l.take n) (vs.take n)
 | _,_,0,r=>by simp only [take_zero]; exact .nil
 | _,_,n + 1,.nil=>by simp only [List.take_nil]; exact .nil
 | _,_,n + 1,.cons h r=>by simp only [List.take_succ_cons]; exact .cons h (RelDs.take n r)
theorem RelDs.drop {K:Fg} {H:Hp}:∀ {l:List D} {vs:List V} (n:Nat),RelDs K H l vs->RelDs K H (l.drop n) (vs.drop n)
 | _,_,0,r=>by simp only [List.drop_zero]; exact r
 | _,_,n + 1,.nil=>by simp only [List.drop_nil]; exact .nil
 | _,_,n + 1,.cons h r=>by simp only [List.drop_succ_cons]; exact RelDs.drop n r
theorem RelDs.rep {K:Fg} {H:Hp} {l:List D} {vs:List V} (r:RelDs K H l vs):∀ k:Nat,RelDs K H (List.replicate k l).flatten (List.replicate k vs).flatten
 | 0=>.nil
 | k + 1=>by rw [replicate_succ,replicate_succ,flatten_cons,flatten_cons]; exact r.append (RelDs.rep r k)
inductive RelFs (K:Fg) (H:Hp):List (Str × D)->List (Str × V)->Prop where
 | nil:RelFs K H [] []
 | cons {f:Str} {d:D} {v:V} {l:List (Str × D)} {vs:List (Str × V)}:RelD K H d v->RelFs K H l vs->RelFs K H ((f,d) :: l) ((f,v) :: vs)
theorem RelFs.mono {K:Fg} {H H':Hp} (k:Kp H H') {l:List (Str × D)} {vs:List (Str × V)} (r:RelFs K H l vs):RelFs K H' l vs:=by
 induction r with
 | nil=>exact .nil
 | cons h _ ih=>exact .cons (h.mono k) ih
def kT (t:Int × Int × Int):List Key:=[.inl t.1,.inl t.2.1,.inl t.2.2]
inductive RelKs (K:Fg) (H:Hp):List ((Int × Int × Int) × D)->List (List Key × V)->Prop where
 | nil:RelKs K H [] []
 | cons {t:Int × Int × Int} {d:D} {v:V} {l:List ((Int × Int × Int) × D)} {vs:List (List Key × V)}:RelD K H d v->RelKs K H l vs->RelKs K H ((t,d) :: l) ((kT t,v) :: vs)
def kL (k:List Int):List Key:=k.map Sum.inl
inductive RelKl (K:Fg) (H:Hp):List (List Int × D)->List (List Key × V)->Prop where
 | nil:RelKl K H [] []
 | cons {t:List Int} {d:D} {v:V} {l:List (List Int × D)} {vs:List (List Key × V)}:RelD K H d v->RelKl K H l vs->RelKl K H ((t,d) :: l) ((kL t,v) :: vs)
theorem RelKl.mono {K:Fg} {H H':Hp} (k:Kp H H') {l:[18]} {vs:List (List Key × V)} (r:RelKl K H l vs):RelKl K H' l vs:=by
 induction r with
 | nil=>exact .nil
 | cons h _ ih=>exact .cons (h.mono k) ih
structure RelM (K:Fg) (μ:Mu) (H:Hp):Prop where
 lst:∀ p xs,μ p=some (.lst xs)->∃ vs,H p=some (.lst vs) /\ RelDs K H xs vs
 ins:∀ p c fs,μ p=some (.ins c fs)->∃ C dx vs,nsIn K mainGlobals c=some (some (.ref C)) /\ H p=some (.ins C dx vs) /\ H dx=some (.own p) /\ RelFs K H fs vs
 dcl:∀ p kvs,μ p=some (.dcl kvs)->∃ vs,H p=some (.dT vs) /\ RelKl K H kvs vs
instance {K:Fg} {μ:Mu} {H:Hp}:CoeFun (RelM K μ H) (λ _=>∀ p xs,μ p=some (.lst xs)->∃ vs,H p=some (.lst vs) /\ RelDs K H xs vs):=⟨RelM.lst⟩
theorem RelM.free {K:Fg} {μ:Mu} {H:Hp} (m:RelM K μ H) {p:Addr} (h:H p=none):μ p=none:=by
 cases e:μ p with
 | none=>rfl
 | some o =>
  cases o with
  | lst xs =>
   obtain ⟨vs,q,_⟩:=m.lst p xs e;rw [h] at q; cases q
  | ins c fs =>
   obtain ⟨C,dx,vs,_,q,_⟩:=m.ins p c fs e;rw [h] at q; cases q
  | dcl kvs =>
   obtain ⟨vs,q,_⟩:=m.dcl p kvs e;rw [h] at q; cases q
theorem RelM.newT {K:Fg} {μ:Mu} {H:Hp} {p:Addr} {o:HO} (h:H p=none) (m:RelM K μ H):RelM K μ (upd H p o):=by
 have ne:∀ {q:Addr} {u:HO},H q=some u->q ≠ p:=λ {q u} e z=>by subst z; rw [h] at e; cases e
 refine ⟨λ q xs e=>?_,λ q c fs e=>?_,λ q kvs e=>?_⟩
 ·obtain ⟨vs,q1,r⟩:=m.lst q xs e;exact ⟨vs,by rw [yc0 (ne q1)]; exact q1,r.mono (Kp.new h)⟩
 ·obtain ⟨C,dx,vs,n,q1,q2,r⟩:=m.ins q c fs e;exact ⟨C,dx,vs,n,by rw [yc0 (ne q1)]; exact q1,by rw [yc0 (ne q2)]; exact q2,r.mono (Kp.new h)⟩
 ·obtain ⟨vs,q1,r⟩:=m.dcl q kvs e;exact ⟨vs,by rw [yc0 (ne q1)]; exact q1,r.mono (Kp.new h)⟩
theorem RelM.newL {K:Fg} {μ:Mu} {H:Hp} {p:Addr} {xs:List D} {vs:List V} (h:H p=none) (r:RelDs K H xs vs) (m:RelM K μ H):RelM K (updM μ p (.lst xs)) (upd H p (.lst vs)):=by
 have m':=m.newT (o:=.lst vs) h;refine ⟨λ q ys e=>?_,λ q c fs e=>?_,λ q kvs e=>?_⟩
 ·by_cases z:q=p
  ·subst z;rw [za0] at e; cases e;exact ⟨vs,sd0,r.mono (Kp.new h)⟩
  ·rw [xb0 z] at e;exact m'.lst q ys e
 ·by_cases z:q=p
  ·subst z;rw [za0] at e; cases e
  ·rw [xb0 z] at e;exact m'.ins q c fs e
 ·by_cases z:q=p
  ·subst z;rw [za0] at e; cases e
  ·rw [xb0 z] at e;exact m'.dcl q kvs e
theorem RelM.wr {K:Fg} {μ:Mu} {H:Hp} {p:Addr} {xs:List D} {vs ws:List V} (h:H p=some (.lst ws)) (r:RelDs K H xs vs) (m:RelM K μ H):RelM K (updM μ p (.lst xs)) (upd H p (.lst vs)):=by
 refine ⟨λ q ys e=>?_,λ q c fs e=>?_,λ q kvs e=>?_⟩
 ·by_cases z:q=p
  ·subst z;rw [za0] at e; cases e;exact ⟨vs,sd0,r.mono (Kp.wr h)⟩
  ·rw [xb0 z] at e;rw [yc0 z];obtain ⟨us,q1,r1⟩:=m.lst q ys e;exact ⟨us,q1,r1.mono (Kp.wr h)⟩
 ·by_cases z:q=p
  ·subst z;rw [za0] at e; cases e
  ·rw [xb0 z] at e;obtain ⟨C,dx,us,n,q1,q2,r1⟩:=m.ins q c fs e;refine ⟨C,dx,us,n,by rw [yc0 z]; exact q1,?_,r1.mono (Kp.wr h)⟩;rw [yc0]
   ·exact q2
   ·intro y; subst y; rw [h] at q2; cases q2
 ·by_cases z:q=p
  ·subst z;rw [za0] at e; cases e
  ·rw [xb0 z] at e;rw [yc0 z];obtain ⟨us,q1,r1⟩:=m.dcl q kvs e;exact ⟨us,q1,r1.mono (Kp.wr h)⟩
structure RSt (K:Fg) (H:Hp) (ρ:St3) (σ:St):Prop where
 len:ρ.length=σ.length
 at':∀ i d,getI ρ i=some d->∃ v,σ[i]?=some (some v) /\ RelD K H d v
theorem RSt.mono {K:Fg} {H H':Hp} {ρ:St3} {σ:St} (k:Kp H H') (s:RSt K H ρ σ):RSt K H' ρ σ:=⟨s.len,λ i d e=>let ⟨v,h,r⟩:=s.at' i d e; ⟨v,h,r.mono k⟩⟩
theorem sx0:∀ (ρ:St3) (i j:Nat) (d:Option D),getI (ρ.set i d) j=if i=j /\ i < ρ.length then d else getI ρ j
 | [],i,j,d=>by simp [getI]
 | o :: r,0,0,d=>by simp [getI]
 | o :: r,0,j + 1,d=>by simp [getI]
 | o :: r,i + 1,0,d=>by simp [getI]
 | o :: r,i + 1,j + 1,d=>by simp only [List.set_cons_succ,getI,sx0 r i j d,length_cons]; simp
theorem RSt.set {K:Fg} {H:Hp} {ρ:St3} {σ:St} {d:D} {v:V} (i:Nat) (r:RelD K H d v) (s:RSt K H ρ σ):RSt K H (ρ.set i (some d)) (σ.set i (some v)):=by
 refine ⟨by simp [s.len],λ j e h=>?_⟩;rw [sx0] at h;split at h
 ·next c =>
  obtain ⟨rfl,c2⟩:=c;cases h;exact ⟨v,by rw [List.getElem?_set_self (by rw [<- s.len]; exact c2)],r⟩
 ·next c =>
  obtain ⟨u,q,r'⟩:=s.at' j e h;have hj:j < σ.length:=(List.getElem?_eq_some_iff.mp q).1;by_cases z:i=j
  ·subst z; exact absurd ⟨rfl,by rw [s.len]; exact hj⟩ c
  ·exact ⟨u,by rw [getElem?_set_ne z]; exact q,r'⟩
theorem RSt.start {K:Fg} {H:Hp} {ds:List D} {vs:List V} (N:List Str) (r:RelDs K H ds vs):RSt K H (start3 N ds) (L2.start N vs):=by
 have hl:=r.length;refine ⟨by simp [start3,L2.start,hl],λ i d e=>?_⟩;rw [wh1] at e;unfold start3 at e;unfold L2.start;by_cases c:i < ds.length
 ·rw [getElem?_append_left (by simpa using c),getElem?_map] at e;cases q:ds[i]? with
  | none=>rw [q] at e; cases e
  | some d' =>
   rw [q] at e;have e':d'=d:=by simpa using e
   subst e';obtain ⟨v,h1,h2⟩:=r.get q;exact ⟨v,by rw [getElem?_append_left (by rw [length_map]; omega),getElem?_map,h1]; rfl,h2⟩
 ·rw [getElem?_append_right (by simpa using c),List.getElem?_replicate] at e;split at e <;> simp at e
abbrev Ks (K:Fg) (H:Hp) (Q3:VK3) (Q:VK):Prop:=∀ d μ' v H',Q3 d μ'->Kp H H'->RelD K H' d v->RelM K μ' H'->Q v H'
theorem Ks.after {K:Fg} {H H1:Hp} {Q3:VK3} {Q:VK} (k:Ks K H Q3 Q) (e:Kp H H1):Ks K H1 Q3 Q:=λ d μ v H' q e'=>k d μ v H' q (e.trans e')
def RdE (K:Fg) (tv:TE) (t:TE3):Prop:=∀ σ H Q ρ μ Q3,RSt K H ρ σ->RelM K μ H->t ρ μ Q3->Ks K H Q3 Q->tv σ H Q
def RE (X:Cx) (e:Expr) (t:TE3):Prop:=∃ tv,PE X e tv /\ RdE X.K tv t
def RdT (K:Fg) (tv:TT) (t:TT3):Prop:=∀ σ H Q ρ μ Q3,RSt K H ρ σ->RelM K μ H->t ρ μ Q3->(∀ b μ' H',Q3 b μ'->Kp H H'->RelM K μ' H'->Q b H')->tv σ H Q
def RT (X:Cx) (e:Expr) (t:TT3):Prop:=∃ tv,PT X e tv /\ RdT X.K tv t
def RW (X:Cx) (e:Expr) (t:TT3):Prop:=∃ tv,PW X e tv /\ RdT X.K tv t
def RdA (K:Fg) (tv:TA) (t:TA3):Prop:=∀ σ H Q ρ μ Q3,RSt K H ρ σ->RelM K μ H->t ρ μ Q3->(∀ ds μ' vs H',Q3 ds μ'->Kp H H'->RelDs K H' ds vs->RelM K μ' H'->Q vs H')->tv σ H Q
def RA (X:Cx) (es:List Expr) (t:TA3):Prop:=∃ tv,PA X es tv /\ RdA X.K tv t
structure KsD (K:Fg) (H:Hp) (D3:Ends3) (D:Ends):Prop where
 nx:∀ ρ μ σ H',D3.nx ρ μ->Kp H H'->RSt K H' ρ σ->RelM K μ H'->D.nx σ H'
 bk:∀ ρ μ σ H',D3.bk ρ μ->Kp H H'->RSt K H' ρ σ->RelM K μ H'->D.bk σ H'
 ct:∀ ρ μ σ H',D3.ct ρ μ->Kp H H'->RSt K H' ρ σ->RelM K μ H'->D.ct σ H'
 rt:Ks K H D3.rt D.rt
theorem KsD.after {K:Fg} {H H1:Hp} {D3:Ends3} {D:Ends} (k:KsD K H D3 D) (e:Kp H H1):KsD K H1 D3 D :=
 ⟨λ ρ μ σ H' q e'=>k.nx ρ μ σ H' q (e.trans e'),λ ρ μ σ H' q e'=>k.bk ρ μ σ H' q (e.trans e'),λ ρ μ σ H' q e'=>k.ct ρ μ σ H' q (e.trans e'),k.rt.after e⟩
def RdS (K:Fg) (tv:TS) (t:TS3):Prop:=∀ σ H D ρ μ D3,RSt K H ρ σ->RelM K μ H->t D3 ρ μ->KsD K H D3 D->tv D σ H
def RS (X:Cx) (st:Stmt) (t:TS3):Prop:=∃ tv,PS X st tv /\ RdS X.K tv t
def RSs (X:Cx) (st:List Stmt) (t:TS3):Prop:=∃ tv,PSs X st tv /\ RdS X.K tv t
def RdG (K:Fg) (tv:TG) (t:TG3):Prop:=∀ v d σ H Q ρ μ Q3,RSt K H ρ σ->RelM K μ H->RelD K H d v->t d ρ μ Q3->(∀ ρ' μ' σ' H',Q3 ρ' μ'->Kp H H'->RSt K H' ρ' σ'->RelM K μ' H'->Q σ' H')->tv v σ H Q
def RG (X:Cx) (e:Expr) (t:TG3):Prop:=∃ tv,PG X e tv /\ RdG X.K tv t
def RdO (K:Fg) (r:R2) (r3:R3):Prop:=∀ x y v u H Q μ Q3,RelM K μ H->RelD K H x v->RelD K H y u->r3 x y μ Q3->Ks K H Q3 Q->r v u H Q
def RO (X:Cx) (f:Value->Value->Sem Value) (r3:R3):Prop:=∃ r,OpR X f r /\ RdO X.K r r3
def RdU (K:Fg) (r:V->Hp->VK->Prop) (r3:D->Mu->VK3->Prop):Prop:=∀ x v H Q μ Q3,RelM K μ H->RelD K H x v->r3 x μ Q3->Ks K H Q3 Q->r v H Q
def RU (X:Cx) (f:Value->Sem Value) (r3:D->Mu->VK3->Prop):Prop:=∃ r,UnR X f r /\ RdU X.K r r3
def RdC (K:Fg) (r:List V->Hp->VK->Prop) (r3:C3):Prop:=∀ xs vs H Q μ Q3,RelM K μ H->RelDs K H xs vs->r3 xs μ Q3->Ks K H Q3 Q->r vs H Q
def RC (X:Cx) (f:Value) (r3:C3):Prop:=∃ r,CallR X f r /\ RdC X.K r r3
def RX (X:Cx) (r3:R3):Prop:=∃ r,IxR X r /\ RdO X.K r r3
section
variable {X:Cx} {a b c e:Expr} {ta tb tc te:TE3} {pos:Pos}
theorem ya0 (i:Nat) {x:Str} (hN:X.N[i]?=some x:=by rfl) (hv:Vis X.env.scope x:=by first | exact Or.inl rfl | exact Or.inr (Or.inl rfl) | exact Or.inr (Or.inr rfl)) (hd:[25]=false:=by decide)
    (hcd:(x == ("__classdict__" : Str))=false:=by decide):RE X (.Name x pos) (v3 i):=by
 refine ⟨_,sp2 hN hv hd hcd,λ σ H Q ρ μ Q3 s m h k=>?_⟩;unfold v3 at h;cases q:getI ρ i with
 | none=>rw [q] at h; exact h.elim
 | some d =>
  rw [q] at h;obtain ⟨v,e,r⟩:=s.at' i d q;exact ⟨v,e,k d μ v H h (Kp.refl H) r m⟩
theorem RdE.cst {K:Fg} {d:D} {v:V} (r:∀ H,RelD K H d v):RdE K (tC v) (c3 d):=λ σ H Q ρ μ Q3 s m h k=>k d μ v H h (Kp.refl H) (r H) m
theorem ua0 {i:Int} {j}:RE X (.Constant (.int i) j pos) (c3 (.int i)):=⟨_,zv3,RdE.cst λ _=>.int i⟩
theorem tg0 {i:Bool} {j}:RE X (.Constant (.bool i) j pos) (c3 (.bl i)):=⟨_,wj4,RdE.cst λ _=>.bl i⟩
theorem xk1 {j}:RE X (.Constant .none j pos) (c3 .non):=⟨_,xv3,RdE.cst λ _=>.non⟩
theorem yw1 {x:Str} {j}:RE X (.Constant (.str x) j pos) (c3 (.str x)):=⟨_,su3,RdE.cst λ _=>.str x⟩
def Gd (K:Fg) (mg:[23]) (x:Str) (d:D):Prop:=∃ u v,mg x=some u /\ RelV v u /\ ∀ H,RelD K H d v
theorem re_g {x:Str} {d:D} (g:Gd X.K X.mg x d) (hg:Gl X x:=by rfl) (hd:[25]=false:=by decide):RE X (.Name x pos) (c3 d):=by
 obtain ⟨u,v,hm,r,rd⟩:=g;exact ⟨_,yy2 hg hm r hd,RdE.cst rd⟩
theorem sb0 {op:Operator} {r3:R3} (ho:RO X (binaryOp op) r3) (ha:RE X a ta) (hb:RE X b tb):RE X (.BinOp a op b pos) (o3 r3 ta tb):=by
 obtain ⟨r,po,ro⟩:=ho;obtain ⟨va,pa,ra⟩:=ha;obtain ⟨vb,pb,rb⟩:=hb
 exact ⟨_,yj4 po pa pb,λ σ H Q ρ μ Q3 s m h k=>ra σ H _ ρ μ _ s m h λ x μ1 v H1 h1 k1 r1 m1=>rb σ H1 _ ρ μ1 _ (s.mono k1) m1 h1 λ y μ2 u H2 h2 k2 r2 m2 =>
  ro x y v u H2 Q μ2 Q3 m2 (r1.mono k2) r2 h2 (k.after (k1.trans k2))⟩
theorem sf4 {op:UnaryOp} {r3:D->Mu->VK3->Prop} (ho:RU X (unaryOp op) r3) (ha:RE X a ta):RE X (.UnaryOp op a pos) (un3 r3 ta):=by
 obtain ⟨r,po,ro⟩:=ho;obtain ⟨va,pa,ra⟩:=ha;exact ⟨_,xj4 po pa,λ σ H Q ρ μ Q3 s m h k=>ra σ H _ ρ μ _ s m h λ x μ1 v H1 h1 k1 r1 m1=>ro x v H1 Q μ1 Q3 m1 r1 h1 (k.after k1)⟩
theorem RdE.op {K:Fg} {r:R2} {r3:R3} {va vb:TE} (ra:RdE K va ta) (rb:RdE K vb tb) (ro:RdO K r r3):RdE K (tOp r va vb) (o3 r3 ta tb):=λ σ H Q ρ μ Q3 s m h k =>
 ra σ H _ ρ μ _ s m h λ x μ1 v H1 h1 k1 r1 m1=>rb σ H1 _ ρ μ1 _ (s.mono k1) m1 h1 λ y μ2 u H2 h2 k2 r2 m2=>ro x y v u H2 Q μ2 Q3 m2 (r1.mono k2) r2 h2 (k.after (k1.trans k2))
theorem RdT.test {K:Fg} {va:TE} (ra:RdE K va ta):RdT K (vi3 va) (b3 ta):=λ σ H Q ρ μ Q3 s m h k=>by
 refine ra σ H _ ρ μ _ s m h λ d μ1 v H1 h1 k1 r1 m1=>?_;cases r1 with
 | bl c=>exact ⟨c,rfl,k c μ1 H1 h1 k1 m1⟩
 | _=>exact False.elim h1
theorem vp3 {op:CmpOp} {r3:R3} (ho:RO X (compareOp op) r3) (ha:RE X a ta) (hb:RE X b tb) (hm:behindInMarks op b=false:=by first | exact zq2 _ | with_unfolding_all rfl):RE X (.Compare a [op] [b] pos) (o3 r3 ta tb):=by
 obtain ⟨r,po,ro⟩:=ho;obtain ⟨va,pa,ra⟩:=ha;obtain ⟨vb,pb,rb⟩:=hb;exact ⟨_,vy2 po pa pb hm,ra.op rb ro⟩
theorem tc0 {op:CmpOp} {r3:R3} (ho:RO X (compareOp op) r3) (ha:RE X a ta) (hb:RE X b tb) (hm:behindInMarks op b=false:=by first | exact zq2 _ | with_unfolding_all rfl):RT X (.Compare a [op] [b] pos) (b3 (o3 r3 ta tb)):=by
 obtain ⟨r,po,ro⟩:=ho;obtain ⟨va,pa,ra⟩:=ha;obtain ⟨vb,pb,rb⟩:=hb;exact ⟨_,tw2 po pa pb hm,RdT.test (ra.op rb ro)⟩
theorem tm3 (ha:RE X a ta) (he:∀ whole,isTrue a X.env whole=(do let v <- whole; standAt a.pos; holding [v] (truthy v)):=by intro _; rfl):RT X a (b3 ta):=by
 obtain ⟨va,pa,ra⟩:=ha;exact ⟨_,wt3 pa he,RdT.test ra⟩
variable {tA tB':TT3} {rest:List Expr}
theorem RW.pt (h:RW X a tA):RT X a tA:=let ⟨t,p,r⟩:=h; ⟨t,p.pt,r⟩
theorem xm3 (h:RW X a tA):RT X a tA:=h.pt
theorem wv2 (h:RT X a tA):RW X (.BoolOp .And [a] pos) tA:=let ⟨t,p,r⟩:=h; ⟨t,ww2 p,r⟩
theorem ym3 (h:RT X a tA):RW X (.BoolOp .Or [a] pos) tA:=let ⟨t,p,r⟩:=h; ⟨t,ts3 p,r⟩
theorem zm3 (ha:RT X a tA) (hb:RW X (.BoolOp .And (b :: rest) pos) tB'):RW X (.BoolOp .And (a :: b :: rest) pos) (and3 tA tB'):=by
 obtain ⟨va,pa,ra⟩:=ha;obtain ⟨vb,pb,rb⟩:=hb;refine ⟨_,ss3 pa pb,λ σ H Q ρ μ Q3 s m h k=>ra σ H _ ρ μ _ s m h λ c μ1 H1 h1 k1 m1=>?_⟩;cases c with
 | true=>exact rb σ H1 Q ρ μ1 Q3 (s.mono k1) m1 h1 λ b μ' H' q e=>k b μ' H' q (k1.trans e)
 | false=>exact k _ _ _ h1 k1 m1
theorem ve4 (ha:RT X a tA) (hb:RW X (.BoolOp .Or (b :: rest) pos) tB'):RW X (.BoolOp .Or (a :: b :: rest) pos) (or3 tA tB'):=by
 obtain ⟨va,pa,ra⟩:=ha;obtain ⟨vb,pb,rb⟩:=hb;refine ⟨_,ti4 pa pb,λ σ H Q ρ μ Q3 s m h k=>ra σ H _ ρ μ _ s m h λ c μ1 H1 h1 k1 m1=>?_⟩;cases c with
 | true=>exact k _ _ _ h1 k1 m1
 | false=>exact rb σ H1 Q ρ μ1 Q3 (s.mono k1) m1 h1 λ b μ' H' q e=>k b μ' H' q (k1.trans e)
theorem sm3 (ha:RT X a tA):RT X (.UnaryOp .Not a pos) (not3 tA):=by
 obtain ⟨va,pa,ra⟩:=ha;exact ⟨_,vt3 pa,λ σ H Q ρ μ Q3 s m h k=>ra σ H _ ρ μ _ s m h λ c μ1 H1 h1 k1 m1=>k _ _ _ h1 k1 m1⟩
variable {es:List Expr} {t:TA3}
theorem ta0:RA X [] nil3:=⟨_,xq2,λ σ H Q ρ μ Q3 s m h k=>k [] μ [] H h (Kp.refl H) .nil m⟩
theorem xa0 (ha:RE X e te) (hr:RA X es t) (hs:starEach (e :: es) X.env=[29] :: starEach es X.env:=by rfl):RA X (e :: es) (cons3 te t):=by
 obtain ⟨va,pa,ra⟩:=ha;obtain ⟨vb,pb,rb⟩:=hr
 exact ⟨_,zg1 pa pb hs,λ σ H Q ρ μ Q3 s m h k=>ra σ H _ ρ μ _ s m h λ d μ1 v H1 h1 k1 r1 m1=>rb σ H1 _ ρ μ1 _ (s.mono k1) m1 h1 λ ds μ2 vs H2 h2 k2 r2 m2 =>
  k _ _ _ _ h2 (k1.trans k2) (.cons (r1.mono k2) r2) m2⟩
theorem ub0 {x1} (h:RA X es t):RE X (.Tuple es x1 pos) (tup3 t):=by
 obtain ⟨va,pa,ra⟩:=h;refine ⟨_,tu3 pa,λ σ H Q ρ μ Q3 s m h k=>ra σ H _ ρ μ _ s m h λ ds μ1 vs H1 h1 k1 r1 m1=>⟨by rw [<- r1.length]; exact h1.1,λ p hp=>?_⟩⟩;exact k _ _ _ _ h1.2 (k1.trans (Kp.new hp)) (.tup sd0 (r1.mono (Kp.new hp))) (m1.newT hp)
theorem ye0 (h:RA X es t):RE X (.List es pos) (lst3 t):=by
 obtain ⟨va,pa,ra⟩:=h;refine ⟨_,yv3 pa,λ σ H Q ρ μ Q3 s m h k=>ra σ H _ ρ μ _ s m h λ ds μ1 vs H1 h1 k1 r1 m1=>⟨by rw [<- r1.length]; exact h1.1,λ p hp=>?_⟩⟩;exact k _ _ _ _ (h1.2 p (m1.free hp)) (k1.trans (Kp.new hp)) (.ref p) (m1.newL hp r1)
variable {st:Stmt} {sts:List Stmt} {t3 u3:TS3}
theorem zd0:RSs X [] next3:=⟨_,xx2,λ σ H D ρ μ D3 s m h k=>k.nx ρ μ σ H h (Kp.refl H) s m⟩
theorem yb0 (h:RS X st t3):RSs X [st] t3:=let ⟨t,p,r⟩:=h; ⟨t,sw2 p,r⟩
theorem sa0 (h1:RS X st t3) (h2:RSs X sts u3):RSs X (st :: sts) (seq3 t3 u3):=by
 obtain ⟨va,pa,ra⟩:=h1;obtain ⟨vb,pb,rb⟩:=h2;refine ⟨_,ti2 pa pb,λ σ H D ρ μ D3 s m h k=>ra σ H _ ρ μ _ s m h ⟨λ ρ1 μ1 σ1 H1 h1 k1 s1 m1=>rb σ1 H1 D ρ1 μ1 D3 s1 m1 h1 (k.after k1),k.bk,k.ct,k.rt⟩⟩
theorem vw0:RS X st never3:=⟨_,yj2,λ σ H D ρ μ D3 s m h k=>h⟩
theorem vd0 (he:RE X e te) (hs:swapsWith e none pos.line X.env=pure false:=by rfl):RS X (.Expr e pos) (drop3 te):=by
 obtain ⟨va,pa,ra⟩:=he;exact ⟨_,wx2 pa hs,λ σ H D ρ μ D3 s m h k=>ra σ H _ ρ μ _ s m h λ d μ1 v H1 h1 k1 r1 m1=>k.nx ρ μ1 σ H1 h1 k1 (s.mono k1) m1⟩
theorem vc0 (he:RE X e te):RS X (.Return (some e) pos) (ret3 te):=by
 obtain ⟨va,pa,ra⟩:=he;exact ⟨_,ut3 pa,λ σ H D ρ μ D3 s m h k=>ra σ H _ ρ μ _ s m h k.rt⟩
theorem zf0 {as bs:List Stmt} (hc:RT X c tA) (ha:RSs X as t3) (hb:RSs X bs u3):RS X (.If c as bs pos) (ifs3 tA t3 u3):=by
 obtain ⟨vc,pc,rc⟩:=hc;obtain ⟨va,pa,ra⟩:=ha;obtain ⟨vb,pb,rb⟩:=hb;refine ⟨_,si4 pc pa pb,λ σ H D ρ μ D3 s m h k=>rc σ H _ ρ μ _ s m h λ c μ1 H1 h1 k1 m1=>?_⟩;cases c with
 | true=>exact ra σ H1 D ρ μ1 D3 (s.mono k1) m1 h1 (k.after k1)
 | false=>exact rb σ H1 D ρ μ1 D3 (s.mono k1) m1 h1 (k.after k1)
theorem zc0 {i:Nat} {x:Str} (hN:X.N.Nodup) (hi:X.N[i]?=some x:=by rfl) (hx:Loc X.env.scope x:=by first | exact Or.inl rfl | exact Or.inr rfl) (hf:X.fn x=true \/ X.env.scope.names.lookup x=some .local:=by first | exact .inl rfl | exact .inr rfl) :
    RG X (.Name x pos) (gn3 i):=⟨_,sx2 hN hi hx hf,λ v d σ H Q ρ μ Q3 s m r h k=>k _ _ _ _ h (Kp.refl H) (s.set i r) m⟩
theorem wb0 {i:Nat} {x:Str} {pos':Pos} (hN:X.N.Nodup) (he:RE X e te) (hi:X.N[i]?=some x:=by rfl) (hx:Loc X.env.scope x:=by first | exact Or.inl rfl | exact Or.inr rfl) (hs:swapsWith e (some (.Name x pos')) pos.line X.env=pure false:=by rfl)
    (hf:X.fn x=true \/ X.env.scope.names.lookup x=some .local:=by first | exact .inl rfl | exact .inr rfl):RS X (.Assign [.Name x pos'] e pos) (set3 i te):=by
 obtain ⟨va,pa,ra⟩:=he;exact ⟨_,xx1 hN hi hx pa hs hf,λ σ H D ρ μ D3 s m h k=>ra σ H _ ρ μ _ s m h λ d μ1 v H1 h1 k1 r1 m1=>k.nx _ _ _ _ h1 k1 ((s.mono k1).set i r1) m1⟩
theorem wv1 {tg:Expr} {g:TG3} (he:RE X e te) (hg:RG X tg g) (hs:swapsWithSole [tg] e pos.line X.env=pure false:=by rfl) (hw:swappedStores [tg] e X.env=pure none:=by rfl)
    (h1:(assignEach [tg] X.env).map (·.2)=[assign tg X.env]:=by rfl):RS X (.Assign [tg] e pos) (asg3 te g):=by
 obtain ⟨va,pa,ra⟩:=he;obtain ⟨vg,pg,rg⟩:=hg;exact ⟨_,yu3 pa pg hs hw h1,λ σ H D ρ μ D3 s m h k=>ra σ H _ ρ μ _ s m h λ d μ1 v H1 h1 k1 r1 m1=>rg v d σ H1 _ ρ μ1 _ (s.mono k1) m1 r1 h1 λ ρ' μ' σ' H' q e=>k.nx ρ' μ' σ' H' q (k1.trans e)⟩
theorem uy3 (n:Nat) (i:Int):L2.ixN n i=ixN n i:=rfl
theorem tv1 {o i:Expr} {to ti:TE3} (ho:RE X o to) (hi:RE X i ti)
    (ha:∀ v,assign (.Subscript o i pos) X.env v=(do
     let ov <- holding [v] (eval o X.env)
     let iv <- holding [v,ov] (eval i X.env)
     standAt pos
     holding [v,ov,iv] (setItem ov iv v)
     release [v,ov,iv] []):=by intro _; rfl):RG X (.Subscript o i pos) (sub3 to ti):=by
 obtain ⟨va,pa,ra⟩:=ho;obtain ⟨vb,pb,rb⟩:=hi;refine ⟨_,uu3 pa pb sv0 ha,λ v d σ H Q ρ μ Q3 s m r h k=>ra σ H _ ρ μ _ s m h λ o' μ1 ov H1 h1 k1 r1 m1=>rb σ H1 _ ρ μ1 _ (s.mono k1) m1 h1 λ i' μ2 iv H2 h2 k2 r2 m2=>?_⟩;cases r1 with
 | ref p =>
  cases r2 with
  | int kk =>
   dsimp only at h2;cases e:μ2 p with
   | none=>rw [e] at h2; exact h2.elim
   | some oo =>
    cases oo with
    | ins _ _=>rw [e] at h2; exact h2.elim
    | dcl _=>rw [e] at h2; exact h2.elim
    | lst xs =>
     rw [e] at h2;dsimp only at h2;cases e2:ixN xs.length kk with
     | none=>rw [e2] at h2; exact h2.elim
     | some j =>
      rw [e2] at h2;obtain ⟨vs,hv,rv⟩:=m2 p xs e;have kk':=k1.trans k2;refine ⟨p,vs,kk,j,rfl,rfl,hv,by rw [<- rv.length]; exact e2,k _ _ _ _ h2 (kk'.trans (Kp.wr hv)) (s.mono (kk'.trans (Kp.wr hv))) (m2.wr hv (rv.set (r.mono kk') j))⟩
  | _=>exact False.elim h2
 | _=>cases r2 <;> exact False.elim h2
end
end Pv
namespace Pv
open PySem PySem.Spec PyProof.Rows L2
def ItOk (K:Fg) (J:It) (l:List D) (S:Mu->Prop) (H0:Hp):Prop:=∀ i H μ,Kp H0 H->RelM K μ H->S μ ->
 (∀ d,l[i]?=some d->J.go i H /\ ∀ x H2,J.yld i H x H2->Kp H H2 /\ RelM K μ H2 /\ RelD K H2 d x) /\ (l.length<=i->J.stop i H)
def RdI (K:Fg) (wi:TI) (ti:TI3):Prop:=∀ σ H R ρ μ R3,RSt K H ρ σ->RelM K μ H->ti ρ μ R3->(∀ l S μ' J H',R3 l S μ'->Kp H H'->RelM K μ' H'->ItOk K J l S H'->R J H')->wi σ H R
def RI (X:Cx) (tg iter:Expr) (ti:TI3):Prop:=∃ wi,PI X tg iter wi /\ RdI X.K wi ti
section
variable {X:Cx} {tg iter a b c e:Expr} {ta tb te:TE3} {pos:Pos}
def Its (z:Str):It:=⟨λ i _=>i < z.cps.size,λ i H x H'=>H'=H /\ ∃ c,z.cps[i]?=some c /\ x=.str ⟨#[c]⟩,λ i _=>z.cps.size<=i⟩
theorem wi1 {P:Program} {w:World} {K:Fg} {tg:Expr} (T:String) (x:Str) (t:Tok) (it:Addr)
    (hT:["enumerate", "zip", "dict_itemiterator", "dict_reverseitemiterator", "odict_iterator", "itertools.zip_longest", "itertools.pairwise"].contains T=false)
    (W:∀ A:Around,A.handled=none->Walks P w A it [it] [it] x.cps.size (SignAt x) (λ i h=>h.IsStrIter it T x t i))
    (sf:∀ (A:Around) (i:Nat) (s:[39]) (Q:[4]) (E:[4]),s.heap.IsStrIter it T x t i->Q (.ref it) s->wpAny (model P w) A (pyIter (.ref it)) Q E s) :
    Turn P w K tg (Its x) [it] it (λ i h=>h.IsStrIter it T x t i /\ i<=x.cps.size) where
 mem:=by simp
 obj:=λ i h st b hb=>by
  have e:b=it:=by simpa using hb
  subst e;obtain ⟨⟨o,e,c,d⟩,_⟩:=st;exact ⟨o,e,λ v z=>by rw [d] at z; cases z⟩
 keep:=λ i h h' st k=>by
  obtain ⟨⟨o,e,c,d⟩,l⟩:=st;exact ⟨⟨o,k it [20] o e,c,d⟩,l⟩
 item:=by
  intro X hP hw hK hc i pins s σ H E I hf st hg;subst hP hw hK;obtain ⟨f0,f1,f2,f3,f4,f5⟩:=hf it [20];refine (W X.A (I.ok.hd hc)).item i s _ E hg st.1 λ v h' tk hP hst' hk=>?_;obtain ⟨c,u,ec,rfl⟩:=hP;have I1:Inv X pins σ H { s with heap:=h',toks:=tk }:=I.turned (t':=tk) (λ b o hb e=>hk b o (by simpa using hb) e) f0 f1 f3 f4 f5;obtain ⟨o,e,c1,d⟩:=id hst';exact ⟨_,rfl,ym2 (s:={ s with heap:=h',toks:=tk }) e c1 d hT ⟨.str ⟨#[c]⟩,H,I1,⟨u,rfl⟩,⟨rfl,c,ec,rfl⟩,⟨hst',hg⟩,λ b hb=>(hf b hb).1⟩⟩
 done:=by
  intro X hP hw hK hc i pins s σ H E I hf st hg;subst hP hw hK;have hg':x.cps.size<=i:=hg;obtain ⟨f0,f1,f2,f3,f4,f5⟩:=hf it [20];have e1:i=x.cps.size:=Nat.le_antisymm st.2 hg';subst e1;exact (W X.A (I.ok.hd hc)).done s _ E st.1 λ h' tk hk=>⟨rfl,I.turned (t':=tk) (λ b o hb e=>hk b o (by simpa using hb) e) f0 f1 f3 f4 f5⟩
 self:=λ A i s Q E st h=>sf A i s Q E st.1 h
def iSeq (K:Fg) (tl:TE):TI:=λ σ H R=>tl σ H λ x H1=>(∃ z,x=.str z /\ R (Its z) H1) \/ ∃ a,x=.ref a /\ (((∃ xs,SqL K H1 a xs) /\ R (Itl K a) H1) \/ ((∃ xs,SqT K H1 a xs) /\ R (Itt K a) H1))
theorem vu3 {l:Expr} {tl:TE} (hl:PE X l tl):PI X tg l (iSeq X.K tl):=by
 intro pins s σ H R I h;refine thn (hl pins s σ H _ I h) λ v s1 ⟨x,H1,I1,r1,q1⟩=>?_
 have fp:∀ b ∈ [s1.heap.objs.size],FpOk X pins H1 b:=λ b hb=>by
  have e:b=s1.heap.objs.size:=by simpa using hb
  subst e;exact I1.fpOk [26] (I1.hok.fresh [26])
 rcases q1 with ⟨z,e,q⟩ | ⟨a,e,q⟩
 ·subst e;obtain ⟨t,rfl⟩:=r1;cases ha:z.cps.all (· < 128)
  ·refine wpAny_pyIter_wide ha ?_;exact ⟨s1.heap.objs.size,[s1.heap.objs.size],_,_,H1,rfl,I1.kept (t':=s1.toks) λ b o e=>Heap.get?_push_of_some _ e,wi1 "str_iterator" z t _ [9] (λ A hA=>Walks.strWide hA _ z t) (λ _ _ _ _ _ st h=>wpAny_pyIter_striter_wide st h),⟨⟨_,Heap.get?_push_size _ rfl,rfl,rfl⟩,Nat.zero_le _⟩,fp,q⟩
  ·refine wpAny_pyIter_ascii ha ?_;exact ⟨s1.heap.objs.size,[s1.heap.objs.size],_,_,H1,rfl,I1.kept (t':=s1.toks) λ b o e=>Heap.get?_push_of_some _ e,wi1 "str_ascii_iterator" z t _ [9] (λ A hA=>Walks.strAscii hA _ z t) (λ _ _ _ _ _ st h=>wpAny_pyIter_striter_ascii st h),⟨⟨_,Heap.get?_push_size _ rfl,rfl,rfl⟩,Nat.zero_le _⟩,fp,q⟩
 subst e;cases r1;rcases q with ⟨⟨xs,hq⟩,q⟩ | ⟨⟨xs,hq⟩,q⟩
 ·obtain ⟨its,rv,p,hz⟩:=I1.list hq;refine wpAny_pyIter_list p.isList ?_;exact ⟨s1.heap.objs.size,[s1.heap.objs.size],_,_,H1,rfl,I1.kept (t':=s1.toks) λ b o e=>Heap.get?_push_of_some _ e,zt1 a _,⟨_,Heap.get?_push_size _ rfl,rfl,rfl⟩,fp,q⟩
 ·obtain ⟨its,rv,p,hz⟩:=I1.tuple hq;refine wpAny_pyIter_tuple (show s1.heap.IsTuple a its.toArray from p) ?_;exact ⟨s1.heap.objs.size,[s1.heap.objs.size],_,_,H1,rfl,I1.kept (t':=s1.toks) λ b o e=>Heap.get?_push_of_some _ e,wn1 a _,⟨_,Heap.get?_push_size _ rfl,rfl,rfl⟩,fp,q⟩
theorem sk2 {K:Fg} {H0:Hp} {a:Addr} {l:List D} {vs:List V} (h:SqT K H0 a vs) (r:RelDs K H0 l vs):ItOk K (Itt K a) l (λ _=>True) H0:=λ i H μ k m _=>by
 refine ⟨λ d e=>?_,λ hl=>⟨vs,SqT.mono k h,by rw [<- r.length]; exact hl⟩⟩;obtain ⟨v,e1,r1⟩:=r.get e;refine ⟨⟨vs,v,SqT.mono k h,e1⟩,λ x H2 y=>?_⟩;obtain ⟨rfl,y⟩:=y;have e2:=y vs (SqT.mono k h);rw [e1] at e2; cases e2;exact ⟨Kp.refl _,m,r1.mono k⟩
theorem zl2 {K:Fg} {H0:Hp} {a:Addr} {l:List D} {vs:List V} (h:SqF K H0 a vs) (r:RelDs K H0 l vs):ItOk K (Itl K a) l (λ _=>True) H0:=λ i H μ k m _=>by
 refine ⟨λ d e=>?_,λ hl=>⟨vs,(SqF.mono k h).l,by rw [<- r.length]; exact hl⟩⟩;obtain ⟨v,e1,r1⟩:=r.get e;refine ⟨⟨vs,v,(SqF.mono k h).l,e1⟩,λ x H2 y=>?_⟩;obtain ⟨rfl,y⟩:=y;have e2:=y vs (SqF.mono k h).l;rw [e1] at e2; cases e2;exact ⟨Kp.refl _,m,r1.mono k⟩
theorem yl2 {K:Fg} {H0:Hp} {a:Addr} {l:List D}:ItOk K (Itl K a) l (λ μ=>μ a=some (.lst l)) H0:=λ i H μ k m s=>by
 obtain ⟨vs,h,r⟩:=m a l s;refine ⟨λ d e=>?_,λ hl=>⟨vs,SqL.of h,by rw [<- r.length]; exact hl⟩⟩;obtain ⟨v,e1,r1⟩:=r.get e;refine ⟨⟨vs,v,SqL.of h,e1⟩,λ x H2 y=>?_⟩;obtain ⟨rfl,y⟩:=y;have e2:=y vs (SqL.of h);rw [e1] at e2; cases e2;exact ⟨Kp.refl _,m,r1⟩
theorem xl2 {K:Fg} {H0:Hp} (z:Str):ItOk K (Its z) (z.cps.toList.map λ c=>D.str ⟨#[c]⟩) (λ _=>True) H0:=λ i H μ k m _=>by
 refine ⟨λ d e=>?_,λ hl=>by show z.cps.size<=i; simpa using hl⟩;rw [getElem?_map,getElem?_toList] at e;cases ec:z.cps[i]? with
 | none=>rw [ec] at e; cases e
 | some c =>
  rw [ec] at e;cases e;refine ⟨?_,λ x H2 y=>?_⟩
  ·show i < z.cps.size;rcases Nat.lt_or_ge i z.cps.size with h | h
   ·exact h
   ·rw [getElem?_eq_none h] at ec; cases ec
  ·obtain ⟨rfl,c',ec',rfl⟩:=y;rw [ec] at ec'; cases ec';exact ⟨Kp.refl _,m,.str _⟩
theorem xe0 (ha:RE X a ta):RI X tg a (is3 ta):=by
 obtain ⟨va,pa,ra⟩:=ha;refine ⟨_,vu3 pa,λ σ H R ρ μ R3 s m h k=>ra σ H _ ρ μ _ s m h λ d μ1 v H1 h1 k1 r1 m1=>?_⟩;cases r1 with
 | str z=>exact .inl ⟨z,rfl,k _ _ _ _ _ h1 k1 m1 (xl2 z)⟩
 | tup hq rs=>exact .inr ⟨_,rfl,.inr ⟨⟨_,(SqT.of hq)⟩,k _ _ _ _ _ h1 k1 m1 (sk2 (SqT.of hq) rs)⟩⟩
 | fls hq rs=>exact .inr ⟨_,rfl,.inl ⟨⟨_,hq.l⟩,k _ _ _ _ _ h1 k1 m1 (zl2 hq rs)⟩⟩
 | ref p =>
  dsimp only at h1;cases e:μ1 p with
  | none=>rw [e] at h1; exact h1.elim
  | some oo =>
   cases oo with
   | ins _ _=>rw [e] at h1; exact h1.elim
   | dcl _=>rw [e] at h1; exact h1.elim
   | lst xs =>
    rw [e] at h1;obtain ⟨vs,hv,rv⟩:=m1 p xs e;exact .inr ⟨_,rfl,.inl ⟨⟨_,SqL.of hv⟩,k _ _ _ _ _ h1 k1 m1 yl2⟩⟩
 | _=>exact False.elim h1
theorem uh2 (lo:Int) (n i:Nat):(rngD lo n)[i]?=if i < n then some (.int (lo + i)) else none:=by
 unfold rngD;rw [getElem?_map];by_cases h:i < n
 ·rw [List.getElem?_range h,if_pos h]; rfl
 ·rw [List.getElem?_eq_none (by simpa using h),if_neg h]; rfl
theorem vh2 (lo:Int) (n:Nat):(rngD lo n).length=n:=by simp [rngD]
theorem zl1 {K:Fg} {H0:Hp} (lo:Int) (n:Nat):ItOk K (Itr lo n) (rngD lo n) (λ _=>True) H0:=λ i H μ k m _=>by
 refine ⟨λ d e=>?_,λ hl=>by rw [vh2] at hl; exact hl⟩;rw [uh2] at e;split at e
 ·next h =>
  cases e;refine ⟨h,λ x H2 y=>?_⟩;obtain ⟨rfl,rfl⟩:=y;exact ⟨Kp.refl _,m,.int _⟩
 ·cases e
theorem wk0 {p:Pos} (hm:X.mg "range" = none) (ha:RE X a ta) (hg:Gl X "range" := by rfl) (hs:starEach [a] X.env=[(false,eval a X.env)]:=by rfl):RI X tg (.Call (.Name "range" p) [a] [] pos) (ir3 (cons3 ta nil3)):=by
 obtain ⟨va,pa,ra⟩:=xa0 ha ta0 hs;refine ⟨_,ux1 hg hm pa hs,λ σ H R ρ μ R3 s m h k=>ra σ H _ ρ μ _ s m h λ ds μ1 vs H1 h1 k1 r1 m1=>?_⟩;cases r1 with
 | nil=>exact False.elim h1
 | cons r1 r2 =>
  cases r2 with
  | cons _ _=>cases r1 <;> exact False.elim h1
  | nil =>
   cases r1 with
   | int j=>exact ⟨j,rfl,h1.1.1,h1.1.2,k _ _ _ _ _ h1.2 k1 m1 (zl1 _ _)⟩
   | _=>exact False.elim h1
theorem vo0 {p:Pos} (hm:X.mg "range" = none) (ha:RE X a ta) (hb:RE X b tb) (hg:Gl X "range" := by rfl) (hs:starEach [a,b] X.env=[(false,eval a X.env),(false,eval b X.env)]:=by rfl) (hs2:starEach [b] X.env=[(false,eval b X.env)]:=by rfl) :
    RI X tg (.Call (.Name "range" p) [a,b] [] pos) (ir23 (cons3 ta (cons3 tb nil3))):=by
 obtain ⟨va,pa,ra⟩:=xa0 ha (xa0 hb ta0 hs2) (by rw [hs,hs2]);refine ⟨_,vx1 hg hm pa hs hs2,λ σ H R ρ μ R3 s m h k=>ra σ H _ ρ μ _ s m h λ ds μ1 vs H1 h1 k1 r1 m1=>?_⟩;split at h1
 ·next i j =>
  cases r1 with
  | cons r1 r2 =>
   cases r2 with
   | cons r2 r3 =>
    cases r3;cases r1;cases r2;exact ⟨i,j,rfl,h1.1,k _ _ _ _ _ h1.2 k1 m1 (zl1 _ _)⟩
 ·exact h1.elim
theorem sf0 {body:List Stmt} {ti:TI3} {g:TG3} {tb:TS3} (hp:PassesOwn [10] X.A X.env X.xe) (hc:X.calm=true) (hi:RI X tg iter ti) (hg:RG X tg g) (hb:RSs X body tb)
    (hs:∀ x,foldedSetIterable iter X.env x=pure x:=by intro _; rfl):RS X (.For tg iter body [] pos) (for3 ti g tb):=by
 obtain ⟨wi,pi,ri⟩:=hi;obtain ⟨vg,pg,rg⟩:=hg;obtain ⟨vb,pb,rb⟩:=hb;refine ⟨_,xu3 hp hc pi pg pb hs,λ σ H D ρ μ D3 s m h k=>ri σ H _ ρ μ _ s m h λ l S μ1 J H1 h1 k1 m1 ok=>?_⟩;refine ⟨λ i n σ2 H2=>n=l.length - i /\ i<=l.length /\ ∃ ρ2 μ2,RSt X.K H2 ρ2 σ2 /\ RelM X.K μ2 H2 /\ Kp H1 H2 /\ vh1 S g tb D3 (l.drop i) ρ2 μ2,⟨l.length,rfl,Nat.zero_le _,ρ,μ1,s.mono k1,m1,Kp.refl _,h1⟩,?_⟩;rintro i n σ2 H2 ⟨rfl,hi,ρ2,μ2,s2,m2,k2,h2⟩;by_cases hlt:i < l.length
 ·rw [List.drop_eq_getElem_cons hlt] at h2;obtain ⟨hS,N,hN,h2⟩:=h2;obtain ⟨ok1,_⟩:=ok i H2 μ2 k2 m2 hS;obtain ⟨go,yl⟩:=ok1 l[i] (getElem?_eq_getElem hlt);refine .inr ⟨go,λ σ3 H3=>∃ ρ3 μ3,N ρ3 μ3 /\ RSt X.K H3 ρ3 σ3 /\ RelM X.K μ3 H3 /\ Kp H1 H3,λ σ3 H3 ⟨ρ3,μ3,hn,s3,m3,k3⟩=>⟨l.length - (i + 1),by omega,rfl,hlt,ρ3,μ3,s3,m3,k3,hN _ _ hn⟩,λ x H3 y=>?_⟩;obtain ⟨k3,m3,r3⟩:=yl x H3 y;refine rg x l[i] σ2 H3 _ ρ2 μ2 _ (s2.mono k3) m3 r3 h2 λ ρ4 μ4 σ4 H4 h4 k4 s4 m4=>?_;have k14:Kp H1 H4:=k2.trans (k3.trans k4)
  exact rb σ4 H4 _ ρ4 μ4 _ s4 m4 h4 ⟨λ ρ5 μ5 σ5 H5 h5 k5 s5 m5=>⟨ρ5,μ5,h5,s5,m5,k14.trans k5⟩,λ ρ5 μ5 σ5 H5 h5 k5 s5 m5=>k.nx _ _ _ _ h5 (k1.trans (k14.trans k5)) s5 m5,
   λ ρ5 μ5 σ5 H5 h5 k5 s5 m5=>⟨ρ5,μ5,h5,s5,m5,k14.trans k5⟩,λ d μ5 v H5 h5 k5 r5 m5=>k.rt _ _ _ _ h5 (k1.trans (k14.trans k5)) r5 m5⟩
 ·have e:i=l.length:=by omega
  subst e;rw [List.drop_length] at h2;obtain ⟨hS,h2⟩:=h2;exact .inl ⟨(ok _ H2 μ2 k2 m2 hS).2 [26],k.nx _ _ _ _ h2 (k1.trans k2) s2 m2⟩
theorem vj1 {body:List Stmt} {tc:TT3} {tb:TS3} (hp:PassesOwn [10] X.A X.env X.xe) (hc:RT X c tc) (hb:RSs X body tb):RS X (.While c body [] pos) (ws1 tc tb):=by
 obtain ⟨vc,pc,rc⟩:=hc;obtain ⟨vb,pb,rb⟩:=hb;refine ⟨_,si2 hp pc pb,λ σ H D ρ μ D3 s m h k=>?_⟩;obtain ⟨W,⟨n0,w0⟩,turn⟩:=h;refine ⟨λ n σ2 H2=>∃ ρ2 μ2,W n ρ2 μ2 /\ RSt X.K H2 ρ2 σ2 /\ RelM X.K μ2 H2 /\ Kp H H2,⟨n0,ρ,μ,w0,s,m,Kp.refl _⟩,?_⟩;rintro n σ2 H2 ⟨ρ2,μ2,w2,s2,m2,k2⟩;refine rc σ2 H2 _ ρ2 μ2 _ s2 m2 (turn n ρ2 μ2 w2) λ b μ3 H3 h3 k3 m3=>?_;cases b with
 | true =>
  obtain ⟨N,hN,h3⟩:=h3;have k23:=k2.trans k3;refine ⟨λ σ4 H4=>∃ ρ4 μ4,N ρ4 μ4 /\ RSt X.K H4 ρ4 σ4 /\ RelM X.K μ4 H4 /\ Kp H H4,λ σ4 H4 ⟨ρ4,μ4,hn,s4,m4,k4⟩=>?_,?_⟩
  ·obtain ⟨n',hl,w4⟩:=hN _ _ hn;exact ⟨n',hl,ρ4,μ4,w4,s4,m4,k4⟩
  ·exact rb σ2 H3 _ ρ2 μ3 _ (s2.mono k3) m3 h3 ⟨λ ρ5 μ5 σ5 H5 h5 k5 s5 m5=>⟨ρ5,μ5,h5,s5,m5,k23.trans k5⟩,λ ρ5 μ5 σ5 H5 h5 k5 s5 m5=>k.nx _ _ _ _ h5 (k23.trans k5) s5 m5,
     λ ρ5 μ5 σ5 H5 h5 k5 s5 m5=>⟨ρ5,μ5,h5,s5,m5,k23.trans k5⟩,λ d μ5 v H5 h5 k5 r5 m5=>k.rt _ _ _ _ h5 (k23.trans k5) r5 m5⟩
 | false=>exact k.nx _ _ _ _ h3 (k2.trans k3) (s2.mono k3) m3
def lift (K:Fg) (sp:Sp3):Sp:=λ vs H Q _=>∃ ds μ Q3,RelDs K H ds vs /\ RelM K μ H /\ sp ds μ Q3 /\ Ks K H Q3 Q
def Cal (P:Program) (w:World) (K:Fg) (mg:[23]) (base:Heap) (k:Nat) (x:Str) (ps:List Str) (sp:Sp3):Prop :=
 ∃ f fd,FnOk P w K mg base CX0 k f fd ps (lift K sp) /\ mg x=some (.ref f) /\ keepIn K (.ref f)=true /\ Binds K fd ps []
theorem Cal.mono {P:Program} {w:World} {K:Fg} {mg:[23]} {base:Heap} {j k:Nat} {x:Str} {ps:List Str} {sp:Sp3} (c:Cal P w K mg base j x ps sp) (h:j<=k):Cal P w K mg base k x ps sp:=by
 obtain ⟨f,fd,F,r⟩:=c;exact ⟨f,fd,F.mono h,r⟩
variable {es:List Expr} {t:TA3} {x:Str} {p:Pos}
theorem xc0 {k:Nat} {ps:List Str} {sp:Sp3} (c:Cal X.prog X.w X.K X.mg X.base k x ps sp) (hr:Room k X.A) (ha:RA X (e :: es) t) (hg:Gl X x:=by rfl) (hdb:[25]=false:=by decide)
    (he:starEach (e :: es) X.env=[29] :: starEach es X.env:=by rfl) (hpl:(backTo pos (starEach es X.env)).any (·.1)=false:=by rfl):RE X (.Call (.Name x p) (e :: es) [] pos) (call3 sp t):=by
 obtain ⟨f,fd,F,hm,hk,hb⟩:=c;obtain ⟨va,pa,ra⟩:=ha;refine ⟨_,xy1 F hr hg hm hk hb .nil uj4 pa hdb he hpl,λ σ H Q ρ μ Q3 s m h k=>ra σ H _ ρ μ _ s m h λ ds μ1 vs H1 h1 k1 r1 m1=>?_⟩;rw [append_nil];exact ⟨ds,μ1,Q3,r1,m1,h1,k.after k1⟩
theorem wd0 {r:C3} {id:String} (hc:RC X (.builtin id) r) (hm:X.mg x=none) (hv:bootBuiltins x=some (.builtin id)) (ha:RA X (e :: es) t) (hg:Gl X x:=by rfl) (hn:x ≠ "__name__" := by decide) (hdb:[25]=false:=by decide)
    (he:starEach (e :: es) X.env=[29] :: starEach es X.env:=by rfl) (hpl:(backTo pos (starEach es X.env)).any (·.1)=false:=by rfl):RE X (.Call (.Name x p) (e :: es) [] pos) (call3 r t):=by
 obtain ⟨r',pc,rc⟩:=hc;obtain ⟨va,pa,ra⟩:=ha;exact ⟨_,wk1 pc hg hm hv pa hn hdb he hpl,λ σ H Q ρ μ Q3 s m h k=>ra σ H _ ρ μ _ s m h λ ds μ1 vs H1 h1 k1 r1 m1=>rc ds vs H1 Q μ1 Q3 m1 r1 h1 (k.after k1)⟩
theorem yh0 {r:C3} {T:String} (hc:RC X (.type T) r) (hm:X.mg x=none) (hv:bootBuiltins x=some (.type T)) (ha:RA X (e :: es) t) (hg:Gl X x:=by rfl) (hn:x ≠ "__name__" := by decide) (hdb:[25]=false:=by decide)
    (he:starEach (e :: es) X.env=[29] :: starEach es X.env:=by rfl) (hpl:(backTo pos (starEach es X.env)).any (·.1)=false:=by rfl):RE X (.Call (.Name x p) (e :: es) [] pos) (call3 r t):=by
 obtain ⟨r',pc,rc⟩:=hc;obtain ⟨va,pa,ra⟩:=ha;exact ⟨_,sx1 pc hg hm hv pa hn hdb he hpl,λ σ H Q ρ μ Q3 s m h k=>ra σ H _ ρ μ _ s m h λ ds μ1 vs H1 h1 k1 r1 m1=>rc ds vs H1 Q μ1 Q3 m1 r1 h1 (k.after k1)⟩
theorem uc0 {r3:R3} (hx:RX X r3) (ha:RE X a ta) (hb:RE X b tb) (hs:yf2 b:=by intro _ _; rfl):RE X (.Subscript a b pos) (o3 r3 ta tb):=by
 obtain ⟨r,po,ro⟩:=hx;obtain ⟨va,pa,ra⟩:=ha;obtain ⟨vb,pb,rb⟩:=hb;exact ⟨_,zj4 po pa pb hs,ra.op rb ro⟩
end
section
variable {P:Program} {w:World} {K:Fg} {mg:[23]} {base:Heap}
theorem tb2 {x:Str} {st:Stmt} {f:Addr} {fd:FuncData} {N ps:List Str} {k:Nat} {sp:Sp3} {t:TS3} (F:Fun K x x st f fd) (S:FnScope N ps (va0 st))
    (len:∀ ds μ Q,sp ds μ Q->ds.length=ps.length)
    (body:∀ (cdv:Value) (A:Around) (outer:List Env) (s:[39]) (H:Hp) (E:XK),Room k (A.deeper (envOfC x (va0 st) s.heap.objs.size f cdv))->RSs (cxOf CX0 P w K mg base N x (va0 st) f cdv A outer s H E).nox (vb0 st) t)
    (rd:∀ ds μ Q,sp ds μ Q->t { nx:=λ _ μ'=>Q .non μ',rt:=Q } (start3 N ds) μ):FnOk P w K mg base CX0 (k + 1) f fd ps (lift K sp):=by
 refine F.ok S (λ vs H Q E h=>?_) (λ cdv A outer s H vs Q E hr h=>?_)
 ·obtain ⟨ds,μ,Q3,r,m,q,ks⟩:=h;rw [<- r.length]; exact len _ _ _ q
 ·obtain ⟨ds,μ,Q3,r,m,q,ks⟩:=h;obtain ⟨tv,p,rt⟩:=body cdv A outer s H E hr;exact ⟨tv,p,rt _ H _ _ μ _ (RSt.start N r) m (rd ds μ Q3 q) ⟨λ ρ μ' σ H' h' k' s' m'=>ks _ _ _ _ h' k' .non m',λ ρ μ' σ H' h'=>False.elim h',λ ρ μ' σ H' h'=>False.elim h',ks⟩⟩
theorem xg0 {x:Str} {st:Stmt} {f:Addr} {fd:FuncData} {N ps:List Str} {k:Nat} {sp:Sp3} {t:TS3} (F:Fun K x x st f fd) (hm:mg x=some (.ref f)) (hb:Binds K fd ps []) (S:FnScope N ps (va0 st))
    (len:∀ ds μ Q,sp ds μ Q->ds.length=ps.length)
    (body:∀ (cdv:Value) (A:Around) (outer:List Env) (s:[39]) (H:Hp) (E:XK),Room k (A.deeper (envOfC x (va0 st) s.heap.objs.size f cdv))->RSs (cxOf CX0 P w K mg base N x (va0 st) f cdv A outer s H E).nox (vb0 st) t)
    (rd:∀ ds μ Q,sp ds μ Q->t { nx:=λ _ μ'=>Q .non μ',rt:=Q } (start3 N ds) μ):Cal P w K mg base (k + 1) x ps sp :=
 ⟨f,fd,tb2 F S len body rd,hm,F.kp,hb⟩
end
section
variable {X:Cx}
theorem RdO.i0 {K:Fg} {g3:Int->Int->D} {g:Int->Int->V} (hg:∀ i j H,RelD K H (g3 i j) (g i j)):RdO K (rI0 g) (int20 g3):=λ x y v u H Q μ Q3 m rx ry h k=>by
 cases rx with
 | int i =>
  cases ry with
  | int j=>exact ⟨i,j,rfl,rfl,k _ _ _ _ h (Kp.refl _) (hg i j H) m⟩
  | _=>exact False.elim h
 | _=>cases ry <;> exact False.elim h
theorem RdO.i2 {K:Fg} {C:Int->Int->Prop} {g3:Int->Int->D} {g:Int->Int->V} (hg:∀ i j H,RelD K H (g3 i j) (g i j)):RdO K (rI C g) (int2 C g3):=λ x y v u H Q μ Q3 m rx ry h k=>by
 cases rx with
 | int i =>
  cases ry with
  | int j=>exact ⟨i,j,rfl,rfl,h.1,k _ _ _ _ h.2 (Kp.refl _) (hg i j H) m⟩
  | _=>exact False.elim h
 | _=>cases ry <;> exact False.elim h
theorem yj0:RO X (binaryOp .Sub) subR:=⟨_,vv3,RdO.i0 λ _ _ _=>.int _⟩
theorem tf1:RO X (binaryOp .Mod) modR:=⟨_,xw3,RdO.i2 λ _ _ _=>.int _⟩
theorem wi2:RO X (binaryOp .Pow) powR:=⟨_,tv3,RdO.i2 λ _ _ _=>.int _⟩
theorem log2_lt {n k:Nat} (hk:0 < k) (h:n < 2 ^ k):n.log2 < k:=by
 rcases Nat.eq_zero_or_pos n with h0 | hp
 ·rw [h0]; simpa using hk
 ·exact (Nat.log2_lt (Nat.ne_of_gt hp)).mpr h
theorem xk2:OpR X (binaryOp .FloorDiv) (rI (λ _ j=>0 < j /\ j < 2 ^ 120) λ i j=>.int (i / j)):=opI λ i j _ _ _ _ _ hc q=>by
 have h1:(0:Int) < j:=hc.1;have h2:j < 2 ^ 120:=hc.2;refine floordiv_int [1] (by rw [Int.fdiv_eq_ediv_of_nonneg i [1]]; exact q) (.inl (PyProof.noPylong_of_log2 ?_));have h3:j.natAbs < 2 ^ 120:=by omega
 exact Nat.lt_trans (log2_lt [9] h3) [9]
theorem vw1:RO X (binaryOp .FloorDiv) fdivR:=⟨_,xk2,RdO.i2 λ _ _ _=>.int _⟩
theorem CMul.mulok {i j:Int} (h:CMul i j):IntMulOk i j:=by
 rcases h with h | ⟨h1,h2⟩
 ·exact L2.CMul.ok h
 ·unfold IntMulOk;intro e;rw [Bool.and_eq_true] at e;have e2:=e.2;unfold Builtin.Int.intTooBig at e2
  have hb:∀ x:Int,x.natAbs < Big->Builtin.Int.intBits x<=1000:=λ x hx=>by
   unfold Builtin.Int.intBits;split
   ·exact Nat.zero_le _
   ·exact log2_lt [9] hx
  have b1:=hb i h1;have b2:=hb j h2;have e3:=of_decide_eq_true e2;have e4:(2000:Nat) < bitsLine:=by decide
  omega
theorem op_mulB:OpR X (binaryOp .Mult) (rI CMul λ i j=>.int (i * j)):=opI λ _ _ _ _ _ _ _ hc q=>mul_int q hc.mulok
theorem yi4:RU X (unaryOp .USub) negR:=⟨_,tf3,λ x v H Q μ Q3 m r h k=>by
 cases r with
 | int i=>exact ⟨i,rfl,k _ _ _ _ h (Kp.refl _) (.int _) m⟩
 | _=>exact False.elim h⟩
theorem q_lt:RO X (compareOp .Lt) ltR:=⟨_,tj4,RdO.i0 λ _ _ _=>.bl _⟩
theorem q_gt:RO X (compareOp .Gt) gtR:=⟨_,sj4,RdO.i0 λ _ _ _=>.bl _⟩
theorem q_ge:RO X (compareOp .GtE) geR:=⟨_,op_ge,RdO.i0 λ _ _ _=>.bl _⟩
def xi4 (K:Fg):R2:=λ x y H Q=>∃ a b xs ys,x=.ref a /\ y=.ref b /\ SqT K H a xs /\ SqT K H b ys /\ xs.length + ys.length<=sizeLine ∧
 (xs=[]->Q (.ref b) H) /\ (ys=[]->Q (.ref a) H) /\ (∀ p,H p=none->Q (.ref p) (upd H p (.tup (xs ++ ys))))
theorem yz2:OpR X (binaryOp .Add) (xi4 X.K):=by
 intro pins s σ H x y v u Q I rx ry h;obtain ⟨a,b,xs,ys,rfl,rfl,ha,hb,hz,q1,q2,q3⟩:=h;by_cases hx:xs=[]
 ·cases rx;cases ry;obtain ⟨its,r,ht,_⟩:=I.tuple ha;obtain ⟨its2,r2,ht2,_⟩:=I.tuple hb;have hi:its=[]:=by subst hx; cases r; rfl
  obtain ⟨⟨cls,dd,data,sl⟩,ho,hc,n,hd⟩:=id ht;obtain ⟨⟨cls2,dd2,data2,sl2⟩,ho2,hc2,n2,hd2⟩:=id ht2;simp only at hc hd hc2 hd2;subst hc hd hc2 hd2
  exact concat_meets ⟨_,ho,rfl⟩ ⟨_,ho2,rfl⟩ noFill_tuple_add seq_tuple_add slot_tuple_add entry_tuple_add (args_tuple_add_2 _ _)
   (tuple_addW0 a b its.toArray its2.toArray n n2 dd dd2 sl sl2 (by simp [hi])) ⟨ho,ho2,⟨.ref b,H,I,rfl,q1 hx⟩⟩
 ·exact xz2 pins s σ H _ _ v u Q I rx ry ⟨a,b,xs,ys,rfl,rfl,ha,hb,hx,hz,q2,λ _=>q3⟩
theorem ze0:RO X (binaryOp .Add) addR:=by
 refine ⟨_,(op_add.or vq1).or (op_cat.or yz2),λ x y v u H Q μ Q3 m rx ry h k=>?_⟩;cases rx with
 | int i =>
  cases ry with
  | int j=>exact .inl (.inl ⟨i,j,rfl,rfl,k _ _ _ _ h (Kp.refl _) (.int _) m⟩)
  | _=>exact False.elim h
 | str i =>
  cases ry with
  | str j=>exact .inl (.inr ⟨i,j,rfl,rfl,h.1,k _ _ _ _ h.2 (Kp.refl _) (.str _) m⟩)
  | _=>exact False.elim h
 | ref p =>
  cases ry with
  | ref q =>
   dsimp only [addR] at h;cases e:μ p with
   | none=>rw [e] at h; exact h.elim
   | some oo =>
    cases oo with
    | ins _ _=>rw [e] at h; exact h.elim
    | dcl _=>rw [e] at h; exact h.elim
    | lst xs =>
     cases e2:μ q with
     | none=>rw [e,e2] at h; exact h.elim
     | some o2 =>
      cases o2 with
      | ins _ _=>rw [e,e2] at h; exact h.elim
      | dcl _=>rw [e,e2] at h; exact h.elim
      | lst ys =>
       rw [e,e2] at h;obtain ⟨vs,hv,rv⟩:=m p xs e;obtain ⟨us,hu,ru⟩:=m q ys e2;refine .inr (.inl ⟨p,q,vs,us,rfl,rfl,hv,hu,by rw [<- rv.length,<- ru.length]; exact h.1,λ t ht=>?_⟩);exact k _ _ _ _ (h.2 t (m.free ht)) (Kp.new ht) (.ref t) (m.newL ht (rv.append ru))
  | _=>exact False.elim h
 | tup hq rs =>
  cases ry with
  | tup hq2 rs2 =>
   rename_i a l vs b l2 us;refine .inr (.inr ⟨a,b,vs,us,rfl,rfl,(SqT.of hq),(SqT.of hq2),by rw [<- rs.length,<- rs2.length]; exact h.1,λ e=>?_,λ e=>?_,λ t ht=>?_⟩)
   ·subst e; cases rs;exact k _ _ _ _ h.2 (Kp.refl _) (.tup hq2 rs2) m
   ·subst e; cases rs2;have h2:=h.2;rw [append_nil] at h2;exact k _ _ _ _ h2 (Kp.refl _) (.tup hq rs) m
   ·exact k _ _ _ _ h.2 (Kp.new ht) (.tup sd0 ((rs.append rs2).mono (Kp.new ht))) (m.newT ht)
  | _=>exact False.elim h
 | _=>cases ry <;> exact False.elim h
theorem RelDs.atI {K:Fg} {H:Hp} {l:List D} {vs:List V} {i:Int} {d:D} (r:RelDs K H l vs) (e:Pv.atI l i=some d):∃ v,L2.atI vs i=some v /\ RelD K H d v:=by
 unfold Pv.atI at e;unfold L2.atI;rw [uy3,<- r.length];cases q:ixN l.length i with
 | none=>rw [q] at e; cases e
 | some j =>
  rw [q] at e;exact r.get e
theorem q_ix:RX X ixR:=by
 refine ⟨_,ix_list.or vy3,λ x y v u H Q μ Q3 m rx ry h k=>?_⟩;cases ry with
 | int i =>
  cases rx with
  | tup hq rs =>
   rename_i a l vs;dsimp only [ixR] at h;cases e:Pv.atI l i with
   | none=>rw [e] at h; exact h.elim
   | some d =>
    rw [e] at h;obtain ⟨w,e1,r1⟩:=rs.atI e;exact .inr ⟨a,vs,i,w,rfl,rfl,(SqT.of hq),e1,k _ _ _ _ h (Kp.refl _) r1 m⟩
  | ktp hq rs =>
   rename_i a l vs;dsimp only [ixR] at h;cases e:Pv.atI l i with
   | none=>rw [e] at h; exact h.elim
   | some d =>
    rw [e] at h;obtain ⟨w,e1,r1⟩:=rs.atI e;exact .inr ⟨a,vs,i,w,rfl,rfl,hq,e1,k _ _ _ _ h (Kp.refl _) r1 m⟩
  | fls hq rs =>
   rename_i a l vs;dsimp only [ixR] at h;cases e:Pv.atI l i with
   | none=>rw [e] at h; exact h.elim
   | some d =>
    rw [e] at h;obtain ⟨w,e1,r1⟩:=rs.atI e;exact .inl ⟨a,vs,i,w,rfl,rfl,hq.l,e1,k _ _ _ _ h (Kp.refl _) r1 m⟩
  | ref p =>
   dsimp only [ixR] at h;cases e0:μ p with
   | none=>rw [e0] at h; exact h.elim
   | some oo =>
    cases oo with
    | ins _ _=>rw [e0] at h; exact h.elim
    | dcl _=>rw [e0] at h; exact h.elim
    | lst l =>
     rw [e0] at h;dsimp only at h;obtain ⟨vs,hv,rs⟩:=m p l e0;cases e:Pv.atI l i with
     | none=>rw [e] at h; exact h.elim
     | some d =>
      rw [e] at h;obtain ⟨w,e1,r1⟩:=rs.atI e;exact .inl ⟨p,vs,i,w,rfl,rfl,SqL.of hv,e1,k _ _ _ _ h (Kp.refl _) r1 m⟩
  | _=>exact False.elim h
 | _=>cases rx <;> exact False.elim h
theorem wv0 {K:Fg} {H:Hp}:∀ {l:List D} {vs:List V} {zs:List Str},RelDs K H l vs->strs? l=some zs->vs=zs.map V.str
 | _,_,zs,.nil,e=>by simp [strs?] at e; subst e; rfl
 | _,_,zs,.cons h r,e=>by
  cases h with
  | str x =>
   simp only [strs?] at e;split at e
   ·next ys e1 =>
    simp only [Option.some.injEq] at e;subst e;rw [wv0 r e1]; rfl
   ·cases e
  | _=>simp [strs?] at e
theorem sl1 (z:Str) (zs:List Str):inV (.str z) (zs.map V.str)=zs.contains z:=by
 unfold inV;rw [List.any_map]
 induction zs with
 | nil=>rfl
 | cons y r ih =>
  rw [any_cons,ih,List.contains_cons];congr 1;show (y == z)=(z == y);rw [Bool.eq_iff_iff,beq_iff_eq,beq_iff_eq];exact eq_comm
theorem wd1 (zs:List Str):(zs.map V.str).all wy0=true:=by
 rw [List.all_map,List.all_eq_true]; intro _ _; rfl
theorem tw0:RC X (.builtin "len") lenR:=by
 refine ⟨_,call_len_seq.or ye1,λ xs vs H Q μ Q3 m r h k=>?_⟩;cases r with
 | nil=>exact False.elim h
 | cons r1 r2 =>
  cases r2 with
  | cons _ _=>cases r1 <;> exact False.elim h
  | nil =>
   cases r1 with
   | tup hq rs =>
    rename_i a l vs;refine .inl ⟨a,vs,rfl,.inr (SqT.of hq),?_⟩;rw [<- rs.length];exact k _ _ _ _ h (Kp.refl _) (.int _) m
   | fls hq rs =>
    rename_i a l vs;refine .inl ⟨a,vs,rfl,.inl hq.l,?_⟩;rw [<- rs.length];exact k _ _ _ _ h (Kp.refl _) (.int _) m
   | str z=>exact .inr ⟨z,rfl,h.1,k _ _ _ _ h.2 (Kp.refl _) (.int _) m⟩
   | ref p =>
    dsimp only [lenR] at h;cases e:μ p with
    | none=>rw [e] at h; exact h.elim
    | some oo =>
     cases oo with
     | ins _ _=>rw [e] at h; exact h.elim
     | dcl _=>rw [e] at h; exact h.elim
     | lst l =>
      rw [e] at h;obtain ⟨vs,hv,rs⟩:=m p l e;refine .inl ⟨p,vs,rfl,.inl (SqL.of hv),?_⟩;rw [<- rs.length];exact k _ _ _ _ h (Kp.refl _) (.int _) m
   | _=>exact False.elim h
theorem uw0:RC X (.type "tuple") tupR:=by
 refine ⟨_,wz0,λ xs vs H Q μ Q3 m r h k=>?_⟩;cases r with
 | nil=>exact False.elim h
 | cons r1 r2 =>
  cases r2 with
  | cons _ _=>cases r1 <;> exact False.elim h
  | nil =>
   cases r1 with
   | tup hq rs=>exact ⟨_,_,rfl,.inr ⟨(SqT.of hq),k _ _ _ _ h (Kp.refl _) (.tup hq rs) m⟩⟩
   | ref p =>
    dsimp only [tupR] at h;cases e:μ p with
    | none=>rw [e] at h; exact h.elim
    | some oo =>
     cases oo with
     | ins _ _=>rw [e] at h; exact h.elim
     | dcl _=>rw [e] at h; exact h.elim
     | lst l =>
      rw [e] at h;obtain ⟨vs,hv,rs⟩:=m p l e;exact ⟨p,vs,rfl,.inl ⟨SqL.of hv,λ t ht=>k _ _ _ _ h (Kp.new ht) (.tup sd0 (rs.mono (Kp.new ht))) (m.newT ht)⟩⟩
   | _=>exact False.elim h
theorem tx0 {K:Fg} {H:Hp}:∀ {l:List D} {vs:List V} {zs:List Int},RelDs K H l vs->ints? l=some zs->vs=zs.map V.int
 | _,_,zs,.nil,e=>by simp [ints?] at e; subst e; rfl
 | _,_,zs,.cons h r,e=>by
  cases h with
  | int x =>
   simp only [ints?] at e;split at e
   ·next ys e1 =>
    simp only [Option.some.injEq] at e;subst e;rw [tx0 r e1]; rfl
   ·cases e
  | _=>simp [ints?] at e
end
section
variable {X:Cx} {pins:[8]} {σ:L2.St} {H:Hp} {s:[39]}
mutual
theorem yg0 (I:[7]):∀ {d:D} {v:V} {p:PyData} {u:Value},RelD X.K H d v->dat d=some p->RelV v u->∃ as,Reads s.heap u p as
 | _,_,p,u,.non,e,r=>by simp only [dat,Option.some.injEq] at e; subst e; cases r; exact ⟨_,Reads.none⟩
 | _,_,p,u,.bl b,e,r=>by simp only [dat,Option.some.injEq] at e; subst e; cases r; exact ⟨_,Reads.bool b⟩
 | _,_,p,u,.int i,e,r=>by simp only [dat,Option.some.injEq] at e; subst e; obtain ⟨t,rfl⟩:=r; exact ⟨_,Reads.int i t⟩
 | _,_,p,u,.str x,e,r=>by
  simp only [dat] at e;split at e
  ·simp only [Option.some.injEq] at e; subst e; obtain ⟨t,rfl⟩:=r; exact ⟨_,Reads.str x t⟩
  ·cases e
 | _,_,p,u,.ref a,e,r=>by simp [dat] at e
 | _,_,p,u,.ty n,e,r=>by simp [dat] at e
 | _,_,p,u,.fls _ _,e,r=>by simp [dat] at e
 | _,_,p,u,.exc _ _ _,e,r=>by simp [dat] at e
 | _,_,p,u,.tup hq rs,e,r=>by
  simp only [dat] at e;split at e
  ·next ps e1 =>
   simp only [Option.some.injEq] at e; subst e;cases r;obtain ⟨its,rv,⟨o,ho,hc,n,hd⟩,hz⟩:=I.tuple (SqT.of hq);obtain ⟨as,q⟩:=th0 I rs e1 rv;exact ⟨_,Reads.tuple ho hc hd (by simpa using q)⟩
  ·cases e
 | _,_,p,u,.ktp hq rs,e,r=>by
  simp only [dat] at e;split at e
  ·next ps e1 =>
   simp only [Option.some.injEq] at e; subst e;cases r;obtain ⟨its,rv,⟨o,ho,hc,n,hd⟩,hz⟩:=I.tuple hq;obtain ⟨as,q⟩:=th0 I rs e1 rv;exact ⟨_,Reads.tuple ho hc hd (by simpa using q)⟩
  ·cases e
theorem th0 (I:[7]):∀ {l:List D} {vs:List V} {ps:List PyData} {us:[22]},RelDs X.K H l vs->dats l=some ps->Vals vs us->∃ as,ReadsAll s.heap us ps as
 | _,_,ps,us,.nil,e,r=>by simp only [dats,Option.some.injEq] at e; subst e; cases r; exact ⟨_,ReadsAll.nil⟩
 | _,_,ps,us,.cons h rs,e,r=>by
  simp only [dats] at e;split at e
  ·next p e1 =>
   split at e
   ·next qs e2 =>
    simp only [Option.some.injEq] at e; subst e;cases r with
    | cons r1 r2 =>
     obtain ⟨as,q1⟩:=yg0 I h e1 r1;obtain ⟨bs,q2⟩:=th0 I rs e2 r2;exact ⟨_,ReadsAll.cons q1 q2⟩
   ·cases e
  ·cases e
end
theorem vg0 (I:[7]) {μ:Mu} (m:RelM X.K μ H) {d:D} {v:V} {p:PyData} {u:Value} (h:RelD X.K H d v) (e:datM μ d=some p) (r:RelV v u):∃ as,Reads s.heap u p as:=by
 cases h with
 | ref a =>
  simp only [datM] at e;split at e
  ·next l e0 =>
   split at e
   ·next ps e1 =>
    simp only [Option.some.injEq] at e; subst e;cases r;obtain ⟨vs,hv,rs⟩:=m a l e0;obtain ⟨its,rv,pl,hz⟩:=I.list (SqL.of hv);obtain ⟨o,ho,hc,n,hd⟩:=pl.isList;obtain ⟨as,q⟩:=th0 I rs e1 rv;exact ⟨_,Reads.list ho hc hd (by simpa using q)⟩
   ·cases e
  ·cases e
 | non=>exact yg0 I .non e r
 | bl b=>exact yg0 I (.bl b) e r
 | int i=>exact yg0 I (.int i) e r
 | str x=>exact yg0 I (.str x) e r
 | ty n=>exact yg0 I (.ty n) e r
 | tup hq rs=>exact yg0 I (.tup hq rs) e r
 | ktp hq rs=>exact yg0 I (.ktp hq rs) e r
 | fls hq rs=>exact yg0 I (.fls hq rs) e r
 | exc a1 a2 a3=>simp [datM,dat] at e
mutual
theorem ve0:∀ (d:D) (p:PyData),dat d=some p->p.canLay0=true
 | .non,p,e=>by simp only [dat,Option.some.injEq] at e; subst e; rfl
 | .bl b,p,e=>by simp only [dat,Option.some.injEq] at e; subst e; rfl
 | .int b,p,e=>by simp only [dat,Option.some.injEq] at e; subst e; rfl
 | .str x,p,e=>by
  simp only [dat] at e;split at e
  ·next h=>simp only [Option.some.injEq] at e; subst e; exact h
  ·cases e
 | .tup l,p,e=>by
  simp only [dat] at e;split at e
  ·next ps e1=>simp only [Option.some.injEq] at e; subst e; simp only [PyData.canLay0]; exact wi0 l ps e1
  ·cases e
 | .ktp l,p,e=>by
  simp only [dat] at e;split at e
  ·next ps e1=>simp only [Option.some.injEq] at e; subst e; simp only [PyData.canLay0]; exact wi0 l ps e1
  ·cases e
 | .fls _,p,e=>by simp [dat] at e
 | .ref _,p,e=>by simp [dat] at e
 | .ty _,p,e=>by simp [dat] at e
theorem wi0:∀ (l:List D) (ps:List PyData),dats l=some ps->PyData.canLayAll0 ps=true
 | [],ps,e=>by simp only [dats,Option.some.injEq] at e; subst e; rfl
 | d :: r,ps,e=>by
  simp only [dats] at e;split at e
  ·next p e1 =>
   split at e
   ·next qs e2 =>
    simp only [Option.some.injEq] at e; subst e;simp only [PyData.canLayAll0,Bool.and_eq_true];exact ⟨ve0 d p e1,wi0 r qs e2⟩
   ·cases e
  ·cases e
end
theorem wq0 {μ:Mu} {d:D} {p:PyData} (e:datM μ d=some p):p.canLay0=true:=by
 cases d with
 | ref a =>
  simp only [datM] at e;split at e
  ·next l e0 =>
   split at e
   ·next ps e1=>simp only [Option.some.injEq] at e; subst e; simp only [PyData.canLay0]; exact wi0 l ps e1
   ·cases e
  ·cases e
 | non=>exact ve0 _ p e
 | bl b=>exact ve0 _ p e
 | int i=>exact ve0 _ p e
 | str x=>exact ve0 _ p e
 | ty n=>exact ve0 _ p e
 | tup l=>exact ve0 _ p e
 | ktp l=>exact ve0 _ p e
 | fls l=>exact ve0 _ p e
 | exc c=>simp [datM,dat] at e
theorem te0 {μ:Mu} {d:D} {p:PyData} (e:datM μ d=some p) (h:p.depth<=64):PySem.SeqAt.shaped p=true:=by
 unfold PySem.SeqAt.shaped;rw [wq0 e,decide_eq_true h]; rfl
def rEqD (K:Fg) (neg:Bool):R2:=λ x y H Q=>∃ d e μ p q,RelM K μ H /\ RelD K H d x /\ RelD K H e y /\ datM μ d=some p /\ datM μ e=some q /\ p.depth<=64 /\ q.depth<=64 /\ Q (.bl (if neg then !PyData.eqv p q else PyData.eqv p q)) H
theorem vw3 (hu:X.A.units + 64 < cLine):OpR X (compareOp .Eq) (rEqD X.K false):=by
 intro pins s σ H x y v u Q I rx ry h;obtain ⟨d,e,μ,p,q,m,rd,re,e1,e2,h1,h2,k⟩:=h;obtain ⟨as,q1⟩:=vg0 I m rd e1 rx;obtain ⟨bs,q2⟩:=vg0 I m re e2 ry;exact eq_dataH q1 q2 (te0 e1 h1) (te0 e2 h2) hu ⟨.bl _,H,I,rfl,k⟩
theorem sv3 (hu:X.A.units + 64 < cLine):OpR X (compareOp .NotEq) (rEqD X.K true):=by
 intro pins s σ H x y v u Q I rx ry h;obtain ⟨d,e,μ,p,q,m,rd,re,e1,e2,h1,h2,k⟩:=h;obtain ⟨as,q1⟩:=vg0 I m rd e1 rx;obtain ⟨bs,q2⟩:=vg0 I m re e2 ry;exact ne_dataH q1 q2 (te0 e1 h1) (te0 e2 h2) hu ⟨.bl _,H,I,rfl,k⟩
theorem uz3 {K:Fg} {H:Hp} {x y:D} {v u:V} {c:Bool} (rx:RelD K H x v) (ry:RelD K H y u) (e:eqS x y=some c):scal v u=true /\ decide (v=u)=c:=by
 unfold eqS at e;split at e <;> first | (cases e; done) | (cases rx; cases ry; cases e; exact ⟨rfl,rfl⟩) | (cases rx; cases ry; cases e; refine ⟨rfl,?_⟩; simp)
theorem hu64 {A:Around} {k:Nat} (hr:Room k A):A.units + 64 < cLine:=by have:=hr.un; omega
def rInD (K:Fg) (neg:Bool):R2:=λ x y H Q=>∃ d e μ p xs,∃ b:Bool,RelM K μ H /\ RelD K H d x /\ RelD K H e y /\ datM μ d=some p /\ datM μ e=some (if b then .list xs else .tuple xs) /\ p.depth<=64 /\ (if b then PyData.list xs else PyData.tuple xs).depth<=64 ∧
 Q (.bl (if neg then !(xs.any λ e=>PyData.eqv e p) else xs.any λ e=>PyData.eqv e p)) H
theorem zy1 (hu:X.A.units + 65 < cLine):OpR X (compareOp .NotIn) (rInD X.K true):=by
 intro pins s σ H x y v u Q I rx ry h;obtain ⟨d,e,μ,p,xs,b,m,rd,re,e1,e2,h1,h2,k⟩:=h;obtain ⟨as,q1⟩:=vg0 I m rd e1 rx;obtain ⟨bs,q2⟩:=vg0 I m re e2 ry;cases b
 ·exact PySem.SeqAt.notIn_tuple_reads q2 q1 (PySem.SeqAt.canLay_of_shaped (te0 e2 h2)) (PySem.SeqAt.canLay_of_shaped (te0 e1 h1)) (room_in_shaped (te0 e1 h1) hu) ⟨.bl _,H,I,rfl,k⟩
 ·exact PySem.SeqAt.notIn_list_reads q2 q1 (PySem.SeqAt.canLay_of_shaped (te0 e2 h2)) (PySem.SeqAt.canLay_of_shaped (te0 e1 h1)) (room_in_shaped (te0 e1 h1) hu) ⟨.bl _,H,I,rfl,k⟩
theorem hu65 {A:Around} {k:Nat} (hr:Room k A):A.units + 65 < cLine:=by have:=hr.un; omega
theorem ya3 {K:Fg} {neg:Bool} {x y:D} {v u:V} {H:Hp} {Q:VK} {μ:Mu} {Q3:VK3} (m:RelM K μ H) (rx:RelD K H x v) (ry:RelD K H y u) (h:inD neg x y μ Q3) (k:Ks K H Q3 Q):rInD K neg v u H Q:=by
 unfold inD at h;split at h
 ·next d xs e1 e2=>exact ⟨x,y,μ,d,xs,true,m,rx,ry,e1,e2,h.1.1,h.1.2,k _ _ _ _ h.2 (Kp.refl _) (.bl _) m⟩
 ·next d xs e1 e2=>exact ⟨x,y,μ,d,xs,false,m,rx,ry,e1,e2,h.1.1,h.1.2,k _ _ _ _ h.2 (Kp.refl _) (.bl _) m⟩
 ·exact h.elim
theorem RdO.inn {K:Fg} {neg:Bool}:RdO K (λ x y H Q=>(rIn K neg x y H Q \/ ∃ i j,x=.str i /\ y=.str j /\ Q (.bl (if neg then !(!(Builtin.Str.occurrences j i 0 j.length 1).isEmpty) else !(Builtin.Str.occurrences j i 0 j.length 1).isEmpty)) H) \/ rInD K neg x y H Q) (inR neg):=λ x y v u H Q μ Q3 m rx ry h k=>by
 unfold inR at h;split at h
 ·next z l =>
  cases e:strs? l with
  | none=>rw [e] at h; exact .inr (ya3 m rx ry h k)
  | some zs =>
   rw [e] at h;cases rx;cases ry with
   | tup hq rs =>
    rename_i a vs;have ev:=wv0 rs e;refine .inl <| .inl ⟨a,vs,rfl,.inr (SqT.of hq),rfl,by rw [ev]; exact wd1 zs,?_⟩;rw [ev,sl1];exact k _ _ _ _ h (Kp.refl _) (.bl _) m
 ·next z l =>
  cases e:strs? l with
  | none=>rw [e] at h; exact .inr (ya3 m rx ry h k)
  | some zs =>
   rw [e] at h;cases rx;cases ry with
   | ktp hq rs =>
    rename_i a vs;have ev:=wv0 rs e;refine .inl <| .inl ⟨a,vs,rfl,.inr hq,rfl,by rw [ev]; exact wd1 zs,?_⟩;rw [ev,sl1];exact k _ _ _ _ h (Kp.refl _) (.bl _) m
 ·next z y =>
  cases rx;cases ry;exact .inl <| .inr ⟨z,y,rfl,rfl,k _ _ _ _ h (Kp.refl _) (.bl _) m⟩
 ·exact .inr (ya3 m rx ry h k)
theorem yw2 (hu:X.A.units + 65 < cLine):RO X (compareOp .NotIn) (inR true):=⟨_,(op_notIn_seq.or tb1).or (zy1 hu),RdO.inn⟩
theorem q_eq (hu:X.A.units + 64 < cLine):RO X (compareOp .Eq) eqR:=by
 refine ⟨_,op_eq.or (vw3 hu),λ x y v u H Q μ Q3 m rx ry h k=>?_⟩;unfold eqR at h;cases e:eqS x y with
 | some c =>
  rw [e] at h;obtain ⟨h1,h2⟩:=uz3 rx ry e;refine .inl ⟨h1,?_⟩;rw [h2];exact k _ _ _ _ h (Kp.refl _) (.bl _) m
 | none =>
  rw [e] at h;dsimp only at h;cases e1:datM μ x with
  | none=>rw [e1] at h; exact h.elim
  | some p =>
   cases e2:datM μ y with
   | none=>rw [e1,e2] at h; exact h.elim
   | some q =>
    rw [e1,e2] at h;exact .inr ⟨x,y,μ,p,q,m,rx,ry,e1,e2,h.1.1,h.1.2,k _ _ _ _ h.2 (Kp.refl _) (.bl _) m⟩
theorem q_ne (hu:X.A.units + 64 < cLine):RO X (compareOp .NotEq) neR:=by
 refine ⟨_,op_ne.or (sv3 hu),λ x y v u H Q μ Q3 m rx ry h k=>?_⟩;unfold neR at h;cases e:eqS x y with
 | some c =>
  rw [e] at h;obtain ⟨h1,h2⟩:=uz3 rx ry e;refine .inl ⟨h1,?_⟩;rw [h2];exact k _ _ _ _ h (Kp.refl _) (.bl _) m
 | none =>
  rw [e] at h;dsimp only at h;cases e1:datM μ x with
  | none=>rw [e1] at h; exact h.elim
  | some p =>
   cases e2:datM μ y with
   | none=>rw [e1,e2] at h; exact h.elim
   | some q =>
    rw [e1,e2] at h;exact .inr ⟨x,y,μ,p,q,m,rx,ry,e1,e2,h.1.1,h.1.2,k _ _ _ _ h.2 (Kp.refl _) (.bl _) m⟩
variable {o e:Expr} {es:List Expr} {to:TE3} {t:TA3} {apos cpos:Pos}
theorem up3 {name:Str} {id:String} {r:V->List V->Hp->VK->Prop} {r3:D->List D->Mu->VK3->Prop} (slot:Slot "list" name id) (hty:typeOf (.builtin id)=pure (.type "method_descriptor")) (hm:MtR X id r)
    (hrd:∀ p xs v vs H Q μ Q3,RelM X.K μ H->RelD X.K H (.ref p) v->RelDs X.K H xs vs->r3 (.ref p) xs μ Q3->Ks X.K H Q3 Q->r v vs H Q) (ho:RE X o to) (ha:RA X (e :: es) t)
    (hbase:attributeBase o name X.env (eval o X.env)=eval o X.env)
    (hfew:((backTo cpos (starEach (e :: es) X.env)).all (λ x=>!x.1) && (backToKw cpos (keywordEach [] X.env)).all (λ x=>x.1.isSome)
     && decide [24])=true)
    (hline:(apos.endLine == cpos.line)=true) (hs:starEach (e :: es) X.env=[29] :: starEach es X.env) (hplain:(backTo cpos (starEach es X.env)).any (·.1)=false) :
    RE X (.Call (.Attribute o name apos) (e :: es) [] cpos) (mt3 r3 to t):=by
 obtain ⟨va,pa,ra⟩:=ho;obtain ⟨vb,pb,rb⟩:=ha;refine ⟨_,uy2 PySem.F.plainAttrs_list slot hty hm pa pb hbase hfew hline hs hplain,λ σ H Q ρ μ Q3 s m h k=>ra σ H _ ρ μ _ s m h λ d μ1 v H1 h1 k1 r1 m1=>?_⟩;cases r1 with
 | ref p =>
  dsimp only at h1;cases e0:μ1 p with
  | none=>rw [e0] at h1; exact h1.elim
  | some oo =>
   cases oo with
   | ins _ _=>rw [e0] at h1; exact h1.elim
   | dcl _=>rw [e0] at h1; exact h1.elim
   | lst l =>
    rw [e0] at h1;obtain ⟨vs,hv,rs⟩:=m1 p l e0;refine ⟨.inl ⟨rfl,vs,SqL.of hv⟩,rb σ H1 _ ρ μ1 _ (s.mono k1) m1 h1 λ xs μ2 ys H2 h2 k2 r2 m2=>?_⟩;exact hrd p xs _ ys H2 Q μ2 Q3 m2 (.ref p) r2 h2 (k.after (k1.trans k2))
 | _=>exact False.elim h1
theorem zh0 (ho:RE X o to) (ha:RA X (e :: es) t) (hbase:attributeBase o "append" X.env (eval o X.env)=eval o X.env:=by rfl)
    (hfew:((backTo cpos (starEach (e :: es) X.env)).all (λ x=>!x.1) && (backToKw cpos (keywordEach [] X.env)).all (λ x=>x.1.isSome)
     && decide [24])=true:=by rfl)
    (hline:(apos.endLine == cpos.line)=true:=by rfl) (hs:starEach (e :: es) X.env=[29] :: starEach es X.env:=by rfl) (hplain:(backTo cpos (starEach es X.env)).any (·.1)=false:=by rfl) :
    RE X (.Call (.Attribute o "append" apos) (e :: es) [] cpos) (mt3 appR to t):=by
 refine up3 PySem.F.slot_list_append PySem.F.type_list_append zp0 (λ p xs v vs H Q μ Q3 m rp rx h k=>?_) ho ha hbase hfew hline hs hplain;cases rp;cases rx with
 | nil=>exact False.elim h
 | cons r1 r2 =>
  cases r2 with
  | cons _ _=>exact False.elim h
  | nil =>
   dsimp only [appR] at h;cases e0:μ p with
   | none=>rw [e0] at h; exact h.elim
   | some oo =>
    cases oo with
    | ins _ _=>rw [e0] at h; exact h.elim
    | dcl _=>rw [e0] at h; exact h.elim
    | lst l =>
     rw [e0] at h;obtain ⟨vs,hv,rs⟩:=m p l e0;exact ⟨p,vs,_,rfl,rfl,hv,by rw [<- rs.length]; exact h.1,k _ _ _ _ h.2 (Kp.wr hv) .non (m.wr hv (rs.append (.cons r1 .nil)))⟩
theorem wb1 (ho:RE X o to) (ha:RA X (e :: es) t) (hbase:attributeBase o "extend" X.env (eval o X.env)=eval o X.env:=by rfl)
    (hfew:((backTo cpos (starEach (e :: es) X.env)).all (λ x=>!x.1) && (backToKw cpos (keywordEach [] X.env)).all (λ x=>x.1.isSome)
     && decide [24])=true:=by rfl)
    (hline:(apos.endLine == cpos.line)=true:=by rfl) (hs:starEach (e :: es) X.env=[29] :: starEach es X.env:=by rfl) (hplain:(backTo cpos (starEach es X.env)).any (·.1)=false:=by rfl) :
    RE X (.Call (.Attribute o "extend" apos) (e :: es) [] cpos) (mt3 extR to t):=by
 refine up3 PySem.F.slot_list_extend PySem.F.type_list_extend ty1 (λ p xs v vs H Q μ Q3 m rp rx h k=>?_) ho ha hbase hfew hline hs hplain;cases rp;cases rx with
 | nil=>exact False.elim h
 | cons r1 r2 =>
  cases r2 with
  | cons _ _=>cases r1 <;> exact False.elim h
  | nil =>
   cases r1 with
   | ref q =>
    dsimp only [extR] at h;cases e0:μ p with
    | none=>rw [e0] at h; exact h.elim
    | some oo =>
     cases oo with
     | ins _ _=>rw [e0] at h; exact h.elim
     | dcl _=>rw [e0] at h; exact h.elim
     | lst l =>
      cases e2:μ q with
      | none=>rw [e0,e2] at h; exact h.elim
      | some o2 =>
       cases o2 with
       | ins _ _=>rw [e0,e2] at h; exact h.elim
       | dcl _=>rw [e0,e2] at h; exact h.elim
       | lst l2 =>
        rw [e0,e2] at h;obtain ⟨vs,hv,rs⟩:=m p l e0;obtain ⟨us,hu,ru⟩:=m q l2 e2;exact ⟨p,q,vs,us,rfl,rfl,hv,hu,by rw [<- rs.length,<- ru.length]; exact h.1,k _ _ _ _ h.2 (Kp.wr hv) .non (m.wr hv (rs.append ru))⟩
   | _=>exact False.elim h
end
abbrev yd0 (X:Cx) (NN:List Str) (scope:Scope) (cl:List (Str × Addr)) (C:Addr) (fp:List Addr) (s₀:[39]) (H₀:Hp) (pn:[8]):Cx :=
 { X with N:=NN,s₀:=s₀,H₀:=H₀,env:=compEnvC scope cl C X.env,outer:=X.stack,ex:=fp,fn:=λ _=>false,pn:=pn,xe:=λ _ _=>False }
structure CompSc (X:Cx) (NN:List Str) (scope:Scope) (cl:List (Str × Addr)) (js:List (Option Nat)):Prop where
 clos:closureFor scope X.env=pure cl
 cell:∀ y ∈ scope.names,y.2 ≠ .cell
 kind:scope.kind=.function
 names:∀ y ∈ scope.names,y.2=.local->scope.names.lookup y.1=some .local
 sub:∀ x c,cl.lookup x=some c->X.env.cells.lookup x=some c
 has:∀ x,((relabel scope X.env).names.lookup x=some .cell \/ (relabel scope X.env).names.lookup x=some .free)->∃ c,cl.lookup x=some c
 len:js.length=NN.length
 out:∀ (i j:Nat),js[i]?=some (some j)->∃ x,NN[i]?=some x /\ X.N[j]?=some x /\ Vis X.env.scope x /\ X.env.scope.names.lookup x ≠ some .local /\ ((relabel scope X.env).names.lookup x=some .cell \/ (relabel scope X.env).names.lookup x=some .free)
theorem wh0 {α:Type} {x:Str} {k:α}:∀ {l:List (Str × α)},l.lookup x=some k->(x,k) ∈ l
 | [],h=>by simp at h
 | (n,k') :: r,h=>by
  rw [lookup_cons] at h;split at h
  ·next e=>simp only [Option.some.injEq] at h; subst h; rw [eq_of_beq e]; exact mem_cons_self
  ·exact mem_cons_of_mem _ (wh0 h)
theorem CompSc.closed {X:Cx} {NN:List Str} {scope:Scope} (hf:∀ y ∈ scope.names,y.2 ≠ .free) (hc:∀ y ∈ scope.names,y.2 ≠ .cell) (hk:scope.kind=.function) (hn:∀ y ∈ scope.names,y.2=.local->scope.names.lookup y.1=some .local) :
    CompSc X NN scope [] (NN.map λ _=>none) where
 clos:=closureFor_none hf
 cell:=hc
 kind:=hk
 names:=hn
 sub:=λ x c h=>by simp at h
 has:=λ x h=>by
  exfalso
  have e:(relabel scope X.env).names=scope.names:=map_eq_self (l:=scope.names) (λ y hy=>by
   obtain ⟨n,k⟩:=y;have:(k == NameKind.free)=false:=by simpa using hf _ hy
   simp [this])
  rw [e] at h;rcases h with h | h
  ·exact hc _ (wh0 h) rfl
  ·exact hf _ (wh0 h) rfl
 len:=by simp
 out:=λ i j h=>by
  rw [getElem?_map] at h;cases q:NN[i]? with
  | none=>rw [q] at h; cases h
  | some y=>rw [q] at h; simp at h
def ul0 (js:List [34]) (σ:L2.St):L2.St:=js.map λ j=>j.bind λ j=>(σ[j]?).bind id
def PTs (X:Cx) (ifs:List Expr) (t:TT):Prop:=∀ (pins:[8]) (s:[39]) (σ:L2.St) (H:Hp) (Q:Bool->Hp->Prop),Inv X pins σ H s->t σ H Q ->
 wpAny [10] X.A (forIn ifs true λ c r=>if r=true then do let ok <- isTrue c X.env (eval c X.env); pure (ForInStep.yield ok) else pure (ForInStep.yield r)) (TP X pins σ Q) X.xe s
theorem uw2 {X:Cx}:PTs X [] (λ _ H Q=>Q true H):=λ _ _ _ H _ I h=>wpAny_tests_nil ⟨H,I,h⟩
theorem vw2 {X:Cx} {c:Expr} {t:TT} (h:PT X c t):PTs X [c] t:=λ pins s σ H Q I q=>wpAny_tests_one (h pins s σ H Q I q)
def ut1 (js:List [34]) (wi:TI) (g:TG) (tc:TT) (te:TE):TE:=λ σ H Q=>wi σ H λ J H1=>∀ p,H1 p=none ->
 ∃ W:Nat->Nat->L2.St->Hp->Prop,(∃ m,W 0 m (ul0 js σ) (upd H1 p (.lst []))) /\ ∀ i m σ' H',W i m σ' H' ->
  ((J.stop i H' /\ Q (.ref p) H') \/ (J.go i H' /\ ∀ x H2,J.yld i H' x H2->g x σ' H2 λ σ3 H3=>tc σ3 H3 λ b H4 =>
   if b=true then te σ3 H4 λ y H5=>∃ ys,H5 p=some (.lst ys) /\ ys.length < sizeLine /\ ∃ m',m' < m /\ W (i + 1) m' σ3 (upd H5 p (.lst (ys ++ [y]))) else ∃ m',m' < m /\ W (i + 1) m' σ3 H4))
section
variable {X:Cx} {NN:List Str} {scope:Scope} {cl:List (Str × Addr)} {js:List [34]}
theorem yc3 {pins:[8]} {σ:L2.St} {H:Hp} {s:[39]} {fp:List Addr} {pn:[8]} (hc:X.calm=true) (S:CompSc X NN scope cl js) (I:[7]) (f:∀ b ∈ fp,FpOk X pins H b /\ b < s.heap.objs.size) :
    (yd0 X NN scope cl s.heap.objs.size fp s H pn).Ok where
 mod:=I.ok.mod
 kind:=S.kind
 glob:=I.ok.glob
 blt:=I.ok.blt
 above:=Nat.le_refl _
 inj:=λ x y c h1 h2=>I.ok.inj x y c (S.sub x c h1) (S.sub y c h2)
 has:=λ x h=>S.has x h
 cab:=λ x c h=>by cases h
 hd:=λ _=>I.ok.hd hc
 frames:=I.ok.frames
 stk:=.inl rfl
 exf:=λ b hb=>⟨Nat.ne_of_lt (f b hb).2,λ x c e=>(f b hb).1.2.2.2.2.1 x c (S.sub x c e)⟩
 bs:=I.bs
 bsz:=Nat.le_trans I.ok.bsz I.sz
 noex:=λ b o e hb=>by
  rcases (f b hb).1.2.2.2.1 with z | z
  ·exact I.ok.noex b o e z
  ·exact absurd (Nat.lt_of_lt_of_le (Heap.lt_size e) (Nat.le_trans I.ok.bsz z)) (Nat.lt_irrefl _)
 exfs:=λ b hb hfs=>by
  rcases List.mem_cons.mp (I.stkSub b hfs) with z | z
  ·exact (f b hb).1.2.1 z
  ·exact (f b hb).1.2.2.1 z
 funs:=I.stack
 frf:=I.stkFree
theorem za2 {js:List [34]} {σ:L2.St} {i:Nat} {v:V} (h:(ul0 js σ)[i]?=some (some v)):∃ j,js[i]?=some (some j) /\ σ[j]?=some (some v):=by
 unfold ul0 at h;rw [getElem?_map] at h;cases q:js[i]? with
 | none=>rw [q] at h; cases h
 | some o =>
  rw [q] at h;cases o with
  | none=>simp at h
  | some j =>
   refine ⟨j,rfl,?_⟩;simp only [Option.map_some,Option.bind_some,Option.some.injEq] at h;cases e:σ[j]? with
   | none=>rw [e] at h; simp at h
   | some w=>rw [e] at h; simp only [Option.bind_some,id] at h; rw [h]
theorem sd1 {pins:[8]} {σ:L2.St} {H:Hp} {s:[39]} {fp:List Addr} {h₁:Heap} {m:[23]} {tk:Nat} (hc:X.calm=true) (S:CompSc X NN scope cl js) (I:[7]) (f:∀ b ∈ fp,FpOk X pins H b /\ b < s.heap.objs.size)
    (hn:h₁.Ns s.heap.objs.size m) (k:∀ b u,s.heap.get? b=some u->h₁.get? b=some u):Inv (yd0 X NN scope cl s.heap.objs.size fp s H (X.pn ++ pins)) [] (ul0 js σ) H { s with heap:=h₁,toks:=tk } where
 ok:=yc3 hc S I f
 os:=rfl
 bare:=I.bare
 base:=Un.kept k
 loc:=by
  refine ⟨m,hn,λ i x v h1 h2 h3=>?_⟩;obtain ⟨j,e1,e2⟩:=za2 h2;obtain ⟨y,q1,q2,q3,q4,q5⟩:=S.out i j e1;have q1':NN[i]?=some x:=h1;rw [q1] at q1'; cases q1';obtain ⟨mX,_,hl⟩:=I.loc;obtain ⟨u,r,l⟩:=hl j x v q2 e2 q3;refine ⟨u,r,.inr ⟨q5,?_⟩⟩;rcases l with ⟨z,_⟩ | ⟨_,c,hc',hcell⟩
  ·exact absurd z q4
  ·obtain ⟨c',hc2⟩:=S.has x q5;have e:=S.sub x c' hc2;rw [hc'] at e; cases e;obtain ⟨o,ho,hd⟩:=hcell;exact ⟨c,hc2,o,k _ _ ho,hd⟩
 cell:=λ x c e=>by
  obtain ⟨v,o,ho,hd⟩:=I.cell x c (S.sub x c e);exact ⟨v,o,k _ _ ho,hd⟩
 free:=I.hok.fresh [26]
 freeC:=λ x c e=>I.freeC x c (S.sub x c e)
 pin:=λ p hp=>by
  have hp':p ∈ X.pn ++ pins:=by simpa using hp
  obtain ⟨h1,h2,h3,h4,h5⟩:=I.pin p hp';refine ⟨k _ _ h1,h2,Nat.ne_of_lt (Heap.lt_size h1),λ z=>?_,h5⟩;rcases List.mem_cons.mp (I.stkSub _ z) with z | z
  ·exact h3 z
  ·exact h4 z
 hok:=I.hok.kept k
 len:=by show (ul0 js σ).length=NN.length; unfold ul0; rw [length_map]; exact S.len
theorem wy2 {elt target iter:Expr} {ifs:List Expr} {pos:Pos} {wi:TI} {g:TG} {tc:TT} {te:TE} (hc:X.calm=true) (S:CompSc X NN scope cl js) (hi:PI X target iter wi)
    (hg:∀ C fp s₀ H₀ pn,PG [13] target g) (ht:∀ C fp s₀ H₀ pn,PTs [13] ifs tc) (he:∀ C fp s₀ H₀ pn,PE [13] elt te)
    (hs:∀ x,foldedSetIterable iter X.env x=pure x):PE X [14] (ut1 js wi g tc te):=by
 intro pins s σ H Q I h;rw [eval_ListComp];refine wpAny_comprehension_free (use:=none) rfl hs S.clos S.kind S.names (thn (hi pins s σ H _ I h) λ xv s1 h1=>thn h1 λ itv s2 h2=>?_);obtain ⟨it,fp,tn,J,H2,rfl,I2,T,st2,f2,hW⟩:=h2;refine wpAny_newObj_type (wpAny_newFunctionEnv S.cell (by intro y hy; simp at hy) (λ h₁ hns₁ hsb₁=>?_) S.kind);dsimp only at hns₁ hsb₁ ⊢;have hD:H2 s2.heap.objs.size=none:=I2.hok.fresh [26]
 have I3:Inv X pins σ (upd H2 s2.heap.objs.size (.lst [])) { s2 with heap:=s2.heap.push { cls:=.type "list",dict:=none,data:=.seq ([]:List Value).toArray } } :=
  I2.lnew (t':=s2.toks) (its:=[]) .nil (by rw [sizeLine_eq]; decide)
 generalize hsD:({ s2 with heap:=s2.heap.push { cls:=.type "list",dict:=none,data:=.seq ([]:List Value).toArray } }:Shared)=sD at I3;have eh:sD.heap=s2.heap.push { cls:=.type "list",dict:=none,data:=.seq ([]:List Value).toArray }:=by rw [<- hsD]
 have es:∀ (h:Heap) (tk:Nat),({ s2 with heap:=h,toks:=tk }:Shared)={ sD with heap:=h,toks:=tk }:=λ h tk=>by rw [<- hsD]
 have hsz:s2.heap.objs.size < sD.heap.objs.size:=by rw [eh,Heap.size_push]; exact Nat.lt_succ_self _
 rw [<- eh] at hns₁ hsb₁ ⊢;generalize hp0:s2.heap.objs.size=p0 at *;have up:∀ b u,s2.heap.get? b=some u->sD.heap.get? b=some u:=λ b u e=>by rw [eh]; exact Heap.get?_push_of_some _ e
 have k:∀ b u,sD.heap.get? b=some u->h₁.get? b=some u:=λ b u e=>hsb₁.extBut b u (Nat.ne_of_lt (Heap.lt_size e)) (Heap.get?_push_of_some _ e)
 have f3:∀ b ∈ fp,FpOk X pins (upd H2 p0 (.lst [])) b /\ b < sD.heap.objs.size:=λ b hb=>by
  obtain ⟨o,ho,_⟩:=T.obj 0 _ st2 b hb;have hlt:b < p0:=by rw [<- hp0]; exact Heap.lt_size ho
  refine ⟨⟨?_,(f2 b hb).2⟩,Nat.lt_trans hlt hsz⟩;rw [yc0 (Nat.ne_of_lt hlt)]; exact (f2 b hb).1
 obtain ⟨W,⟨m0,w0⟩,turn⟩:=hW p0 hD;have I4:=sd1 (tk:=s2.toks + ([]:List (Str × Value)).length) hc S I3 f3 hns₁ k;have st4:tn 0 h₁:=T.keep 0 _ _ st2 λ b _ o e=>k b o (up b o e);rw [es];generalize hX':yd0 X NN scope cl sD.heap.objs.size fp sD (upd H2 p0 (.lst [])) (X.pn ++ pins)=X' at I4;have a1:X'.env=compEnvC scope cl sD.heap.objs.size X.env:=by rw [<- hX']
 have a2:X'.prog=X.prog:=by rw [<- hX']
 have a3:X'.w=X.w:=by rw [<- hX']
 have a4:X'.A=X.A:=by rw [<- hX']
 have a5:X'.K=X.K:=by rw [<- hX']
 have a6:X'.calm=true:=by rw [<- hX']; exact hc
 have a7:X'.xe=λ _ _=>False:=by rw [<- hX']
 have a8:X'.ex=fp:=by rw [<- hX']
 have T':Turn X'.prog X'.w X'.K target J fp it tn:=by rw [a2,a3,a5]; exact T
 have hg':PG X' target g:=by rw [<- hX']; exact hg _ _ _ _ _
 have ht':PTs X' ifs tc:=by rw [<- hX']; exact ht _ _ _ _ _
 have he':PE X' elt te:=by rw [<- hX']; exact he _ _ _ _ _
 have fin:∀ {σ':L2.St} {H':Hp} {s':[39]},Inv X' [] σ' H' s'->Q (.ref p0) H'->compPost [10] X.A X.xe none (EP X pins σ Q) (.ref p0) sD.heap.objs.size (.ok .next) s':=λ {σ' H' s'} I' q=>by
  obtain ⟨m',hn',_⟩:=I'.loc;rw [a1] at hn';refine ⟨m',hn',λ h' sb=>?_⟩
  have u:Un (frs X.stack) fp (upd H2 p0 (.lst [])) H' sD.heap s'.heap:=by
   have:=I'.base;rw [<- hX'] at this;exact this
  have hch:∀ b ∈ fp,(b ∈ X.ex \/ X.s₀.heap.objs.size<=b) /\ b ≠ X.env.locals /\ (∀ x c,X.env.cells.lookup x=some c->c ≠ b) /\ ∀ p ∈ X.pn ++ pins,p.1 ≠ b:=λ b hb=>by
   obtain ⟨_,z1,_,z3,z4,z5⟩:=(f3 b hb).1;exact ⟨z3,z1,z4,z5⟩
  have os':s'.os=sD.os:=by
   have:=I'.os;rw [<- hX'] at this;exact this
  have hok':HOk X.prog X.w H' s'.heap:=by
   have:=I'.hok;rw [<- hX'] at this;exact this
  have I5:Inv X pins σ H' s':=I3.call' os' u hok' I'.bare hch
  have hC:H' sD.heap.objs.size=none:=by
   have:=I'.free;rw [a1] at this;exact this
  refine ⟨.ref p0,H',I5.turned (t':=s'.toks) (it:=sD.heap.objs.size) (λ b o hb e=>sb.extBut b o hb e) hC (Nat.ne_of_gt I3.lt) (.inr I3.sz) (λ x c e=>?_) (λ p hp=>?_),rfl,q⟩
  ·obtain ⟨v,o,ho,_⟩:=I3.cell x c e;exact Nat.ne_of_lt (Heap.lt_size ho)
  ·exact Nat.ne_of_lt (Heap.lt_size (I3.pin p hp).1)
 have fp4:∀ {H':Hp},(∀ b ∈ fp,H' b=none)->∀ b ∈ fp,FpOk X' [] H' b:=λ hn b hb=>by
  obtain ⟨_,z1,z2,z3,z4,z5⟩:=(f3 b hb).1;rw [<- hX'];refine ⟨hn b hb,Nat.ne_of_lt (f3 b hb).2,λ z=>?_,.inl hb,λ x c e=>z4 x c (S.sub x c e),λ p hp=>z5 p (by simpa using hp)⟩;rcases List.mem_cons.mp (I3.stkSub _ z) with z | z
  ·exact z1 z
  ·exact z2 z
 have loop:∀ s₃:Shared,Inv X' [] (ul0 js σ) (upd H2 p0 (.lst [])) s₃->tn 0 s₃.heap ->
     codeAny [10] X.A (.compLoop [14] 0 (.ref it) (.ref p0) (compEnvC scope cl sD.heap.objs.size X.env)) (compPost [10] X.A X.xe none (EP X pins σ Q) (.ref p0) sD.heap.objs.size) s₃:=by
  intro s₃ I₃ st₃;refine codeAny_loop rfl (λ n s'=>∃ i σ' H',Inv X' [] σ' H' s' /\ tn i s'.heap /\ (∀ b ∈ fp,H' b=none) /\ W i n σ' H') (λ n s' hI=>?_) m0 ⟨0,ul0 js σ,_,I₃,st₃,λ b hb=>(f3 b hb).1.1,w0⟩;obtain ⟨i,σ3,H3,J3,st3,fr3,w3⟩:=hI;have tr:=turn i n σ3 H3 w3;show wpAny _ X.A ((compTurn [14] 0 (.ref it) (.ref p0) (compEnvC scope cl sD.heap.objs.size X.env)).onRaise (λ x=>do noteFrame x (compEnvC scope cl sD.heap.objs.size X.env); theTreesLotGoes x)) _ _ s';refine wpAny_noted ?_;rw [compTurn_list,<- a1,<- a2,<- a3,<- a4];have nof:∀ {α:Type} {t:Sem α} {Q':α->Shared->Prop} {s'':[39]} {E:[4]},wpAny (model X'.prog X'.w) X'.A t Q' X'.xe s''->wpAny (model X'.prog X'.w) X'.A t Q' E s'':=λ h=>wpAny_mono h (λ _ _ q=>q) λ _ _ z=>by rw [a7] at z; exact z.elim
  rcases tr with ⟨stop,qn⟩ | ⟨go,step⟩
  ·refine wpAny_bind (wpAny_standAt (wpAny_bind (nof (thn (T'.done X' rfl rfl rfl a6 i [] s' σ3 H3 X'.xe J3 (fp4 fr3) st3 stop) λ r s4 ⟨hr,J4⟩=>?_))));subst hr;exact wpAny_pure (fin J4 qn)
  ·refine wpAny_bind (wpAny_standAt (wpAny_bind (nof (thn (T'.item X' rfl rfl rfl a6 i [] s' σ3 H3 X'.xe J3 (fp4 fr3) st3 go) λ r s4 ⟨u,hr,h4⟩=>?_))));subst hr;refine wpAny_bind (nof (thn h4 λ _ s5 ⟨x,H5,I5,r5,y5,st5,fr5⟩=>?_));have I5':=I5.pinned (fp4 fr5) (T.obj _ _ st5);refine wpAny_bind (nof (thn (hg' _ s5 σ3 H5 x u _ I5' r5 (step x H5 y5)) λ _ s6 ⟨σ6,H6,I6,q6⟩=>?_));refine wpAny_bind (nof (thn (ht' _ s6 σ6 H6 _ I6 q6) λ ok s7 ⟨H7,I7,q7⟩=>?_))
   have again:∀ {s8:[39]} {σ8:L2.St} {H8:Hp},Inv X' ([] ++ tr0 fp s5.heap) σ8 H8 s8->(∃ m',m' < n /\ W (i + 1) m' σ8 H8)->∃ m,m < n /\ ∃ i σ' H',Inv X' [] σ' H' s8 /\ tn i s8.heap /\ (∀ b ∈ fp,H' b=none) /\ W i m σ' H':=λ {s8 σ8 H8} I8 ⟨m',hm,w8⟩=>by
    refine ⟨m',hm,i + 1,σ8,H8,I8.unpinned,T.keep _ _ _ st5 λ b hb o e=>(I8.pin (b,o) (mem_append_right _ (mem_append_right _ (zg0 hb e)))).1,λ b hb=>?_,w8⟩;obtain ⟨o,e,d⟩:=T.obj _ _ st5 b hb;exact (I8.pin (b,o) (mem_append_right _ (mem_append_right _ (zg0 hb e)))).2.1
   cases ok with
   | false=>exact wpAny_pure ⟨rfl,again I7 q7⟩
   | true =>
    refine wpAny_bind (wpAny_bind (nof (thn (he' _ s7 σ6 H7 _ I7 q7) λ xv s8 ⟨y,H8,I8,r8,ys,q8,hlen,q9⟩=>wpAny_bind (nof ?_))));refine thn (zp0 (X:=X') _ s8 σ6 H8 (.ref p0) [y] (.ref p0) [xv] (λ v H9=>v=.non /\ H9=upd H8 p0 (.lst (ys ++ [y]))) I8 rfl (.cons r8 .nil) ⟨p0,ys,y,rfl,rfl,q8,hlen,rfl,rfl⟩) λ rv s9 ⟨v9,H9,I9,_,_,e9⟩=>?_;subst e9;exact wpAny_pure (wpAny_pure ⟨rfl,again I9 q9⟩)
 exact codeAny_compStart_list (loop _ I4 st4) (T.self X.A 0 _ _ _ st4 (loop _ I4 st4))
end
theorem tk0:bootBuiltins "len" = some (.builtin "len"):=by decide +kernel
theorem vz0:bootBuiltins "isinstance" = some (.builtin "isinstance"):=by decide +kernel
theorem vn0:bootBuiltins "tuple" = some (.type "tuple"):=by decide +kernel
theorem we2:bootBuiltins "dict" = some (.type "dict"):=by decide +kernel
theorem ta4:bootBuiltins "set" = some (.type "set"):=by decide +kernel
theorem zs2:bootBuiltins "min" = some (.builtin "min"):=by decide +kernel
theorem ze2:bootBuiltins "max" = some (.builtin "max"):=by decide +kernel
theorem uk0:bootBuiltins "sorted" = some (.builtin "sorted"):=by decide +kernel
def RTs (X:Cx) (ifs:List Expr) (t:TT3):Prop:=∃ tv,PTs X ifs tv /\ RdT X.K tv t
theorem yf0 {X:Cx}:RTs X [] tt3:=⟨_,uw2,λ σ H Q ρ μ Q3 s m h k=>k _ _ _ h (Kp.refl _) m⟩
theorem zv1 {X:Cx} {c:Expr} {t:TT3} (h:RT X c t):RTs X [c] t:=let ⟨tv,p,r⟩:=h; ⟨tv,vw2 p,r⟩
theorem wl2 {K:Fg} {H:Hp} {ρ:St3} {σ:L2.St} (s:RSt K H ρ σ) (js:List [34]):RSt K H (js.map λ j=>j.bind (getI ρ)) (ul0 js σ):=by
 refine ⟨by simp [ul0],λ i d e=>?_⟩;rw [wh1,getElem?_map] at e;unfold ul0;rw [getElem?_map];cases q:js[i]? with
 | none=>rw [q] at e; cases e
 | some o =>
  rw [q] at e;cases o with
  | none=>simp at e
  | some j =>
   have e':getI ρ j=some d:=by simpa using e
   obtain ⟨v,h1,h2⟩:=s.at' j d e';exact ⟨v,by simp [h1],h2⟩
theorem RdE.comp {K:Fg} {js:List [34]} {wi:TI} {g:TG} {tc:TT} {te:TE} {ti:TI3} {g3:TG3} {tc3:TT3} {te3:TE3} (ri:RdI K wi ti) (rg:RdG K g g3) (rt:RdT K tc tc3) (re:RdE K te te3):RdE K (ut1 js wi g tc te) (comp3 js ti g3 tc3 te3):=by
 intro σ H Q ρ μ Q3 s m h k;refine ri σ H _ ρ μ _ s m h λ l S μ1 J H1 h1 k1 m1 ok p hp=>?_;obtain ⟨W,w0,hS,hn,hs⟩:=h1 p (m1.free hp);have kn:Kp H1 (upd H1 p (.lst [])):=Kp.new hp;refine ⟨λ i n σ2 H2=>n=l.length - i /\ i<=l.length /\ ∃ ρ2 μ2 ys,RSt K H2 ρ2 σ2 /\ RelM K μ2 H2 /\ Kp H1 H2 /\ W (l.drop i) ys ρ2 μ2,⟨l.length,rfl,Nat.zero_le _,_,_,[],(wl2 (s.mono k1) js).mono kn,m1.newL hp .nil,kn,w0⟩,?_⟩;rintro i n σ2 H2 ⟨rfl,hi,ρ2,μ2,ys,s2,m2,k2,w2⟩;obtain ⟨hS2,hp2⟩:=hS _ _ _ _ w2;by_cases hlt:i < l.length
 ·rw [List.drop_eq_getElem_cons hlt] at w2;obtain ⟨hz,h2⟩:=hs _ _ _ _ _ w2;obtain ⟨ok1,_⟩:=ok i H2 μ2 k2 m2 hS2;obtain ⟨go,yl⟩:=ok1 l[i] (getElem?_eq_getElem hlt);refine .inr ⟨go,λ x H3 y=>?_⟩;obtain ⟨k3,m3,r3⟩:=yl x H3 y;refine rg x l[i] σ2 H3 _ ρ2 μ2 _ (s2.mono k3) m3 r3 h2 λ ρ4 μ4 σ4 H4 h4 k4 s4 m4=>?_;refine rt σ4 H4 _ ρ4 μ4 _ s4 m4 h4 λ b μ5 H5 h5 k5 m5=>?_;have k15:Kp H1 H5:=k2.trans (k3.trans (k4.trans k5));cases b with
  | false=>exact ⟨l.length - (i + 1),by omega,rfl,hlt,ρ4,μ5,ys,s4.mono k5,m5,k15,h5⟩
  | true =>
   refine re σ4 H5 _ ρ4 μ5 _ (s4.mono k5) m5 h5 λ d μ6 v H6 h6 k6 r6 m6=>?_;obtain ⟨vs,hv,rv⟩:=m6 p ys h6.1;refine ⟨vs,hv,by rw [<- rv.length]; exact hz,l.length - (i + 1),by omega,rfl,hlt,ρ4,_,_,((s4.mono k5).mono k6).mono (Kp.wr hv),m6.wr hv (rv.append (.cons r6 .nil)),(k15.trans k6).trans (Kp.wr hv),h6.2⟩
 ·have e:i=l.length:=by omega
  subst e;rw [List.drop_length] at w2;exact .inl ⟨(ok _ H2 μ2 k2 m2 hS2).2 [26],k _ _ _ _ (hn _ _ _ w2) (k1.trans k2) (.ref p) m2⟩
section
variable {X:Cx} {elt target iter:Expr} {ifs:List Expr} {pos:Pos} {ti:TI3} {g:TG3} {tc:TT3} {te:TE3} {NN:List Str} {scope:Scope} {cl:List (Str × Addr)} {js:List [34]}
theorem yn0 (hc:X.calm=true) (S:CompSc X NN scope cl js) (hi:RI X target iter ti) (hg:∀ C fp s₀ H₀ pn,RG [13] target g)
    (ht:∀ C fp s₀ H₀ pn,RTs [13] ifs tc) (he:∀ C fp s₀ H₀ pn,RE [13] elt te)
    (hs:∀ x,foldedSetIterable iter X.env x=pure x):RE X [14] (comp3 js ti g tc te):=by
 obtain ⟨wi,pi,ri⟩:=hi
 let gU:TG:=λ v σ H Q=>∀ (r:TG3),r=g->∃ d ρ μ Q3,RSt X.K H ρ σ /\ RelM X.K μ H /\ RelD X.K H d v /\ g d ρ μ Q3 /\ (∀ ρ' μ' σ' H',Q3 ρ' μ'->Kp H H'->RSt X.K H' ρ' σ'->RelM X.K μ' H'->Q σ' H')
 let tU:TT:=λ σ H Q=>∃ ρ μ Q3,RSt X.K H ρ σ /\ RelM X.K μ H /\ tc ρ μ Q3 /\ (∀ b μ' H',Q3 b μ'->Kp H H'->RelM X.K μ' H'->Q b H')
 let eU:TE:=λ σ H Q=>∃ ρ μ Q3,RSt X.K H ρ σ /\ RelM X.K μ H /\ te ρ μ Q3 /\ Ks X.K H Q3 Q
 have hg':∀ C fp s₀ H₀ pn,PG [13] target gU:=λ C fp s₀ H₀ pn=>by
  obtain ⟨tv,p,r⟩:=hg C fp s₀ H₀ pn;intro pins s σ H v u Q I rv h;obtain ⟨d,ρ,μ,Q3,a1,a2,a3,a4,a5⟩:=h g rfl;exact p pins s σ H v u Q I rv (r v d σ H Q ρ μ Q3 a1 a2 a3 a4 a5)
 have ht':∀ C fp s₀ H₀ pn,PTs [13] ifs tU:=λ C fp s₀ H₀ pn=>by
  obtain ⟨tv,p,r⟩:=ht C fp s₀ H₀ pn;intro pins s σ H Q I h;obtain ⟨ρ,μ,Q3,a1,a2,a3,a4⟩:=h;exact p pins s σ H Q I (r σ H Q ρ μ Q3 a1 a2 a3 a4)
 have he':∀ C fp s₀ H₀ pn,PE [13] elt eU:=λ C fp s₀ H₀ pn=>by
  obtain ⟨tv,p,r⟩:=he C fp s₀ H₀ pn;intro pins s σ H Q I h;obtain ⟨ρ,μ,Q3,a1,a2,a3,a4⟩:=h;exact p pins s σ H Q I (r σ H Q ρ μ Q3 a1 a2 a3 a4)
 exact ⟨_,wy2 hc S pi hg' ht' he' hs,RdE.comp ri (λ v d σ H Q ρ μ Q3 a1 a2 a3 a4 a5 _ _=>⟨d,ρ,μ,Q3,a1,a2,a3,a4,a5⟩) (λ σ H Q ρ μ Q3 a1 a2 a3 a4=>⟨ρ,μ,Q3,a1,a2,a3,a4⟩) (λ σ H Q ρ μ Q3 a1 a2 a3 a4=>⟨ρ,μ,Q3,a1,a2,a3,a4⟩)⟩
theorem vj0 (hf:∀ y ∈ scope.names,y.2 ≠ .free) (hcl:∀ y ∈ scope.names,y.2 ≠ .cell) (hn:∀ y ∈ scope.names,y.2=.local->scope.names.lookup y.1=some .local) (hi:RI X target iter ti) (hg:∀ C fp s₀ H₀ pn,RG (yd0 X NN scope [] C fp s₀ H₀ pn) target g)
    (ht:∀ C fp s₀ H₀ pn,RTs (yd0 X NN scope [] C fp s₀ H₀ pn) ifs tc) (he:∀ C fp s₀ H₀ pn,RE (yd0 X NN scope [] C fp s₀ H₀ pn) elt te) (hc:X.calm=true:=by rfl) (hk:scope.kind=.function:=by rfl)
    (hs:∀ x,foldedSetIterable iter X.env x=pure x:=by intro _; rfl):RE X [14] (comp3 (NN.map λ _=>none) ti g tc te) :=
 yn0 hc (CompSc.closed hf hcl hk hn) hi hg ht he hs
end
mutual
inductive TupK (K:Fg):List D->Addr->Prop where
 | mk {a:Addr} {l:List D} {its:Array Value} {n:Nat} {od:Option Addr} {sl:Array (Option Value)}:K.lookup a=some ⟨.type "tuple",od,.seq its n,sl⟩->its.size<=sizeLine->ItK K l its.toList->TupK K l a
inductive ItK (K:Fg):List D->List Value->Prop where
 | nil:ItK K [] []
 | int {i:Int} {t:Tok} {l:List D} {us:List Value}:ItK K l us->ItK K (.int i :: l) (.int i t :: us)
 | str {x:Str} {t:Tok} {l:List D} {us:List Value}:ItK K l us->ItK K (.str x :: l) (.str x t :: us)
 | bl {b:Bool} {l:List D} {us:List Value}:ItK K l us->ItK K (.bl b :: l) (.bool b :: us)
 | tup {a:Addr} {l' l:List D} {us:List Value}:TupK K l' a->ItK K l us->ItK K (.ktp l' :: l) (.ref a :: us)
end
mutual
theorem TupK.rel {K:Fg}:∀ {l:List D} {a:Addr},TupK K l a->∀ H,RelD K H (.ktp l) (.ref a)
 | _,_,.mk h1 h2 h3,H=>by
  obtain ⟨vs,r,rd⟩:=h3.rel;exact .ktp (.inr ⟨_,_,_,h1,rfl,rfl,h2,r⟩) (rd H)
theorem ItK.rel {K:Fg}:∀ {l:List D} {us:[22]},ItK K l us->∃ vs,Vals vs us /\ ∀ H,RelDs K H l vs
 | _,_,.nil=>⟨[],.nil,λ _=>.nil⟩
 | _,_,.int h=>let ⟨vs,r,rd⟩:=h.rel; ⟨_,.cons (show RelV (.int _) _ from ⟨_,rfl⟩) r,λ H=>.cons (.int _) (rd H)⟩
 | _,_,.str h=>let ⟨vs,r,rd⟩:=h.rel; ⟨_,.cons (show RelV (.str _) _ from ⟨_,rfl⟩) r,λ H=>.cons (.str _) (rd H)⟩
 | _,_,.bl h=>let ⟨vs,r,rd⟩:=h.rel; ⟨_,.cons (show RelV (.bl _) _ from rfl) r,λ H=>.cons (.bl _) (rd H)⟩
 | _,_,.tup h0 h=>let ⟨vs,r,rd⟩:=h.rel; ⟨_,.cons (show RelV (.ref _) _ from rfl) r,λ H=>.cons (h0.rel H) (rd H)⟩
end
section
variable {K:Fg} {h:Heap} {mg:[23]} {x:Str}
theorem yz3 {i:Int} {t:Tok} (X:K.In h) (G:h.Ns mainGlobals mg) (e:nsIn K mainGlobals x=some (some (.int i t))):Gd K mg x (.int i):=⟨_,.int i,mg_of X G e,⟨_,rfl⟩,λ _=>.int i⟩
theorem xz3 {a:Addr} {l:List D} (X:K.In h) (G:h.Ns mainGlobals mg) (e:nsIn K mainGlobals x=some (some (.ref a))) (r:TupK K l a):Gd K mg x (.ktp l):=⟨_,.ref a,mg_of X G e,rfl,λ H=>r.rel H⟩
end
theorem sc1 {K:Fg} {H:Hp}:∀ ns:List Int,RelDs K H (ns.map D.int) (ns.map V.int)
 | []=>.nil
 | n :: r=>.cons (.int n) (sc1 r)
theorem wk2 {K:Fg} {H:Hp} {a:Addr} {ns:List Int} {sp:Sp3} (hO:Only H) (hS:SqL K H a (ns.map V.int)) (h:sp [.fls (ns.map D.int)] (λ _=>none) (λ d _=>d=.bl true)) :
    lift K sp [.ref a] H (λ v _=>v=.bl true) λ _ _ _=>False:=by
 have hF:SqF K H a (ns.map V.int):=by
  rcases hS with (h1 | ⟨o,h1⟩) | h1
  ·rcases hO a with z | ⟨o,xs,z⟩
   ·rw [h1] at z; cases z
   ·rw [h1] at z; cases z
  ·exact .inl ⟨o,h1⟩
  ·exact .inr h1
 refine ⟨_,_,_,.cons (.fls hF (sc1 ns)) .nil,(⟨λ p xs e=>(by cases e),λ p c fs e=>(by cases e),λ p kvs e=>(by cases e)⟩),h,λ d μ' v H' q _ r _=>?_⟩;subst q;cases r;rfl
open PySem.AutoSeq1 (wpAny_loadPart')
theorem zf1 (l:Addr) (items:Array Value) (n:Nat) (dd:Option Addr) (sl:Array (Option Value)) (x:Int) (u:Tok) (hc0:(decide (x < -(2 ^ 63)) || decide (x ≥ 2 ^ 63))=false) (hc1:(items.isEmpty || x == 1)=true) :
    Meets (Builtin.«tuple.__mul__» ⟨[.ref l,.int x u],[]⟩) (λ _ R s=>s.heap.get? l=some { cls:=.type "tuple",dict:=dd,data:=.seq items n,slots:=sl } /\ R (.ok (.ret (.ref l))) s) :=
 .of_wp λ prog w A R s h=>by
  obtain ⟨hp,g,d,tk,os⟩:=s; obtain ⟨hl,h⟩:=h;have f1:=AutoSeq1.idx_int;have f2:=AutoSeq1.sub_tuple_tuple
  wp_walk using wpAny_loadPart' hl
  refine wpAny_ite_false (decide_eq_false (by rw [hc0]; exact Bool.false_ne_true)) ?_
  wp_walk using wpAny_loadPart' hl
  exact ⟨_,rfl,h⟩
theorem yf1 (l:Addr) (items:Array Value) (n:Nat) (dd:Option Addr) (sl:Array (Option Value)) (x:Int) (u:Tok) (hc0:(decide (x < -(2 ^ 63)) || decide (x ≥ 2 ^ 63))=false) (hc1:(items.isEmpty || x == 1)=false) (hc2:(decide (x<=0) || items.isEmpty)=true) :
    Meets (Builtin.«tuple.__mul__» ⟨[.ref l,.int x u],[]⟩) (λ _ R s=>s.heap.get? l=some { cls:=.type "tuple",dict:=dd,data:=.seq items n,slots:=sl } /\ R (.ok (.ret (.ref s.heap.objs.size))) { s with heap:=s.heap.push { cls:=.type "tuple",data:=.seq #[] } }) :=
 .of_wp λ prog w A R s h=>by
  obtain ⟨hp,g,d,tk,os⟩:=s; obtain ⟨hl,h⟩:=h;have f1:=AutoSeq1.idx_int;have f2:=AutoSeq1.sub_tuple_tuple
  wp_walk using wpAny_loadPart' hl
  refine wpAny_ite_false (decide_eq_false (by rw [hc0]; exact Bool.false_ne_true)) ?_
  wp_walk using wpAny_loadPart' hl
  exact ⟨_,rfl,h⟩
theorem xf1 (l:Addr) (items:Array Value) (n:Nat) (dd:Option Addr) (sl:Array (Option Value)) (x:Int) (u:Tok) (hc0:(decide (x < -(2 ^ 63)) || decide (x ≥ 2 ^ 63))=false) (hc1:(items.isEmpty || x == 1)=false) (hc2:(decide (x<=0) || items.isEmpty)=false)
    (hc3:¬ ((items.size:Int) * x > (2 ^ 63 - 1) / 8)) (hc4:Builtin.Tuple.tupleTooMany ((items.size:Int) * x)=false) (hz:((List.replicate x.toNat items).foldl (· ++ ·) #[]).size<=sizeLine) :
    Meets (Builtin.«tuple.__mul__» ⟨[.ref l,.int x u],[]⟩) (λ _ R s=>s.heap.get? l=some { cls:=.type "tuple",dict:=dd,data:=.seq items n,slots:=sl } /\ R (.ok (.ret (.ref s.heap.objs.size))) { s with heap:=s.heap.push { cls:=.type "tuple",data:=.seq ((List.replicate x.toNat items).foldl (· ++ ·) #[]) } }) :=
 .of_wp λ prog w A R s h=>by
  obtain ⟨hp,g,d,tk,os⟩:=s; obtain ⟨hl,h⟩:=h;have f1:=AutoSeq1.idx_int;have f2:=AutoSeq1.sub_tuple_tuple
  wp_walk using wpAny_loadPart' hl
  refine wpAny_ite_false (decide_eq_false (by rw [hc0]; exact Bool.false_ne_true)) ?_
  wp_walk using wpAny_loadPart' hl
  refine wpAny_ite_false (decide_eq_false hc3) ?_
  wp_walk using wpAny_loadPart' hl
  all_goals try (refine wpAny_ite_false (decide_eq_false (by rw [hc4]; exact Bool.false_ne_true)) ?_)
  have hsz:((List.replicate x.toNat items).foldl (· ++ ·) #[]).size<=sizeLine:=hz
  wp_walk using wpAny_loadPart' hl
  exact ⟨_,rfl,h⟩
theorem yp0:fillsNumberSlot (.type "tuple") "mul" = pure false :=
 PySem.fillsNumberSlot_seq (id := "tuple.__mul__") (r:=some (.builtin "tuple.__rmul__")) F.slot_tuple_mul.lookup [12] F.slot_tuple_rmul.lookup [12]
theorem uo0:seqRepeat? (.type "tuple")=pure (some (.builtin "tuple.__mul__")):=by
 unfold seqRepeat?;rw [PySem.seqSlot_of F.slot_tuple_mul.lookup (T := "tuple") (name := "__mul__") (id := "tuple.__mul__") [12],PySem.seqSlot_of F.slot_tuple_rmul.lookup (T := "tuple") (name := "__rmul__") (id := "tuple.__rmul__") [12]];rfl
theorem sq0 (a:Int) (t:Tok) (l:Addr) (its:Array Value) (n:Nat) (dd:Option Addr) (sl:Array (Option Value)) :
    Meets (Builtin.«int.__rmul__» ⟨[.int a t,.ref l],[]⟩) (λ _ R s=>s.heap.get? l=some ⟨.type "tuple",dd,.seq its n,sl⟩ /\ R (.ok (.ret .notImplemented)) s) :=
 .of_wp λ prog w A R s h=>by
  obtain ⟨hp,g,d,tk,os⟩:=s;obtain ⟨hl,h⟩:=h
  wp_walk using wpAny_loadPart' hl
  exact ⟨_,rfl,h⟩
section
variable {X:Cx}
def th4 (K:Fg):R2:=λ x y H Q=>∃ a k xs,x=.ref a /\ y=.int k /\ SqT K H a xs /\ -(2 ^ 62)<=k /\ k < 2 ^ 62 /\ xs.length * k.toNat<=1000000 /\ (xs=[] \/ k=1->Q (.ref a) H) /\ ∀ p,H p=none->Q (.ref p) (upd H p (.tup (List.replicate k.toNat xs).flatten))
theorem op_repT:OpR X (binaryOp .Mult) (th4 X.K):=by
 intro pins s σ H x y v u Q I rx ry h;obtain ⟨a,k,xs,rfl,rfl,hq,h1,h2,hz,q1,q2⟩:=h;cases rx;obtain ⟨t,rfl⟩:=ry;obtain ⟨its,r,⟨⟨cls,dd,data,sl⟩,ho,hc,n,hd⟩,hl⟩:=I.tuple hq;simp only at hc hd;subst hc hd;have hlen:its.length=xs.length:=r.length.symm
 have c0:(decide (k < -(2 ^ 63)) || decide (k ≥ 2 ^ 63))=false:=by
  rw [decide_eq_false [1],decide_eq_false [1]]; rfl
 refine wpAny_binaryOp_repeat_ref (T := "tuple") (U := "int") [9] ⟨_,ho,rfl⟩ (λ s'=>typeIs_int s' k t) yp0 F.fills_int_mul F.slot_int_rmul uo0 F.slot_int_index.lookup
  (call_meets F.slot_int_rmul (typeIs_int s k t) F.entry_int_rmul (F.args_int_rmul_2 _ _) (sq0 k t a its.toArray n dd sl) ⟨ho,rfl,⟨_,ho,rfl⟩,?_⟩)
 by_cases e1:xs=[] \/ k=1
 ·refine call_meets F.slot_tuple_mul ⟨_,ho,rfl⟩ F.entry_tuple_mul (F.args_tuple_mul_2 _ _) (zf1 a its.toArray n dd sl k t c0 ?_) ⟨ho,⟨.ref a,H,I,rfl,q1 e1⟩⟩;rcases e1 with e1 | e1
  ·subst e1; cases r; rfl
  ·subst e1; simp
 ·have hne:its ≠ []:=λ z=>e1 (.inl (by subst z; cases r; rfl));have hk1:k ≠ 1:=λ z=>e1 (.inr z);have c1:(its.toArray.isEmpty || k == 1)=false:=by simp [hne,hk1]
  have hf:H s.heap.objs.size=none:=I.hok.fresh [26];by_cases e2:k<=0
  ·have hk0:k.toNat=0:=by omega
   refine call_meets F.slot_tuple_mul ⟨_,ho,rfl⟩ F.entry_tuple_mul (F.args_tuple_mul_2 _ _) (yf1 a its.toArray n dd sl k t c0 c1 (by simp [e2])) ⟨ho,?_⟩;refine ⟨.ref _,upd H s.heap.objs.size (.tup []),I.laid (t':=s.toks) (λ b ob q=>Heap.get?_push_of_some _ q) [26] ⟨by rw [sizeLine_eq]; decide,[],.nil,IsTup.new _ _⟩,rfl,?_⟩;have:=q2 _ hf;rw [hk0] at this;exact this
  ·have fr:List.foldl (· ++ ·) #[] (List.replicate k.toNat its.toArray)=(List.replicate k.toNat its).flatten.toArray:=by
     have:=tp0 its k.toNat [];rw [nil_append] at this;exact this
   have hb:(1000000:Nat)<=sizeLine:=by rw [sizeLine_eq]; decide
   have hm:(its.toArray.size:Int) * k<=1000000:=by
    rw [size_toArray,hlen];have:((xs.length * k.toNat:Nat):Int)<=1000000:=by omega
    rw [Int.natCast_mul,Int.toNat_of_nonneg [1]] at this;exact this
   have hsz:(List.replicate k.toNat its).flatten.length<=sizeLine:=by rw [xh1,Nat.mul_comm,hlen]; omega
   refine call_meets F.slot_tuple_mul ⟨_,ho,rfl⟩ F.entry_tuple_mul (F.args_tuple_mul_2 _ _) (xf1 a its.toArray n dd sl k t c0 c1 (by simp [hne]; omega) [1] ?_ (by rw [fr,size_toArray]; exact hsz)) ⟨ho,?_⟩
   ·unfold Builtin.Tuple.tupleTooMany;rw [decide_eq_false [1]]
   ·rw [fr];refine ⟨.ref _,upd H s.heap.objs.size (.tup (List.replicate k.toNat xs).flatten),I.laid (t':=s.toks) (λ b ob q=>Heap.get?_push_of_some _ q) [26] ⟨?_,_,r.rep k.toNat,IsTup.new _ _⟩,rfl,q2 _ hf⟩;rw [xh1,Nat.mul_comm]; omega
theorem uq0:RO X (binaryOp .Mult) mulR:=by
 refine ⟨_,op_mulB.or (op_repT.or uv3),λ x y v u H Q μ Q3 m rx ry h k=>?_⟩;cases ry with
 | int j =>
  cases rx with
  | int i=>exact .inl ⟨i,j,rfl,rfl,h.1,k _ _ _ _ h.2 (Kp.refl _) (.int _) m⟩
  | tup hq rs =>
   rename_i a l vs;refine .inr (.inl ⟨a,j,vs,rfl,rfl,(SqT.of hq),h.1.1.1,h.1.1.2,by rw [<- rs.length]; exact h.1.2,λ e=>?_,λ p hp=>?_⟩)
   ·rcases e with e | e
    ·subst e; cases rs;have h2:=h.2;have e:(List.replicate j.toNat ([]:List D)).flatten=[]:=by simp
     rw [e] at h2;exact k _ _ _ _ h2 (Kp.refl _) (.tup hq .nil) m
    ·subst e;have h2:=h.2;have e:(List.replicate (1:Int).toNat l).flatten=l:=by simp
     rw [e] at h2;exact k _ _ _ _ h2 (Kp.refl _) (.tup hq rs) m
   ·exact k _ _ _ _ h.2 (Kp.new hp) (.tup sd0 ((rs.rep _).mono (Kp.new hp))) (m.newT hp)
  | ref p =>
   dsimp only [mulR] at h;cases e:μ p with
   | none=>rw [e] at h; exact h.elim
   | some oo =>
    cases oo with
    | ins _ _=>rw [e] at h; exact h.elim
    | dcl _=>rw [e] at h; exact h.elim
    | lst l =>
     rw [e] at h;obtain ⟨vs,hv,rv⟩:=m p l e;have hb:(1000000:Nat)<=sizeLine:=by rw [sizeLine_eq]; decide
     refine .inr (.inr ⟨p,j,vs,rfl,rfl,hv,by have:=h.1.1.1; omega,by have:=h.1.1.2; omega,by rw [<- rv.length]; exact Nat.le_trans h.1.2 hb,λ t ht=>?_⟩);exact k _ _ _ _ (h.2 t (m.free ht)) (Kp.new ht) (.ref t) (m.newL ht (rv.rep _))
  | _=>exact False.elim h
 | _=>cases rx <;> exact False.elim h
theorem wt1 {prog:Program} {w:World} {A:Around} {E:[4]} {s:[39]} {t sl:Addr} {items:Array Value} {vl vu:Value} {lo hi:Option Int} {Q:[4]} (ht:IsTup s.heap t items) (hs:s.heap.IsSliceOf sl vl vu .none) (pl:IsPart vl lo) (pu:IsPart vu hi)
    (hw:HT.sIx items.size 0 lo=0 /\ HT.sIx items.size items.size hi=items.size) (h:Q (.ref t) s):wpAny [5] A (getItem (.ref t) (.ref sl)) Q E s:=by
 obtain ⟨os,hos,hcs,hds⟩:=id hs;have hTs:s.TypeIs (.ref sl) "slice" := ⟨os,hos,hcs⟩;unfold getItem
 try with_reducible refine wpAny_holding ?_
 first | refine wpAny_bind [32] | skip
 refine wpAny_bind (wpAny_sequenceKey ht.typeIs [9] ?_);refine wpAny_bind (wpAny_callSpecial?_slot ht.typeIs (name:=Str.ofString "__getitem__") PyProof.Rows.slot_tuple_getitem (wpAny_call_entry PyProof.Rows.slot_tuple_getitem ht.typeIs entry_tuple_getitem ?_ (args_tuple_getitem _ _)));show wpAny _ _ (Builtin.Tuple.tupleItemsOf (.ref t) >>= _) _ _ s;refine wpAny_bind (tupleItemsOf_ ht ?_);refine wpAny_bind (wpAny_typeOf hTs ?_);rw [if_pos [9]];refine wpAny_bind (HT.sliceApplied_gen hs pl pu ?_);rw [hw.1,hw.2];show wpAny _ _ (if ((((0:Nat):Int) == 0 && (1:Int) == 1 && (items.size - 0) == items.size)=true) then _ else _) _ _ s;rw [if_pos [20]];refine wpAny_bind (m:=Builtin.Tuple.tupleIsExact _) (wpAny_bind (wpAny_typeOf ht.typeIs [32]));rw [if_pos [9]];refine wpAny_bind (wpAny_rule ?_)
 first
  | exact wpAny_pure ⟨_,rfl,wpAny_pure h⟩
  | exact wpAny_bind (wpAny_pure (wpAny_pure ⟨_,rfl,wpAny_pure h⟩))
  | exact wpAny_bind (wpAny_bind (wpAny_pure (wpAny_pure (wpAny_pure ⟨_,rfl,wpAny_pure h⟩))))
def rSlA (K:Fg):V->Option Int->Option Int->Hp->VK->Prop:=λ x lo hi H Q=>∃ a xs,x=.ref a /\ SqT K H a xs /\ (cutV xs lo hi=xs->Q (.ref a) H) /\ ∀ p,H p=none->Q (.ref p) (upd H p (.tup (cutV xs lo hi)))
theorem sl_tupA:SlR X (rSlA X.K):=by
 intro pins s σ H x v vl vu lo hi sl Q I rx hs pl pu h;obtain ⟨a,xs,rfl,hx,q1,q2⟩:=h;by_cases hw:HT.sIx xs.length 0 lo=0 /\ HT.sIx xs.length xs.length hi=xs.length
 ·cases rx;obtain ⟨its,r,ht,hz⟩:=I.tuple hx;have hlen:its.toArray.size=xs.length:=by rw [size_toArray]; exact r.length.symm
  have e:cutV xs lo hi=xs:=by unfold cutV; rw [hw.1,hw.2]; simp
  exact ⟨"tuple",_,PyProof.Rows.slot_tuple_getitem.lookup,ht.typeIs,wt1 ht hs pl pu (by rw [hlen]; exact hw) ⟨.ref a,H,I,rfl,q1 e⟩⟩
 ·exact yk3 pins s σ H _ v vl vu lo hi sl Q I rx hs pl pu ⟨a,xs,rfl,hx,hw,q2⟩
theorem zv2:∀ (n d:Nat) (o:Option Int),HT.sIx n d o=sIx3 n d o
 | _,_,none=>rfl
 | _,_,some _=>rfl
theorem RelDs.cut {K:Fg} {H:Hp} {l:List D} {vs:List V} (r:RelDs K H l vs) (lo hi:Option Int):RelDs K H (cut3 l lo hi) (cutV vs lo hi):=by
 unfold cut3 cutV;rw [<- r.length];simp only [zv2];exact (r.drop _).take _
def RdP (K:Fg) (tv:TO) (t:TO3):Prop:=∀ σ H Q ρ μ Q3,RSt K H ρ σ->RelM K μ H->t ρ μ Q3->(∀ o μ' H',Q3 o μ'->Kp H H'->RelM K μ' H'->Q o H')->tv σ H Q
def RP (X:Cx) (e:Option Expr) (t:TO3):Prop:=∃ tv,PO X e tv /\ RdP X.K tv t
theorem uv1:RP X none np3:=⟨_,tx2,λ σ H Q ρ μ Q3 s m h k=>k _ _ _ h (Kp.refl _) m⟩
theorem vv1 {e:Expr} {te:TE3} (h:RE X e te):RP X (some e) (pt3 te):=by
 obtain ⟨tv,p,r⟩:=h;refine ⟨_,ux2 p,λ σ H Q ρ μ Q3 s m h k=>r σ H _ ρ μ _ s m h λ d μ1 v H1 h1 k1 r1 m1=>?_⟩;cases r1 with
 | int i=>exact ⟨i,rfl,k _ _ _ h1 k1 m1⟩
 | _=>exact False.elim h1
def RL (X:Cx) (r3:D->Option Int->Option Int->Mu->VK3->Prop):Prop:=∃ r,SlR X r /\ ∀ x v lo hi H Q μ Q3,RelM X.K μ H->RelD X.K H x v->r3 x lo hi μ Q3->Ks X.K H Q3 Q->r v lo hi H Q
def rSlS:V->Option Int->Option Int->Hp->VK->Prop:=λ x lo hi H Q=>∃ z:Str,x=.str z /\ z.length<=sizeLine /\ Q (.str ⟨(cut3 z.cps.toList lo hi).toArray⟩) H
theorem yj3 (lo hi:Option Int) (n:Nat):Builtin.Str.strSliceIndices lo hi 1 n=sliceRange ((sIx3 n 0 lo:Nat):Int) ((sIx3 n n hi:Nat):Int) 1:=by
 unfold Builtin.Str.strSliceIndices
 have a1:∀ (d:Nat) (v:Option Int),(match v with | none=>((d:Nat):Int) | some i=>(if (1:Int) > 0 then max 0 (min (if i < 0 then i + (n:Int) else i) (n:Int)) else max (-1) (min (if i < 0 then i + (n:Int) else i) ((n:Int) - 1))))=((sIx3 n d v:Nat):Int):=λ d v=>by
  cases v with
  | none=>rfl
  | some i =>
   simp only [sIx3,show (1:Int) > 0 by decide,if_true];by_cases h:i < 0
   ·simp only [h,if_true]; omega
   ·simp only [h,if_false]; omega
 have e1:=a1 0 lo;have e2:=a1 n hi;simp only [show (1:Int) > 0 by decide,if_true] at e1 e2 ⊢;rw [<- e1,<- e2];cases lo <;> cases hi <;> rfl
theorem wk3 (n:Nat) (o:Option Int):sIx3 n n o<=n:=by
 cases o with
 | none=>exact Nat.le_refl _
 | some v =>
  show (if v < 0 then (v + (n:Int)).toNat else min v.toNat n)<=n;split <;> omega
theorem zk3:SlR X rSlS:=by
 intro pins s σ H x v vl vu lo hi sl Q I rx hs pl pu h;obtain ⟨z,rfl,hz,q⟩:=h;obtain ⟨t,rfl⟩:=rx;refine ⟨"str",_,F.slot_str_getitem.lookup,typeIs_str _ _ _,?_⟩
 have hl:∃ l:Option (Int × Tok),partValue l=vl /\ l.map (·.1)=lo:=by
  cases pl with
  | none=>exact ⟨none,rfl,rfl⟩
  | int i t=>exact ⟨some (i,t),rfl,rfl⟩
 have hu:∃ u:Option (Int × Tok),partValue u=vu /\ u.map (·.1)=hi:=by
  cases pu with
  | none=>exact ⟨none,rfl,rfl⟩
  | int i t=>exact ⟨some (i,t),rfl,rfl⟩
 obtain ⟨l,rfl,rfl⟩:=hl;obtain ⟨u,rfl,rfl⟩:=hu;refine wpAny_getItem_str_slice (l:=l) (u:=u) (st:=none) hs rfl ?_
 have e:(slicePicked z l u none).filterMap (z.cps[·]?)=cut3 z.cps.toList (l.map (·.1)) (u.map (·.1)):=by
  unfold slicePicked;show (Builtin.Str.strSliceIndices _ _ 1 z.length).filterMap (z.cps[·]?)=_;rw [yj3,sliceRange_one,pick_run];unfold cut3;rw [length_toList];rfl
 unfold sliceMade;split
 ·next hw =>
  have hlen:(slicePicked z l u none).length=z.length:=by
   rw [Bool.and_eq_true] at hw;simpa using hw.2
  have ez:cut3 z.cps.toList (l.map (·.1)) (u.map (·.1))=z.cps.toList:=by
   have h1:(Builtin.Str.strSliceIndices (l.map (·.1)) (u.map (·.1)) 1 z.length).length=z.length:=hlen;rw [yj3,sliceRange_one,length_map,length_range] at h1;have h2:=wk3 z.length (u.map (·.1));have hs:z.length=z.cps.size:=rfl;unfold cut3;rw [length_toList,<- hs];rcases Nat.eq_zero_or_pos z.length with h0 | h0
   ·have:z.cps.toList=[]:=List.eq_nil_of_length_eq_zero (by rw [length_toList,<- hs]; exact h0);rw [this]; simp
   ·have ha:sIx3 z.length 0 (l.map (·.1))=0:=by omega
    rw [ha,List.drop_zero];exact take_of_length_le (by rw [length_toList,<- hs]; omega)
  rw [ez] at q;exact ⟨.str z,H,I,⟨t,rfl⟩,q⟩
 ·rw [e];refine ⟨?_,.str _,H,I.tok _,⟨_,rfl⟩,q⟩;refine Nat.le_trans ?_ hz;show (cut3 z.cps.toList (l.map (·.1)) (u.map (·.1))).toArray.size<=z.cps.size;rw [size_toArray];unfold cut3;rw [length_take,length_drop,length_toList];omega
theorem q_sl:RL X slR:=by
 refine ⟨_,(sl_tupA.or vu2).or zk3,λ x v lo hi H Q μ Q3 m rx h k=>?_⟩;cases rx with
 | str z=>exact .inr ⟨z,rfl,h.1,k _ _ _ _ h.2 (Kp.refl _) (.str _) m⟩
 | tup hq rs =>
  refine .inl <| .inl ⟨_,_,rfl,(SqT.of hq),λ e=>?_,λ p hp=>k _ _ _ _ h (Kp.new hp) (.tup sd0 ((rs.cut lo hi).mono (Kp.new hp))) (m.newT hp)⟩;refine k _ _ _ _ h (Kp.refl _) (.tup hq ?_) m;have:=rs.cut lo hi;rw [e] at this;exact this
 | fls hq rs=>exact .inl <| .inr ⟨_,_,rfl,hq.l,λ p hp=>k _ _ _ _ (h p (m.free hp)) (Kp.new hp) (.ref p) (m.newL hp (rs.cut lo hi))⟩
 | ref p =>
  dsimp only [slR] at h;cases e:μ p with
  | none=>rw [e] at h; exact h.elim
  | some oo =>
   cases oo with
   | ins _ _=>rw [e] at h; exact h.elim
   | dcl _=>rw [e] at h; exact h.elim
   | lst l =>
    rw [e] at h;obtain ⟨vs,hv,rs⟩:=m p l e;exact .inl <| .inr ⟨p,vs,rfl,SqL.of hv,λ t ht=>k _ _ _ _ (h t (m.free ht)) (Kp.new ht) (.ref t) (m.newL ht (rs.cut lo hi))⟩
 | _=>exact False.elim h
theorem sj1 {e:Expr} {te:TE3} {lo hi:Option Expr} {tl th:TO3} {pos p2:Pos} {r3:D->Option Int->Option Int->Mu->VK3->Prop} (hr:RL X r3) (he:RE X e te) (hl:RP X lo tl) (hu:RP X hi th):RE X (.Subscript e (.Slice lo hi none p2) pos) (sl3 r3 te tl th):=by
 obtain ⟨r,pr,rr⟩:=hr;obtain ⟨va,pa,ra⟩:=he;obtain ⟨vb,pb,rb⟩:=hl;obtain ⟨vc,pc,rc⟩:=hu
 exact ⟨_,uj2 pr pa pb pc,λ σ H Q ρ μ Q3 s m h k=>ra σ H _ ρ μ _ s m h λ x μ1 v H1 h1 k1 r1 m1=>rb σ H1 _ ρ μ1 _ (s.mono k1) m1 h1 λ l μ2 H2 h2 k2 m2=>rc σ H2 _ ρ μ2 _ ((s.mono k1).mono k2) m2 h2 λ u μ3 H3 h3 k3 m3 =>
  rr x v l u H3 Q μ3 Q3 m3 (r1.mono (k2.trans k3)) h3 (k.after (k1.trans (k2.trans k3)))⟩
end
end Pv
namespace Ms
open PySem.W PyProof.Rows
def run (lt:Nat->Nat->Bool) {α:Type}:KasT α->α
 | .ret a=>a
 | .ask i j k=>run lt (k (lt i j))
theorem wj1 (lt:Nat->Nat->Bool) {α β:Type} (f:α->KasT β):∀ t:KasT α,run lt (t.bind f)=run lt (f (run lt t))
 | .ret _=>rfl
 | .ask i j k=>wj1 lt f (k (lt i j))
structure Ord (lt:Nat->Nat->Bool):Prop where
 ir:∀ a,lt a a=false
 tr:∀ a b c,lt a b=true->lt b c=true->lt a c=true
 ng:∀ a b c,lt a c=true->lt a b=true \/ lt b c=true
section
variable {lt:Nat->Nat->Bool} (O:Ord lt)
abbrev at' (p:Array Nat) (i:Nat):Nat:=p.getD i 0
def le (lt:Nat->Nat->Bool) (a b:Nat):Prop:=lt b a=false
include O
theorem le_rf (a:Nat):le lt a a:=O.ir a
theorem le_tr {a b c:Nat} (h:le lt a b) (k:le lt b c):le lt a c:=by
 unfold le at *;cases e:lt c a with
 | false=>rfl
 | true =>
  rcases O.ng c b a e with h1 | h1
  ·rw [k] at h1; cases h1
  ·rw [h] at h1; cases h1
theorem wk4 {a b:Nat} (h:lt a b=true):le lt a b:=by
 unfold le;cases e:lt b a with
 | false=>rfl
 | true=>have:=O.tr a b a h e; rw [O.ir] at this; cases this
omit O
def Up (lt:Nat->Nat->Bool) (p:Array Nat) (n:Nat):Prop:=∀ a b,a<=b->b < n->le lt (at' p a) (at' p b)
theorem sc3 {p q:Array Nat} {i j:Nat} (h:p[i]?=q[j]?):at' p i=at' q j:=by
 show p.getD i 0=q.getD j 0;rw [Array.getD_eq_getD_getElem?,Array.getD_eq_getD_getElem?,h]
theorem vs2 {p:Array Nat} {k l:Nat} (hk:k < p.size) (hl:l<=k) (i:Nat):at' (bubble p k (k - l)) i=if i=l then at' p k else if l < i /\ i<=k then at' p (i - 1) else at' p i:=by
 have h:=getElem?_bubble (xs:=p) hk (k - l) [1] i;rw [show k - (k - l)=l by omega] at h;by_cases c:i=l
 ·rw [if_pos c] at h ⊢; exact sc3 h
 ·rw [if_neg c] at h ⊢;by_cases c2:l < i /\ i<=k
  ·rw [if_pos c2] at h ⊢; exact sc3 h
  ·rw [if_neg c2] at h ⊢; exact sc3 h
include O
theorem yt2 {p:Array Nat} {n:Nat} (h:Up lt p n) (h1:1<=n) (k:le lt (at' p (n - 1)) (at' p n)):Up lt p (n + 1):=λ a b hab hb=>by
 by_cases e:b=n
 ·subst e;by_cases e2:a=b
  ·subst e2; exact le_rf O _
  ·exact le_tr O (h a (b - 1) [1] [1]) k
 ·exact h a b hab [1]
theorem xn1 (p:Array Nat):∀ (f n:Nat),1<=n->Up lt p n->n<=run lt (kas_asc p f n) /\ run lt (kas_asc p f n)<=n + f /\ Up lt p (run lt (kas_asc p f n)) /\ (run lt (kas_asc p f n) < n + f->lt (at' p (run lt (kas_asc p f n))) (at' p (run lt (kas_asc p f n) - 1))=true)
 | 0,n,h1,h=>⟨Nat.le_refl _,Nat.le_refl _,h,λ z=>absurd z (Nat.lt_irrefl _)⟩
 | f + 1,n,h1,h=>by
  cases e:lt (at' p n) (at' p (n - 1)) with
  | true =>
   have r:run lt (kas_asc p (f + 1) n)=n:=by
    show run lt (if lt (at' p n) (at' p (n - 1))=true then .ret n else kas_asc p f (n + 1))=n;rw [e]; rfl
   rw [r];exact ⟨Nat.le_refl _,by omega,h,λ _=>e⟩
  | false =>
   have r:run lt (kas_asc p (f + 1) n)=run lt (kas_asc p f (n + 1)):=by
    show run lt (if lt (at' p n) (at' p (n - 1))=true then .ret n else kas_asc p f (n + 1))=_;rw [e]; rfl
   rw [r];obtain ⟨a1,a2,a3,a4⟩:=xn1 p f (n + 1) [1] (yt2 O h h1 e);exact ⟨by omega,by omega,a3,λ z=>a4 [1]⟩
omit O
include O
omit O
include O
omit O
include O
theorem xx0 {p:Array Nat} {k:Nat} (h:Up lt p k):∀ (f l r:Nat),l<=r->r<=k->r - l<=f->(∀ a,a < l->le lt (at' p a) (at' p k))->(∀ b,r<=b->b < k->lt (at' p k) (at' p b)=true) ->
    run lt (kas_place p k f l r)<=k /\ (∀ a,a < run lt (kas_place p k f l r)->le lt (at' p a) (at' p k)) /\ ∀ b,run lt (kas_place p k f l r)<=b->b < k->lt (at' p k) (at' p b)=true
 | 0,l,r,hlr,hrk,hf,h1,h2=>⟨by show l<=k; omega,h1,λ b hb1 hb2=>h2 b (by have:l<=b:=hb1; omega) hb2⟩
 | f + 1,l,r,hlr,hrk,hf,h1,h2=>by
  by_cases c:l ≥ r
  ·have e:run lt (kas_place p k (f + 1) l r)=l:=by
     show run lt (if l ≥ r then .ret l else _)=l;rw [if_pos c]; rfl
   rw [e];exact ⟨by omega,h1,λ b hb1 hb2=>h2 b [1] hb2⟩
  ·cases e:lt (at' p k) (at' p ((l + r) / 2)) with
   | true =>
    have e2:run lt (kas_place p k (f + 1) l r)=run lt (kas_place p k f l ((l + r) / 2)):=by
     show run lt (if l ≥ r then .ret l else .ask (at' p k) (at' p ((l + r) / 2)) λ c=>if c=true then kas_place p k f l ((l + r) / 2) else kas_place p k f ((l + r) / 2 + 1) r)=_;rw [if_neg c];show run lt (if lt (at' p k) (at' p ((l + r) / 2))=true then _ else _)=_;rw [e,if_pos rfl]
    rw [e2];refine xx0 h f l ((l + r) / 2) [1] [1] [1] h1 λ b hb1 hb2=>?_;have z:=h ((l + r) / 2) b hb1 hb2;rcases O.ng (at' p k) (at' p b) (at' p ((l + r) / 2)) e with y | y
    ·exact y
    ·unfold le at z; rw [z] at y; cases y
   | false =>
    have e2:run lt (kas_place p k (f + 1) l r)=run lt (kas_place p k f ((l + r) / 2 + 1) r):=by
     show run lt (if l ≥ r then .ret l else .ask (at' p k) (at' p ((l + r) / 2)) λ c=>if c=true then kas_place p k f l ((l + r) / 2) else kas_place p k f ((l + r) / 2 + 1) r)=_;rw [if_neg c];show run lt (if lt (at' p k) (at' p ((l + r) / 2))=true then _ else _)=_;rw [e,if_neg [9]]
    rw [e2];exact xx0 h f ((l + r) / 2 + 1) r [1] hrk [1] (λ a ha=>le_tr O (h a ((l + r) / 2) [1] [1]) e) h2
theorem ue2 {p0:Array Nat}:∀ (f:Nat) (p:Array Nat) (k:Nat),p.Perm p0->1<=k->k + f<=p0.size->Up lt p k->(run lt (kas_bin f p k)).Perm p0 /\ Up lt (run lt (kas_bin f p k)) (k + f)
 | 0,p,k,hp,h1,hs,h=>⟨hp,h⟩
 | f + 1,p,k,hp,h1,hs,h=>by
  have hsz:p.size=p0.size:=hp.size_eq
  have e:run lt (kas_bin (f + 1) p k)=run lt (kas_bin f (bubble p k (k - run lt (kas_place p k k 0 k))) (k + 1)):=by
   show run lt ((kas_place p k k 0 k).bind λ l=>kas_bin f (bubble p k (k - l)) (k + 1))=_;rw [wj1]
  rw [e];obtain ⟨b1,b2,b3⟩:=xx0 O h k 0 k [1] [26] [1] (λ a ha=>absurd ha (Nat.not_lt_zero _)) (λ b hb1 hb2=>by omega);generalize run lt (kas_place p k k 0 k)=l at b1 b2 b3
  have u:Up lt (bubble p k (k - l)) (k + 1):=λ a b hab hb=>by
   rw [vs2 [1] b1,vs2 [1] b1];by_cases ca:a=l
   ·rw [if_pos ca];by_cases cb:b=l
    ·rw [if_pos cb]; exact le_rf O _
    ·rw [if_neg cb,if_pos ⟨by omega,by omega⟩]; exact wk4 O (b3 _ [1] [1])
   ·rw [if_neg ca];by_cases cb:b=l
    ·rw [if_pos cb,if_neg [1]]; exact b2 _ [1]
    ·rw [if_neg cb];by_cases ca2:l < a /\ a<=k
     ·rw [if_pos ca2,if_pos ⟨by omega,by omega⟩]; exact h _ _ [1] [1]
     ·rw [if_neg ca2];by_cases cb2:l < b /\ b<=k
      ·rw [if_pos cb2]; exact h _ _ [1] [1]
      ·rw [if_neg cb2]; exact h _ _ [1] [1]
  have z:=ue2 f (bubble p k (k - l)) (k + 1) ((bubble_perm _ _ _).trans hp) [1] [1] u;rw [show k + 1 + f=k + (f + 1) by omega] at z;exact z
end
end Ms
namespace Ts
open PySem PyProof.Rows
def gal:Bool->Keyed->Array Keyed->Nat->Nat->Nat->StateT SortSt Sem [34]:=sortPriv% PySem.Builtin.gallop
section
variable {prog:Program} {w:World} {A:Around} {E:[4]} {s:[39]} {κ:SortKind}
structure Cm (prog:Program) (w:World) (A:Around) (s:Shared) (κ:SortKind) (lt:Keyed->Keyed->Bool) (M:Keyed->Prop):Prop where
 ask:∀ x y,M x->M y->∀ C:Bool->Shared->Prop,C (lt x y) s->wpAny (model prog w) A (keyLt' κ x.1 y.1) C (λ _ _=>False) s
 ir:∀ x,lt x x=false
 tr:∀ x y z,lt x y=true->lt y z=true->lt x z=true
 ng:∀ x y z,lt x z=true->lt x y=true \/ lt y z=true
variable {lt:Keyed->Keyed->Bool} {M:Keyed->Prop}
def le (lt:Keyed->Keyed->Bool) (x y:Keyed):Prop:=lt y x=false
theorem Cm.rf (c:[30]) (x:Keyed):le lt x x:=c.ir x
theorem Cm.lt_le (c:[30]) {x y:Keyed} (h:lt x y=true):le lt x y:=by
 unfold le;cases e:lt y x with
 | false=>rfl
 | true=>have:=c.tr x y x h e; rw [c.ir] at this; cases this
theorem Cm.le_tr (c:[30]) {x y z:Keyed} (h:le lt x y) (k:le lt y z):le lt x z:=by
 unfold le at h k ⊢;cases e:lt z x with
 | false=>rfl
 | true =>
  rcases c.ng z y x e with q | q
  ·rw [k] at q; cases q
  ·rw [h] at q; cases q
structure Ok (κ:SortKind) (st:SortSt):Prop where
 kd:kindOf st=κ
 fl:failedOf st=none
theorem sy1 (c:[30]) {x y:Keyed} {st:SortSt} {Q:Option Bool->SortSt->Prop} (o:Ok κ st) (hx:M x) (hy:M y) (h:Q (some (lt x y)) st):wpS [5] A E s (lt' x y) Q st:=by
 rw [lt'_eq];refine wpS_bind (wpS_get ?_);rw [o.kd];refine wpS_bind (wpS_lift (wpAny_attempt (wpAny_mono (c.ask x y hx hy (λ b s'=>s'=s /\ b=lt x y) ⟨rfl,rfl⟩) (λ b s' hb=>?_) λ _ _ hF=>hF.elim)));obtain ⟨rfl,rfl⟩:=hb;exact ⟨rfl,wpS_pure h⟩
theorem xd0 {arr:Array Keyed} {i:Nat} {x:Keyed} {st:SortSt} {Q:Keyed->SortSt->Prop} (hi:arr[i]?=some x) (h:Q x st):wpS [5] A E s (elem' arr i) Q st:=by
 rw [elem'_eq,hi];exact wpS_pure h
structure By (lt:Keyed->Keyed->Bool) (M:Keyed->Prop) (l:Bool) (key:Keyed) (arr:Array Keyed) (base n:Nat) (B:Nat->Bool):Prop where
 ky:M key
 it:∀ i,i < n->∃ x,arr[base + i]?=some x /\ M x /\ B i=(if l=true then lt x key else !lt key x)
 mono:∀ i j,i<=j->j < n->B j=true->B i=true
theorem By.no {l:Bool} {key:Keyed} {arr:Array Keyed} {base n:Nat} {B:Nat->Bool} (b:By lt M l key arr base n B) {i j:Nat} (h:i<=j) (hj:j < n) (k:B i=false):B j=false:=by
 cases e:B j with
 | false=>rfl
 | true=>have:=b.mono i j h hj e; rw [k] at this; cases this
theorem sm1 (c:[30]) {l:Bool} {key:Keyed} {arr:Array Keyed} {base n:Nat} {B:Nat->Bool} (b:By lt M l key arr base n B) {i:Nat} (hi:i < n) {st:SortSt} {Q:Option Bool->SortSt->Prop} (o:Ok κ st) (h:Q (some (B i)) st) :
    wpS [5] A E s (elem' arr (base + i) >>= λ x=>if l=true then lt' x key else lt' key x >>= λ r=>pure (r.map λ y=>!y)) Q st:=by
 obtain ⟨x,ex,mx,e⟩:=b.it i hi;refine wpS_bind (xd0 ex ?_);cases l with
 | true =>
  rw [if_pos rfl];rw [if_pos rfl] at e;exact sy1 c o mx b.ky (e ▸ h)
 | false =>
  rw [if_neg [20]];rw [if_neg [20]] at e;exact wpS_bind (sy1 c o b.ky mx (wpS_pure (by rw [e] at h; exact h)))
theorem ss0 (c:[30]) {l:Bool} {key:Keyed} {arr:Array Keyed} {base n hint:Nat} {st:SortSt} {Q:Option Nat->SortSt->Prop} {B:Nat->Bool} (o:Ok κ st) (b:By lt M l key arr base n B) (hh:hint < n)
    (h:∀ k,k<=n->(∀ i,i < k->B i=true)->(∀ i,k<=i->i < n->B i=false)->Q (some k) st):wpS [5] A E s (gal l key arr base n hint) Q st:=by
 refine wpS_bind (sm1 c b hh o ?_)
 have tail:∀ lo hi:Nat,lo<=hi->hi<=n->(∀ i,i < lo->B i=true)->(∀ i,hi<=i->i < n->B i=false)->∀ (f:Nat->Option [34] × Nat × Nat->StateT SortSt Sem (ForInStep (Option [34] × Nat × Nat))),
     (∀ x lo hi,lo < hi->hi<=n->f x (none,lo,hi)=((elem' arr (base + (lo + (hi - lo) / 2)) >>= λ x=>if l=true then lt' x key else lt' key x >>= λ r=>pure (r.map λ y=>!y)) >>= λ r=>match r with
      | some true=>pure (.yield (none,lo + (hi - lo) / 2 + 1,hi))
      | some false=>pure (.yield (none,lo,lo + (hi - lo) / 2))
      | none=>pure (.done (some none,lo,hi))))->(∀ x lo hi,¬ lo < hi->f x (none,lo,hi)=pure (.done (none,lo,hi))) ->
     wpS [5] A E s (forIn [0:n] (none,lo,hi) f) (λ r st'=>st'=st /\ r.1=none /\ r.2.2<=n /\ (∀ i,i < r.2.2->B i=true) /\ ∀ i,r.2.2<=i->i < n->B i=false) st:=by
  intro lo hi h1 h2 h3 h4 f f1 f2;refine wpS_forRange (λ x r st'=>st'=st /\ r.1=none /\ r.2.1<=r.2.2 /\ r.2.2<=n /\ r.2.2 - r.2.1<=n - x /\ (∀ i,i < r.2.1->B i=true) /\ ∀ i,r.2.2<=i->i < n->B i=false) ?_ ?_ ⟨rfl,rfl,h1,h2,by show hi - lo<=n - 0; omega,h3,h4⟩
  ·rintro x ⟨r,lo,hi⟩ st' _ hx ⟨rfl,rfl,a1,a2,a3,a4,a5⟩;dsimp only at a1 a2 a3 a4 a5;by_cases z:lo < hi
   ·rw [f1 x lo hi z a2];have hm:lo + (hi - lo) / 2 < n:=by omega
    refine wpS_bind (sm1 c b hm o ?_);cases e:B (lo + (hi - lo) / 2) with
    | true=>exact wpS_pure ⟨rfl,rfl,by show _ + 1<=hi; omega,a2,by show hi - (_ + 1)<=_; omega,λ i hi'=>b.mono i _ (by show i<=_; have:i < _ + 1:=hi'; omega) hm e,a5⟩
    | false=>exact wpS_pure ⟨rfl,rfl,by show lo<=lo + (hi - lo) / 2; omega,by show lo + (hi - lo) / 2<=n; omega,by show lo + (hi - lo) / 2 - lo<=_; omega,a4,λ i h5 h6=>b.no h5 h6 e⟩
   ·rw [f2 x lo hi z];have:lo=hi:=by have:lo<=hi:=a1; omega
    subst this;exact wpS_pure ⟨rfl,rfl,a2,a4,a5⟩
  ·rintro ⟨r,lo,hi⟩ st' ⟨rfl,rfl,a1,a2,a3,a4,a5⟩;have a1':lo<=hi:=a1;have a3':hi - lo<=n - max 0 n:=a3;have:lo=hi:=by omega
   subst this;exact ⟨rfl,rfl,a2,a4,a5⟩
 have fin:∀ lo hi:Nat,lo<=hi->hi<=n->(∀ i,i < lo->B i=true)->(∀ i,hi<=i->i < n->B i=false)->∀ (f:Nat->Option [34] × Nat × Nat->StateT SortSt Sem (ForInStep (Option [34] × Nat × Nat))) (g:Option [34] × Nat × Nat->StateT SortSt Sem [34]),
     (∀ x lo hi,lo < hi->hi<=n->f x (none,lo,hi)=((elem' arr (base + (lo + (hi - lo) / 2)) >>= λ x=>if l=true then lt' x key else lt' key x >>= λ r=>pure (r.map λ y=>!y)) >>= λ r=>match r with
      | some true=>pure (.yield (none,lo + (hi - lo) / 2 + 1,hi))
      | some false=>pure (.yield (none,lo,lo + (hi - lo) / 2))
      | none=>pure (.done (some none,lo,hi))))->(∀ x lo hi,¬ lo < hi->f x (none,lo,hi)=pure (.done (none,lo,hi))) ->
     (∀ lo hi,g (none,lo,hi)=pure (some hi))->wpS [5] A E s (forIn [0:n] (none,lo,hi) f >>= g) Q st:=by
  intro lo hi h1 h2 h3 h4 f g f1 f2 g1;refine wpS_bind (wpS_mono (tail lo hi h1 h2 h3 h4 f f1 f2) ?_);rintro ⟨r,lo,hi⟩ st' ⟨rfl,rfl,a2,a4,a5⟩;rw [g1];exact wpS_pure (h hi a2 a4 a5)
 cases e:B hint with
 | true =>
  refine wpS_bind (wpS_mono (wpS_forRange (λ x (r:Option [34] × Nat × Nat) st'=>st'=st /\ r.1=none /\ r.2.1 < r.2.2 /\ x + 1<=r.2.2 /\ hint + r.2.1 < n /\ B (hint + r.2.1)=true) (Q:=λ (r:Option [34] × Nat × Nat) st'=>st'=st /\ r.1=none /\ r.2.1 < r.2.2 /\ hint + r.2.1 < n /\ B (hint + r.2.1)=true /\ (n - hint<=r.2.2 \/ (hint + r.2.2 < n /\ B (hint + r.2.2)=false))) ?_ ?_ ⟨rfl,rfl,by decide,by decide,hh,e⟩) ?_)
  ·rintro x ⟨r,la,of⟩ st' _ hx ⟨rfl,rfl,a1,a2,a3,a4⟩;dsimp only at a1 a2 a3 a4 ⊢;by_cases z:of ≥ n - hint
   ·rw [if_pos z];exact wpS_pure ⟨rfl,rfl,a1,a3,a4,.inl z⟩
   ·rw [if_neg z];have hm:hint + of < n:=by omega
    refine wpS_bind (sm1 c b hm o ?_);cases e2:B (hint + of) with
    | true=>exact wpS_pure ⟨rfl,rfl,by show of < 2 * of + 1; omega,by show _<=2 * of + 1; omega,hm,e2⟩
    | false=>exact wpS_pure ⟨rfl,rfl,a1,a3,a4,.inr ⟨hm,e2⟩⟩
  ·rintro ⟨r,la,of⟩ st' ⟨rfl,rfl,a1,a2,a3,a4⟩;exact ⟨rfl,rfl,a1,a3,a4,.inl (by have:max 0 n + 1<=of:=a2; show n - hint<=of; omega)⟩
  ·rintro ⟨r,la,of⟩ st' ⟨rfl,rfl,a1,a3,a4,a5⟩;dsimp only at a1 a3 a4 a5 ⊢;refine fin (hint + la + 1) (hint + min of (n - hint)) [1] [1] (λ i hi=>b.mono i _ [1] a3 a4) (λ i h5 h6=>?_) _ _ ?_ ?_ ?_
   ·rcases a5 with z | ⟨z1,z2⟩
    ·omega
    ·exact b.no [1] h6 z2
   ·intro x lo hi z _;dsimp only;rw [if_neg [1]];refine congrArg _ (funext λ r=>?_);rcases r with _ | _ | _ <;> rfl
   ·intro x lo hi z;dsimp only;rw [if_pos [1]]
   ·intro lo hi; rfl
 | false =>
  refine wpS_bind (wpS_mono (wpS_forRange (λ x (r:Option [34] × Nat × Nat) st'=>st'=st /\ r.1=none /\ r.2.1 < r.2.2 /\ x + 1<=r.2.2 /\ r.2.1<=hint /\ B (hint - r.2.1)=false) (Q:=λ (r:Option [34] × Nat × Nat) st'=>st'=st /\ r.1=none /\ r.2.1 < r.2.2 /\ r.2.1<=hint /\ B (hint - r.2.1)=false /\ (hint + 1<=r.2.2 \/ (r.2.2<=hint /\ B (hint - r.2.2)=true))) ?_ ?_ ⟨rfl,rfl,by decide,by decide,Nat.zero_le _,e⟩) ?_)
  ·rintro x ⟨r,la,of⟩ st' _ hx ⟨rfl,rfl,a1,a2,a3,a4⟩;dsimp only at a1 a2 a3 a4 ⊢;by_cases z:of ≥ hint + 1
   ·rw [if_pos z];exact wpS_pure ⟨rfl,rfl,a1,a3,a4,.inl z⟩
   ·rw [if_neg z];have hm:hint - of < n:=by omega
    refine wpS_bind (sm1 c b hm o ?_);cases e2:B (hint - of) with
    | false=>exact wpS_pure ⟨rfl,rfl,by show of < 2 * of + 1; omega,by show _<=2 * of + 1; omega,by show of<=hint; omega,e2⟩
    | true=>exact wpS_pure ⟨rfl,rfl,a1,a3,a4,.inr ⟨by show of<=hint; omega,e2⟩⟩
  ·rintro ⟨r,la,of⟩ st' ⟨rfl,rfl,a1,a2,a3,a4⟩;exact ⟨rfl,rfl,a1,a3,a4,.inl (by have:max 0 n + 1<=of:=a2; show hint + 1<=of; omega)⟩
  ·rintro ⟨r,la,of⟩ st' ⟨rfl,rfl,a1,a3,a4,a5⟩;dsimp only at a1 a3 a4 a5 ⊢;refine fin (hint + 1 - min of (hint + 1)) (hint - la) [1] [1] (λ i hi=>?_) (λ i h5 h6=>b.no h5 h6 a4) _ _ ?_ ?_ ?_
   ·rcases a5 with z | ⟨z1,z2⟩
    ·omega
    ·exact b.mono i _ [1] [1] z2
   ·intro x lo hi z _;dsimp only;rw [if_neg [1]];refine congrArg _ (funext λ r=>?_);rcases r with _ | _ | _ <;> rfl
   ·intro x lo hi z;dsimp only;rw [if_pos [1]]
   ·intro lo hi; rfl
end
def mlo:Array Keyed->Array Keyed->StateT SortSt Sem (Array Keyed):=sortPriv% PySem.Builtin.mergeLo
abbrev GR:=Option (Array Keyed) × Array Keyed × Nat × Nat × Nat × Nat × Nat
def galC (a b:Array Keyed) (k1 k:Nat) (u:Array Keyed) (i j g:Nat):StateT SortSt Sem (ForInStep GR) :=
 let nx:Array Keyed->Nat->StateT SortSt Sem (ForInStep GR):=λ u j=>elem' a i >>= λ v =>
  if (i + 1 + 1 == a.size)=true then pure (.done (some (u.push v ++ b.extract j b.size ++ a.extract (i + 1) a.size),u.push v,i + 1,j,g,k1,k))
  else if (decide (k1 < 7) && decide (k < 7))=true then pure (.done (none,u.push v,i + 1,j,g,k1,k)) else pure (.yield (none,u.push v,i + 1,j,g,k1,k))
 if k > 0 then (if (j + k == b.size)=true then pure (.done (some (u ++ b.extract j (j + k) ++ a.extract i a.size ++ b.extract (j + k) b.size),u ++ b.extract j (j + k),i,j + k,g,k1,k)) else nx (u ++ b.extract j (j + k)) (j + k)) else nx u j
theorem ug0 {α:Type} {l:List α} {i:Nat} {x:α} (h:l[i]?=some x):l.drop i=x :: l.drop (i + 1):=by
 obtain ⟨h1,h2⟩:=List.getElem?_eq_some_iff.mp h;rw [List.drop_eq_getElem_cons h1,h2]
section
variable {lt:Keyed->Keyed->Bool}
structure MI (lt:Keyed->Keyed->Bool) (la lb out:List Keyed) (ia ib:Nat):Prop where
 so:out.Pairwise (le lt)
 xa:∀ x ∈ out,∀ y ∈ la.drop ia,le lt x y
 xb:∀ x ∈ out,∀ y ∈ lb.drop ib,le lt x y
 pm:(out ++ (la.drop ia ++ lb.drop ib)).Perm (la ++ lb)
def Fin (lt:Keyed->Keyed->Bool) (la lb r:[37]):Prop:=r.Perm (la ++ lb) /\ r.Pairwise (le lt)
theorem sf1 {l:[37]} (h:l.Pairwise (le lt)) {i:Nat} {x:Keyed} (e:l[i]?=some x):∀ y ∈ l.drop (i + 1),le lt x y:=by
 have h2:(l.drop i).Pairwise (le lt):=h.sublist (drop_sublist i l);rw [ug0 e] at h2;exact (List.pairwise_cons.mp h2).1
theorem MI.a {la lb out:[37]} {ia ib:Nat} {x:Keyed} (m:MI lt la lb out ia ib) (sa:la.Pairwise (le lt)) (e:la[ia]?=some x) (k:∀ y ∈ lb.drop ib,le lt x y):MI lt la lb (out ++ [x]) (ia + 1) ib:=by
 have d:=ug0 e;refine ⟨List.pairwise_append.mpr ⟨m.so,pairwise_singleton _ _,λ z hz y hy=>?_⟩,λ z hz y hy=>?_,λ z hz y hy=>?_,?_⟩
 ·rw [mem_singleton] at hy; subst hy;exact m.xa z hz y (by rw [d]; exact .head _)
 ·rcases List.mem_append.mp hz with hz | hz
  ·exact m.xa z hz y (by rw [d]; exact .tail _ hy)
  ·rw [mem_singleton] at hz; subst hz;exact sf1 sa e y hy
 ·rcases List.mem_append.mp hz with hz | hz
  ·exact m.xb z hz y hy
  ·rw [mem_singleton] at hz; subst hz;exact k y hy
 ·have p:=m.pm;rw [d] at p;rw [append_assoc];exact p
theorem MI.b {la lb out:[37]} {ia ib:Nat} {x:Keyed} (m:MI lt la lb out ia ib) (sb:lb.Pairwise (le lt)) (e:lb[ib]?=some x) (k:∀ y ∈ la.drop ia,le lt x y):MI lt la lb (out ++ [x]) ia (ib + 1):=by
 have d:=ug0 e;refine ⟨List.pairwise_append.mpr ⟨m.so,pairwise_singleton _ _,λ z hz y hy=>?_⟩,λ z hz y hy=>?_,λ z hz y hy=>?_,?_⟩
 ·rw [mem_singleton] at hy; subst hy;exact m.xb z hz y (by rw [d]; exact .head _)
 ·rcases List.mem_append.mp hz with hz | hz
  ·exact m.xa z hz y hy
  ·rw [mem_singleton] at hz; subst hz;exact k y hy
 ·rcases List.mem_append.mp hz with hz | hz
  ·exact m.xb z hz y (by rw [d]; exact .tail _ hy)
  ·rw [mem_singleton] at hz; subst hz;exact sf1 sb e y hy
 ·have p:=m.pm;rw [d] at p;rw [append_assoc];refine .trans (List.Perm.append_left _ ?_) p;show (x :: (la.drop ia ++ lb.drop (ib + 1))).Perm _;exact List.perm_middle.symm
theorem sz0 {α:Type} {l:List α} {i k:Nat} {x:α} (e:l[i + k]?=some x):(l.drop i).take (k + 1)=(l.drop i).take k ++ [x]:=by
 rw [List.take_succ,getElem?_drop,e]; rfl
theorem MI.as {la lb out:[37]} {ia ib:Nat} (m:MI lt la lb out ia ib) (sa:la.Pairwise (le lt)):∀ k,ia + k<=la.length->(∀ i x,i < k->la[ia + i]?=some x->∀ y ∈ lb.drop ib,le lt x y)->MI lt la lb (out ++ (la.drop ia).take k) (ia + k) ib
 | 0,_,_=>by rw [take_zero,append_nil]; exact m
 | k + 1,h,q=>by
  have e:la[ia + k]?=some la[ia + k]:=getElem?_eq_getElem [1];rw [sz0 e,<- append_assoc];exact (m.as sa k [1] λ i x hi=>q i x [1]).a sa e (q k _ [1] e)
theorem MI.bs {la lb out:[37]} {ia ib:Nat} (m:MI lt la lb out ia ib) (sb:lb.Pairwise (le lt)):∀ k,ib + k<=lb.length->(∀ i x,i < k->lb[ib + i]?=some x->∀ y ∈ la.drop ia,le lt x y)->MI lt la lb (out ++ (lb.drop ib).take k) ia (ib + k)
 | 0,_,_=>by rw [take_zero,append_nil]; exact m
 | k + 1,h,q=>by
  have e:lb[ib + k]?=some lb[ib + k]:=getElem?_eq_getElem [1];rw [sz0 e,<- append_assoc];exact (m.bs sb k [1] λ i x hi=>q i x [1]).b sb e (q k _ [1] e)
theorem MI.endB {la lb out:[37]} {ia ib:Nat} (m:MI lt la lb out ia ib) (sa:la.Pairwise (le lt)) (h:lb.length<=ib):Fin lt la lb (out ++ la.drop ia ++ lb.drop ib):=by
 have e:lb.drop ib=[]:=drop_eq_nil_of_le h;have p:=m.pm;rw [e] at p ⊢;rw [append_nil] at p ⊢;exact ⟨p,List.pairwise_append.mpr ⟨m.so,sa.sublist (drop_sublist _ _),m.xa⟩⟩
theorem MI.endA {la lb out:[37]} {ia ib:Nat} (m:MI lt la lb out ia ib) (sb:lb.Pairwise (le lt)) (h:la.length<=ia):Fin lt la lb (out ++ la.drop ia ++ lb.drop ib):=by
 have e:la.drop ia=[]:=drop_eq_nil_of_le h;have p:=m.pm;rw [e] at p ⊢;rw [append_nil];exact ⟨p,List.pairwise_append.mpr ⟨m.so,sb.sublist (drop_sublist _ _),m.xb⟩⟩
theorem MI.last {la lb out:[37]} {ia ib:Nat} (m:MI lt la lb out ia ib) (sb:lb.Pairwise (le lt)) (h:ia + 1=la.length) (k:∀ x,la[la.length - 1]?=some x->∀ y ∈ lb,le lt y x):Fin lt la lb (out ++ lb.drop ib ++ la.drop ia):=by
 have e:la[ia]?=some la[ia]:=getElem?_eq_getElem [1];have d:=ug0 e;have e2:la.drop (ia + 1)=[]:=drop_eq_nil_of_le [1];rw [e2] at d;refine ⟨?_,?_⟩
 ·refine .trans ?_ m.pm;rw [append_assoc];exact List.Perm.append_left _ List.perm_append_comm
 ·rw [append_assoc];refine List.pairwise_append.mpr ⟨m.so,List.pairwise_append.mpr ⟨sb.sublist (drop_sublist _ _),?_,λ x hx y hy=>?_⟩,λ x hx y hy=>?_⟩
  ·rw [d]; exact pairwise_singleton _ _
  ·rw [d,mem_singleton] at hy;subst hy;exact k _ (by rw [show la.length - 1=ia by omega]; exact e) x (mem_of_mem_drop hx)
  ·rcases List.mem_append.mp hy with hy | hy
   ·exact m.xb x hx y hy
   ·exact m.xa x hx y hy
def Mid (lt:Keyed->Keyed->Bool) (la lb:[37]) (n:Nat) (r:Option (Array Keyed)) (out:Array Keyed) (ia ib:Nat):Prop:=match r with
 | some z=>Fin lt la lb z.toList
 | none=>MI lt la lb out.toList ia ib /\ ia + 1 < la.length /\ ib < lb.length /\ n<=ia + ib
end
structure Same (κ:SortKind) (st0 st:SortSt):Prop where
 ok:Ok κ st
 ar:arrOf st=arrOf st0
 pe:pendingOf st=pendingOf st0
theorem wg0 (a:Array Keyed) (i:Nat):(a.extract i a.size).toList=a.toList.drop i:=by
 rw [toList_extract];simp only [List.extract];exact take_of_length_le (by rw [length_drop,length_toList]; omega)
theorem vb3 (a:Array Keyed) (i k:Nat):(a.extract i (i + k)).toList=(a.toList.drop i).take k:=by
 rw [toList_extract];simp [List.extract]
section
variable {prog:Program} {w:World} {A:Around} {E:[4]} {s:[39]} {κ:SortKind}
variable {lt:Keyed->Keyed->Bool} {M:Keyed->Prop}
theorem ud0 {a:Array Keyed} {i:Nat} (h:i < a.toList.length):∃ x,a[i]?=some x /\ a.toList[i]?=some x /\ x ∈ a.toList:=by
 refine ⟨a.toList[i],?_,getElem?_eq_getElem h,getElem_mem h⟩;rw [<- getElem?_toList,getElem?_eq_getElem h]
theorem getD_some {l:[37]} {i:Nat} {x d:Keyed} (h:l[i]?=some x):l.getD i d=x:=by rw [getD_eq_getElem?_getD,h]; rfl
theorem wl0 {l:[37]} (h:l.Pairwise (le lt)) {i j:Nat} {x y:Keyed} (hij:i < j) (ex:l[i]?=some x) (ey:l[j]?=some y):le lt x y:=by
 obtain ⟨h1,rfl⟩:=List.getElem?_eq_some_iff.mp ex;obtain ⟨h2,rfl⟩:=List.getElem?_eq_some_iff.mp ey;exact List.pairwise_iff_getElem.mp h i j h1 h2 hij
theorem byF (c:[30]) {a:Array Keyed} (ma:∀ x ∈ a.toList,M x) {key:Keyed} {ia n:Nat} (hn:ia + n<=a.size) (mk:M key) (sa:a.toList.Pairwise (le lt)):By lt M false key a ia n (λ i=>!lt key (a.toList.getD (ia + i) key)) where
 ky:=mk
 it:=λ i hi=>by
  obtain ⟨x,e1,e2,e3⟩:=ud0 (a:=a) (i:=ia + i) (by rw [length_toList]; omega);exact ⟨x,e1,ma x e3,by rw [getD_some e2,if_neg [20]]⟩
 mono:=λ i j hij hj h=>by
  by_cases z:i=j
  ·subst z; exact h
  obtain ⟨x,_,e2,_⟩:=ud0 (a:=a) (i:=ia + i) (by rw [length_toList]; omega);obtain ⟨y,_,e5,_⟩:=ud0 (a:=a) (i:=ia + j) (by rw [length_toList]; omega);have l:=wl0 sa (show ia + i < ia + j by omega) e2 e5;rw [getD_some e5] at h;rw [getD_some e2];have h':le lt y key:=(by simpa using h:lt key y=false);have q:lt key x=false:=c.le_tr l h';simpa using q
theorem byT (c:[30]) {a:Array Keyed} (ma:∀ x ∈ a.toList,M x) {key:Keyed} {ia n:Nat} (hn:ia + n<=a.size) (mk:M key) (sa:a.toList.Pairwise (le lt)):By lt M true key a ia n (λ i=>lt (a.toList.getD (ia + i) key) key) where
 ky:=mk
 it:=λ i hi=>by
  obtain ⟨x,e1,e2,e3⟩:=ud0 (a:=a) (i:=ia + i) (by rw [length_toList]; omega);exact ⟨x,e1,ma x e3,by rw [getD_some e2,if_pos rfl]⟩
 mono:=λ i j hij hj h=>by
  by_cases z:i=j
  ·subst z; exact h
  obtain ⟨x,_,e2,_⟩:=ud0 (a:=a) (i:=ia + i) (by rw [length_toList]; omega);obtain ⟨y,_,e5,_⟩:=ud0 (a:=a) (i:=ia + j) (by rw [length_toList]; omega);have l:=wl0 sa (show ia + i < ia + j by omega) e2 e5;rw [getD_some e5] at h;rw [getD_some e2];rcases c.ng y x key h with q | q
  ·rw [show lt y x=false from l] at q; cases q
  ·exact q
def Pst (κ:SortKind) (lt:Keyed->Keyed->Bool) (a b:Array Keyed) (st:SortSt) (x:Nat):ForInStep GR->SortSt->Prop:=λ r st'=>match r with
 | .done c'=>Same κ st st' /\ Mid lt a.toList b.toList (x + 2) c'.1 c'.2.1 c'.2.2.1 c'.2.2.2.1
 | .yield c'=>Same κ st st' /\ c'.1=none /\ Mid lt a.toList b.toList (x + 2) none c'.2.1 c'.2.2.1 c'.2.2.2.1
theorem xo2 {α:Type} {Md:Model} {A:Around} {E:[4]} {s:[39]} {C:Nat->Prop} [I:∀ g,Decidable (C g)] {t e:Nat->StateT SortSt Sem α} {Q:α->SortSt->Prop} {st:SortSt} (ht:∀ g,t g=e (g - 1)) (h:∀ g,wpS Md A E s (e g) Q st) (g:Nat):wpS Md A E s (@ite _ (C g) (I g) (t g) (e g)) Q st:=by
 by_cases q:C g
 ·rw [if_pos q,ht]; exact h _
 ·rw [if_neg q]; exact h _
theorem yx3 (c:[30]) {a b:Array Keyed} {st:SortSt} {Q:Array Keyed->SortSt->Prop} (o:Ok κ st) (ma:∀ x ∈ a.toList,M x) (mb:∀ x ∈ b.toList,M x) (sa:a.toList.Pairwise (le lt)) (sb:b.toList.Pairwise (le lt))
    (na:0 < a.toList.length) (nb:0 < b.toList.length) (h0:∀ x y,b.toList[0]?=some x->a.toList[0]?=some y->le lt x y) (hl:∀ x,a.toList[a.toList.length - 1]?=some x->∀ y ∈ b.toList,le lt y x)
    (h:∀ r st',Same κ st st'->Fin lt a.toList b.toList r.toList->Q r st'):wpS [5] A E s (mlo a b) Q st:=by
 refine wpS_bind (wpS_lift (wpAny_rule ⟨rfl,?_⟩));obtain ⟨b0,eb,eb',hb0⟩:=ud0 (a:=b) nb;refine wpS_bind (xd0 eb ?_);dsimp only;obtain ⟨a0,ea,ea',ha0⟩:=ud0 (a:=a) na
 have dn:∀ {l:[37]} {x:Keyed} {i:Nat},l.Pairwise (le lt)->l[i]?=some x->∀ z,le lt z x->∀ y ∈ l.drop i,le lt z y:=by
  intro l x i sl e z hz y hy;rw [ug0 e] at hy;rcases List.mem_cons.mp hy with rfl | hy
  ·exact hz
  ·exact c.le_tr hz (sf1 sl e y hy)
 have m0:MI lt a.toList b.toList #[b0].toList 0 1:=by
  have m:MI lt a.toList b.toList [] 0 0:=⟨List.Pairwise.nil,λ _ h=>(nomatch h),λ _ h=>(nomatch h),.refl _⟩;exact m.b sb eb' (dn sa ea' b0 (h0 _ _ eb' ea'))
 have doneB:∀ {out:Array Keyed} {ia ib:Nat},MI lt a.toList b.toList out.toList ia ib->b.size<=ib->Fin lt a.toList b.toList (out ++ a.extract ia a.size ++ b.extract ib b.size).toList:=by
  intro out ia ib m hi;rw [toList_append,toList_append,wg0,wg0];exact m.endB sa hi
 have doneA:∀ {out:Array Keyed} {ia ib:Nat},MI lt a.toList b.toList out.toList ia ib->a.size<=ia->Fin lt a.toList b.toList (out ++ a.extract ia a.size ++ b.extract ib b.size).toList:=by
  intro out ia ib m hi;rw [toList_append,toList_append,wg0,wg0];exact m.endA sb hi
 have lastA:∀ {out:Array Keyed} {ia ib:Nat},MI lt a.toList b.toList out.toList ia ib->ia + 1=a.size->Fin lt a.toList b.toList (out ++ b.extract ib b.size ++ a.extract ia a.size).toList:=by
  intro out ia ib m hi;rw [toList_append,toList_append,wg0,wg0];exact m.last sb hi hl
 have sza:a.toList.length=a.size:=length_toList;have szb:b.toList.length=b.size:=length_toList
 have nxA:∀ (x k1 k2 g:Nat) (out:Array Keyed) (i j:Nat) (st3:SortSt),Same κ st st3->MI lt a.toList b.toList out.toList i j->i + 1 < a.size->j < b.size->x + 2<=i + j + 1->(∀ v,a.toList[i]?=some v->∀ y ∈ b.toList.drop j,le lt v y) ->
     wpS [5] A E s (elem' a i >>= λ v=>if (i + 1 + 1 == a.size)=true then pure (.done (some (out.push v ++ b.extract j b.size ++ a.extract (i + 1) a.size),out.push v,i + 1,j,g,k1,k2))
      else if (decide (k1 < 7) && decide (k2 < 7))=true then pure (.done (none,out.push v,i + 1,j,g,k1,k2)) else pure (.yield (none,out.push v,i + 1,j,g,k1,k2))) (Pst κ lt a b st x) st3:=by
  intro x k1 k2 g out i j st3 s3 m h1 h2 h3 hle;obtain ⟨va,e4,e5,e6⟩:=ud0 (a:=a) (i:=i) [1];refine wpS_bind (xd0 e4 ?_);have m':=m.a sa e5 (hle va e5);rw [<- toList_push] at m';by_cases z:(i + 1 + 1 == a.size)=true
  ·rw [if_pos z];exact wpS_pure ⟨s3,lastA m' (eq_of_beq z)⟩
  ·rw [if_neg z];have z':i + 1 + 1 ≠ a.size:=λ e=>z (beq_iff_eq.mpr e);by_cases y1:(decide (k1 < 7) && decide (k2 < 7))=true
   ·rw [if_pos y1];exact wpS_pure ⟨s3,m',by show i + 1 + 1 < _; omega,by show j < _; omega,by show _<=i + 1 + j; omega⟩
   ·rw [if_neg y1];exact wpS_pure ⟨s3,rfl,m',by show i + 1 + 1 < _; omega,by show j < _; omega,by show _<=i + 1 + j; omega⟩
 have nxB:∀ (x k bc g:Nat) (out:Array Keyed) {i j:Nat} {st3:SortSt} {vb:Keyed},Same κ st st3->MI lt a.toList b.toList out.toList i j->i + 1 < a.size->j < b.toList.length->x + 2<=i + j->b[j]?=some vb->b.toList[j]?=some vb->(∀ y ∈ a.toList.drop i,le lt vb y) ->
     ∀ (G:Keyed->Keyed->Option Nat->StateT SortSt Sem (ForInStep GR)),(∀ v y k2,G v y (some k2)=galC a b k k2 (out.push v) i (j + 1) g) ->
     wpS [5] A E s (elem' b j >>= λ v=>if (j + 1 == b.size)=true then pure (.done (some (out.push v ++ a.extract i a.size ++ b.extract (j + 1) b.size),out.push v,i,j + 1,g,k,bc))
      else elem' a i >>= λ y=>gal true y b (j + 1) (b.size - (j + 1)) 0 >>= G v y) (Pst κ lt a b st x) st3:=by
  intro x k bc g out i j st3 vb s3 m h1 h2 h3 e1 e2 lo G hG;refine wpS_bind (xd0 e1 ?_);have m':=m.b sb e2 lo;rw [<- toList_push] at m';by_cases z:(j + 1 == b.size)=true
  ·rw [if_pos z];exact wpS_pure ⟨s3,doneB m' (Nat.le_of_eq (eq_of_beq z).symm)⟩
  ·rw [if_neg z];have z':j + 1 ≠ b.size:=λ e=>z (beq_iff_eq.mpr e);obtain ⟨va,e4,e5,e6⟩:=ud0 (a:=a) (i:=i) [1];refine wpS_bind (xd0 e4 ?_);refine wpS_bind (ss0 c s3.ok (byT c mb [1] (ma _ e6) sb) [1] λ k2 q1 q2 q3=>?_);rw [hG];unfold galC;dsimp only
   have mk:=m'.bs sb k2 [1] λ i y hi ey=>dn sa e5 y (by
    have q:=q2 i hi;rw [getD_some ey] at q;exact c.lt_le q)
   have lo2:∀ v,a.toList[i]?=some v->∀ y ∈ b.toList.drop (j + 1 + k2),le lt v y:=by
    intro v ev y hy;rw [e5] at ev;cases ev;obtain ⟨n,hn,ey⟩:=List.mem_drop_iff_getElem.mp hy;have q:=q3 (k2 + n) [1] [1];rw [getD_some (x:=y) (by rw [show j + 1 + (k2 + n)=j + 1 + k2 + n by omega,getElem?_eq_getElem [1]]; exact congrArg some ey)] at q;exact q
   by_cases kp:k2 > 0
   ·rw [if_pos kp];rw [<- vb3,<- toList_append] at mk;by_cases zz:(j + 1 + k2 == b.size)=true
    ·rw [if_pos zz];exact wpS_pure ⟨s3,doneB mk (Nat.le_of_eq (eq_of_beq zz).symm)⟩
    ·rw [if_neg zz];have zz':j + 1 + k2 ≠ b.size:=λ e=>zz (beq_iff_eq.mpr e);exact nxA x _ _ _ _ _ _ _ s3 mk h1 [1] [1] lo2
   ·rw [if_neg kp];have k0:k2=0:=by omega
    subst k0;exact nxA x _ _ _ _ _ _ _ s3 m' h1 [1] [1] lo2
 by_cases z1:(1 == b.size)=true
 ·rw [if_pos z1];exact wpS_pure (h _ _ ⟨o,rfl,rfl⟩ (doneB m0 (by have:=eq_of_beq z1; omega)))
 rw [if_neg z1];by_cases z2:(0 + 1 == a.size)=true
 ·rw [if_pos z2];exact wpS_pure (h _ _ ⟨o,rfl,rfl⟩ (lastA m0 (eq_of_beq z2)))
 rw [if_neg z2];have n1:b.size ≠ 1:=λ e=>z1 (beq_iff_eq.mpr e.symm);have n2:a.size ≠ 1:=λ e=>z2 (beq_iff_eq.mpr e.symm);refine wpS_bind (wpS_get ?_)
 refine wpS_bind (wpS_mono (wpS_forRange (λ x (r:Option (Array Keyed) × Array Keyed × Nat × Nat × Nat) st'=>Same κ st st' /\ r.1=none /\ Mid lt a.toList b.toList (x + 1) none r.2.1 r.2.2.1 r.2.2.2.1)
  (Q:=λ (r:Option (Array Keyed) × Array Keyed × Nat × Nat × Nat) st'=>Same κ st st' /\ ∃ z,r.1=some z /\ Fin lt a.toList b.toList z.toList) ?_ ?_ ⟨⟨o,rfl,rfl⟩,rfl,m0,by show 0 + 1 < _; omega,by show 1 < _; omega,Nat.le_refl 1⟩) ?_)
 ·rintro x ⟨r,out,ia,ib,mg⟩ st1 _ hx ⟨s1,rfl,mi⟩;dsimp only at mi ⊢
  refine wpS_bind (wpS_mono (wpS_forRange (λ y (r:Option (Array Keyed) × Array Keyed × Nat × Nat × Nat × Nat) st'=>Same κ st st' /\ r.1=none /\ Mid lt a.toList b.toList (x + 1 + y) none r.2.1 r.2.2.1 r.2.2.2.1)
   (Q:=λ (r:Option (Array Keyed) × Array Keyed × Nat × Nat × Nat × Nat) st'=>Same κ st st' /\ Mid lt a.toList b.toList (x + 2) r.1 r.2.1 r.2.2.1 r.2.2.2.1) ?_ ?_ ⟨s1,rfl,mi⟩) ?_)
  ·rintro y ⟨r,out,ia,ib,ac,bc⟩ st2 _ hy ⟨s2,rfl,m,i1,i2,i3⟩;dsimp only at m i1 i2 i3 ⊢;obtain ⟨vb,e1,e2,e3⟩:=ud0 (a:=b) i2;obtain ⟨va,e4,e5,e6⟩:=ud0 (a:=a) (i:=ia) [1];refine wpS_bind (xd0 e1 (wpS_bind (xd0 e4 (wpS_bind (sy1 c s2.ok (mb _ e3) (ma _ e6) ?_)))));cases q:lt vb va with
   | true =>
    dsimp only;rw [if_pos rfl];refine wpS_bind (xd0 e1 ?_);have m':=m.b sb e2 (dn sa e5 vb (c.lt_le q));rw [<- toList_push] at m';by_cases z:(ib + 1 == b.size)=true
    ·rw [if_pos z];exact wpS_pure ⟨s2,doneB m' (Nat.le_of_eq (eq_of_beq z).symm)⟩
    ·rw [if_neg z];have z':ib + 1 ≠ b.size:=λ e=>z (beq_iff_eq.mpr e);by_cases y1:bc + 1 ≥ mg
     ·rw [if_pos y1];exact wpS_pure ⟨s2,m',i1,by show ib + 1 < _; omega,by show _<=ia + (ib + 1); omega⟩
     ·rw [if_neg y1];exact wpS_pure ⟨s2,rfl,m',i1,by show ib + 1 < _; omega,by show _<=ia + (ib + 1); omega⟩
   | false =>
    dsimp only;rw [if_neg [20]];refine wpS_bind (xd0 e4 ?_);have m':=m.a sa e5 (dn sb e2 va q);rw [<- toList_push] at m';by_cases z:(ia + 1 + 1 == a.size)=true
    ·rw [if_pos z];exact wpS_pure ⟨s2,lastA m' (eq_of_beq z)⟩
    ·rw [if_neg z];have z':ia + 1 + 1 ≠ a.size:=λ e=>z (beq_iff_eq.mpr e);by_cases y1:ac + 1 ≥ mg
     ·rw [if_pos y1];exact wpS_pure ⟨s2,m',by show ia + 1 + 1 < _; omega,i2,by show _<=ia + 1 + ib; omega⟩
     ·rw [if_neg y1];exact wpS_pure ⟨s2,rfl,m',by show ia + 1 + 1 < _; omega,i2,by show _<=ia + 1 + ib; omega⟩
  ·rintro ⟨r,out,ia,ib,ac,bc⟩ st2 ⟨s2,rfl,m,i1,i2,i3⟩;exact ⟨s2,m,i1,i2,by omega⟩
  ·rintro ⟨r,out,ia,ib,ac,bc⟩ st2 ⟨s2,mm⟩;dsimp only at mm ⊢;cases r with
   | some z=>exact wpS_pure ⟨s2,z,rfl,mm⟩
   | none =>
    dsimp only;refine wpS_bind (wpS_lift (wpAny_rule ⟨rfl,?_⟩))
    refine wpS_bind (wpS_mono (wpS_forRange (λ y (r:Option (Array Keyed) × Array Keyed × Nat × Nat × Nat × Nat × Nat) st'=>Same κ st st' /\ r.1=none /\ Mid lt a.toList b.toList (x + 2) none r.2.1 r.2.2.1 r.2.2.2.1)
     (Q:=λ (r:Option (Array Keyed) × Array Keyed × Nat × Nat × Nat × Nat × Nat) st'=>Same κ st st' /\ Mid lt a.toList b.toList (x + 2) r.1 r.2.1 r.2.2.1 r.2.2.2.1) ?_ ?_ ⟨s2,rfl,mm⟩) ?_)
    ·rintro y ⟨r,out,ia,ib,mg,ac,bc⟩ st3 _ hy ⟨s3,rfl,m,i1,i2,i3⟩;dsimp only at m i1 i2 i3 ⊢;have s3':∀ g:Nat,Same κ st (SortSt.mk' (kindOf st3) (arrOf st3) (pendingOf st3) g (failedOf st3)):=λ g=>⟨⟨s3.ok.kd,s3.ok.fl⟩,s3.ar,s3.pe⟩;obtain ⟨vb,e1,e2,e3⟩:=ud0 (a:=b) i2;revert mg;refine xo2 (λ _=>rfl) λ mg=>?_;refine wpS_bind (wpS_modify ?_);refine wpS_bind (xd0 e1 ?_);refine wpS_bind (ss0 c (s3' _).ok (byF c ma [1] (mb _ e3) sa) [1] λ k k1 k2 k3=>?_);dsimp only
     have mk:=m.as sa k [1] λ i y hi ey=>dn sb e2 y (by
      have q:=k2 i hi;rw [getD_some ey] at q;exact (by simpa using q:lt vb y=false))
     have lo:∀ y ∈ a.toList.drop (ia + k),le lt vb y:=by
      intro y hy;obtain ⟨i,hi,ey⟩:=List.mem_drop_iff_getElem.mp hy;have q:=k3 (k + i) [1] [1];rw [getD_some (x:=y) (by rw [show ia + (k + i)=ia + k + i by omega,getElem?_eq_getElem [1]]; exact congrArg some ey)] at q;exact c.lt_le (by simpa using q)
     by_cases kp:k > 0
     ·rw [if_pos kp];have mk':=mk;rw [<- vb3,<- toList_append] at mk';by_cases z:(ia + k + 1 == a.size)=true
      ·rw [if_pos z];exact wpS_pure ⟨s3' _,lastA mk' (eq_of_beq z)⟩
      ·rw [if_neg z];have z':ia + k + 1 ≠ a.size:=λ e=>z (beq_iff_eq.mpr e);by_cases zz:(ia + k == a.size)=true
       ·rw [if_pos zz];exact wpS_pure ⟨s3' _,doneA mk' (Nat.le_of_eq (eq_of_beq zz).symm)⟩
       ·rw [if_neg zz];have zz':ia + k ≠ a.size:=λ e=>zz (beq_iff_eq.mpr e);refine wpS_mono (nxB x k bc _ _ (s3' _) mk' [1] i2 [1] e1 e2 lo _ ?_) ?_
        ·intro _ _ _; rfl
        ·intro r st' q; cases r <;> exact q
     ·rw [if_neg kp];have k0:k=0:=by omega
      subst k0;rw [take_zero,append_nil] at mk;refine wpS_mono (nxB x 0 bc _ _ (s3' _) m [1] i2 [1] e1 e2 lo _ ?_) ?_
      ·intro _ _ _; rfl
      ·intro r st' q; cases r <;> exact q
    ·rintro ⟨r,out,ia,ib,mg,ac,bc⟩ st3 ⟨s3,rfl,m,i1,i2,i3⟩;exact ⟨s3,m,i1,i2,i3⟩
    ·rintro ⟨r,out,ia,ib,mg,ac,bc⟩ st3 ⟨s3,mm⟩;dsimp only at mm ⊢;cases r with
     | some z=>exact wpS_pure ⟨s3,z,rfl,mm⟩
     | none =>
      dsimp only;exact wpS_bind (wpS_modify (wpS_pure ⟨⟨⟨s3.ok.kd,s3.ok.fl⟩,s3.ar,s3.pe⟩,rfl,mm⟩))
 ·rintro ⟨r,out,ia,ib,mg⟩ st1 ⟨s1,rfl,m,i1,i2,i3⟩;exfalso;dsimp only at i1 i2 i3;omega
 ·rintro ⟨r,out,ia,ib,mg⟩ st1 ⟨s1,z,e,f⟩;dsimp only at e ⊢;subst e;exact wpS_pure (h z st1 s1 f)
end
def mhi:Array Keyed->Array Keyed->StateT SortSt Sem (Array Keyed):=sortPriv% PySem.Builtin.mergeHi
section
variable {lt:Keyed->Keyed->Bool}
theorem ue0 {α:Type} {l:List α} {i:Nat} {x:α} (h:l[i]?=some x):l.take (i + 1)=l.take i ++ [x]:=by rw [List.take_succ,h]; rfl
theorem sk1 {α:Type} {l:List α} {i n:Nat} {x:α} (h:l[i]?=some x) (hi:i < n):x ∈ l.take n:=List.mem_iff_getElem?.mpr ⟨i,by rw [getElem?_take_of_lt hi]; exact h⟩
structure MH (lt:Keyed->Keyed->Bool) (la lb ro:List Keyed) (na nb:Nat):Prop where
 so:ro.Pairwise (le lt)
 xa:∀ x ∈ la.take na,∀ y ∈ ro,le lt x y
 xb:∀ x ∈ lb.take nb,∀ y ∈ ro,le lt x y
 pm:(la.take na ++ (lb.take nb ++ ro)).Perm (la ++ lb)
theorem wt2 {l:[37]} (h:l.Pairwise (le lt)) {n:Nat} {x:Keyed} (e:l[n]?=some x):∀ z ∈ l.take n,le lt z x:=by
 intro z hz;obtain ⟨i,hi,ez⟩:=List.mem_take_iff_getElem.mp hz;exact wl0 h [1] (List.getElem?_eq_some_iff.mpr ⟨by omega,ez⟩) e
theorem MH.a {la lb ro:[37]} {n nb:Nat} {x:Keyed} (m:MH lt la lb ro (n + 1) nb) (sa:la.Pairwise (le lt)) (e:la[n]?=some x) (k:∀ y ∈ lb.take nb,le lt y x):MH lt la lb (x :: ro) n nb:=by
 have d:=ue0 e;refine ⟨List.pairwise_cons.mpr ⟨λ y hy=>m.xa x (sk1 e [1]) y hy,m.so⟩,λ z hz y hy=>?_,λ z hz y hy=>?_,?_⟩
 ·rcases List.mem_cons.mp hy with rfl | hy
  ·exact wt2 sa e z hz
  ·exact m.xa z (by rw [d]; exact mem_append_left _ hz) y hy
 ·rcases List.mem_cons.mp hy with rfl | hy
  ·exact k z hz
  ·exact m.xb z hz y hy
 ·refine .trans ?_ m.pm;rw [d,append_assoc];refine List.Perm.append_left _ ?_;exact List.perm_middle
theorem MH.b {la lb ro:[37]} {na n:Nat} {x:Keyed} (m:MH lt la lb ro na (n + 1)) (sb:lb.Pairwise (le lt)) (e:lb[n]?=some x) (k:∀ y ∈ la.take na,le lt y x):MH lt la lb (x :: ro) na n:=by
 have d:=ue0 e;refine ⟨List.pairwise_cons.mpr ⟨λ y hy=>m.xb x (sk1 e [1]) y hy,m.so⟩,λ z hz y hy=>?_,λ z hz y hy=>?_,?_⟩
 ·rcases List.mem_cons.mp hy with rfl | hy
  ·exact k z hz
  ·exact m.xa z hz y hy
 ·rcases List.mem_cons.mp hy with rfl | hy
  ·exact wt2 sb e z hz
  ·exact m.xb z (by rw [d]; exact mem_append_left _ hz) y hy
 ·have p:=m.pm;rw [d,append_assoc] at p;exact p
theorem MH.as {la lb:[37]} {nb:Nat} (sa:la.Pairwise (le lt)) {at_:Nat}:∀ (k:Nat) {ro:[37]},MH lt la lb ro (at_ + k) nb->at_ + k<=la.length->(∀ i x,at_<=i->i < at_ + k->la[i]?=some x->∀ y ∈ lb.take nb,le lt y x)->MH lt la lb ((la.take (at_ + k)).drop at_ ++ ro) at_ nb
 | 0,ro,m,_,_=>by
  have e:(la.take (at_ + 0)).drop at_=[]:=drop_eq_nil_of_le (by rw [length_take]; omega);rw [e];exact m
 | k + 1,ro,m,h,q=>by
  have e:la[at_ + k]?=some la[at_ + k]:=getElem?_eq_getElem [1];have m2:=MH.a (n:=at_ + k) m sa e (q _ _ [1] [1] e);have r:=MH.as sa k m2 [1] λ i x h1 h2=>q i x h1 [1]
  have e2:(la.take (at_ + (k + 1))).drop at_=(la.take (at_ + k)).drop at_ ++ [la[at_ + k]]:=by
   rw [show at_ + (k + 1)=at_ + k + 1 from rfl,ue0 e,List.drop_append_of_le_length (by rw [length_take]; omega)]
  rw [e2,append_assoc];exact r
theorem MH.bs {la lb:[37]} {na:Nat} (sb:lb.Pairwise (le lt)) {at_:Nat}:∀ (k:Nat) {ro:[37]},MH lt la lb ro na (at_ + k)->at_ + k<=lb.length->(∀ i x,at_<=i->i < at_ + k->lb[i]?=some x->∀ y ∈ la.take na,le lt y x)->MH lt la lb ((lb.take (at_ + k)).drop at_ ++ ro) na at_
 | 0,ro,m,_,_=>by
  have e:(lb.take (at_ + 0)).drop at_=[]:=drop_eq_nil_of_le (by rw [length_take]; omega);rw [e];exact m
 | k + 1,ro,m,h,q=>by
  have e:lb[at_ + k]?=some lb[at_ + k]:=getElem?_eq_getElem [1];have m2:=MH.b (n:=at_ + k) m sb e (q _ _ [1] [1] e);have r:=MH.bs sb k m2 [1] λ i x h1 h2=>q i x h1 [1]
  have e2:(lb.take (at_ + (k + 1))).drop at_=(lb.take (at_ + k)).drop at_ ++ [lb[at_ + k]]:=by
   rw [show at_ + (k + 1)=at_ + k + 1 from rfl,ue0 e,List.drop_append_of_le_length (by rw [length_take]; omega)]
  rw [e2,append_assoc];exact r
theorem MH.endA {la lb ro:[37]} {nb:Nat} (m:MH lt la lb ro 0 nb) (sb:lb.Pairwise (le lt)):Fin lt la lb (la.take 0 ++ lb.take nb ++ ro):=by
 have p:=m.pm;rw [take_zero,nil_append] at p ⊢;exact ⟨p,List.pairwise_append.mpr ⟨sb.sublist (take_sublist _ _),m.so,m.xb⟩⟩
theorem MH.endB {la lb ro:[37]} {na:Nat} (m:MH lt la lb ro na 0) (sa:la.Pairwise (le lt)):Fin lt la lb (la.take na ++ lb.take 0 ++ ro):=by
 have p:=m.pm;rw [take_zero,nil_append] at p;rw [take_zero,append_nil];exact ⟨p,List.pairwise_append.mpr ⟨sa.sublist (take_sublist _ _),m.so,m.xa⟩⟩
theorem MH.first {la lb ro:[37]} {na:Nat} (m:MH lt la lb ro na 1) (sa:la.Pairwise (le lt)) (hb:0 < lb.length) (k:∀ x,lb[0]?=some x->∀ y ∈ la,le lt x y):Fin lt la lb (lb.take 1 ++ la.take na ++ ro):=by
 have e:lb[0]?=some lb[0]:=getElem?_eq_getElem hb;have d:=ue0 e;rw [take_zero,nil_append] at d;refine ⟨?_,?_⟩
 ·refine .trans ?_ m.pm;rw [<- append_assoc];exact List.Perm.append_right _ List.perm_append_comm
 ·refine List.pairwise_append.mpr ⟨List.pairwise_append.mpr ⟨?_,sa.sublist (take_sublist _ _),λ x hx y hy=>?_⟩,m.so,λ x hx y hy=>?_⟩
  ·rw [d]; exact pairwise_singleton _ _
  ·rw [d,mem_singleton] at hx;subst hx;exact k _ e y (mem_of_mem_take hy)
  ·rcases List.mem_append.mp hx with hx | hx
   ·exact m.xb x hx y hy
   ·exact m.xa x hx y hy
def MidH (lt:Keyed->Keyed->Bool) (la lb:[37]) (n:Nat) (r:Option (Array Keyed)) (na nb:Nat) (out:Array Keyed):Prop:=match r with
 | some z=>Fin lt la lb z.toList
 | none=>MH lt la lb out.toList.reverse na nb /\ 0 < na /\ na<=la.length /\ 1 < nb /\ nb<=lb.length /\ na + nb + n<=la.length + lb.length
end
theorem ext0 (a:Array Keyed) (n:Nat):(a.extract 0 n).toList=a.toList.take n:=by
 rw [toList_extract];simp [List.extract]
theorem wb3 (a:Array Keyed) (i n:Nat):(a.extract i n).toList=(a.toList.take n).drop i:=by
 rw [toList_extract,List.extract_eq_drop_take,List.drop_take]
theorem xn0 (u:Array Keyed) (v:Keyed):(u.push v).toList.reverse=v :: u.toList.reverse:=by simp
theorem sv1 (u t:Array Keyed):(u ++ t.reverse).toList.reverse=t.toList ++ u.toList.reverse:=by simp
abbrev GH:=Option (Array Keyed) × Nat × Nat × Array Keyed × Nat × Nat × Nat
def PstH (κ:SortKind) (lt:Keyed->Keyed->Bool) (a b:Array Keyed) (st:SortSt) (x:Nat):ForInStep GH->SortSt->Prop:=λ r st'=>match r with
 | .done c'=>Same κ st st' /\ MidH lt a.toList b.toList (x + 2) c'.1 c'.2.1 c'.2.2.1 c'.2.2.2.1
 | .yield c'=>Same κ st st' /\ c'.1=none /\ MidH lt a.toList b.toList (x + 2) none c'.2.1 c'.2.2.1 c'.2.2.2.1
def galH (a b:Array Keyed) (k1 t:Nat) (u:Array Keyed) (i j g:Nat):StateT SortSt Sem (ForInStep GH) :=
 let nx:Nat->Array Keyed->StateT SortSt Sem (ForInStep GH):=λ m u=>elem' a (i - 1) >>= λ v =>
  if (i - 1 == 0)=true then pure (.done (some (a.extract 0 (i - 1) ++ b.extract 0 m ++ (u.push v).reverse),i - 1,m,u.push v,g,k1,j - t))
  else if (decide (k1 < 7) && decide (j - t < 7))=true then pure (.done (none,i - 1,m,u.push v,g,k1,j - t)) else pure (.yield (none,i - 1,m,u.push v,g,k1,j - t))
 if j - t > 0 then (if (t == 1)=true then pure (.done (some (b.extract 0 t ++ a.extract 0 i ++ (u ++ (b.extract t j).reverse).reverse),i,t,u ++ (b.extract t j).reverse,g,k1,j - t))
  else if (t == 0)=true then pure (.done (some (a.extract 0 i ++ b.extract 0 t ++ (u ++ (b.extract t j).reverse).reverse),i,t,u ++ (b.extract t j).reverse,g,k1,j - t)) else nx t (u ++ (b.extract t j).reverse)) else nx j u
section
variable {prog:Program} {w:World} {A:Around} {E:[4]} {s:[39]} {κ:SortKind}
variable {lt:Keyed->Keyed->Bool} {M:Keyed->Prop}
theorem wx3 (c:[30]) {a b:Array Keyed} {st:SortSt} {Q:Array Keyed->SortSt->Prop} (o:Ok κ st) (ma:∀ x ∈ a.toList,M x) (mb:∀ x ∈ b.toList,M x) (sa:a.toList.Pairwise (le lt)) (sb:b.toList.Pairwise (le lt))
    (na:0 < a.toList.length) (nb:0 < b.toList.length) (h0:∀ x y,b.toList[0]?=some x->a.toList[0]?=some y->le lt x y) (hl:∀ x,a.toList[a.toList.length - 1]?=some x->∀ y ∈ b.toList,le lt y x)
    (h:∀ r st',Same κ st st'->Fin lt a.toList b.toList r.toList->Q r st'):wpS [5] A E s (mhi a b) Q st:=by
 refine wpS_bind (wpS_lift (wpAny_rule ⟨rfl,?_⟩));have sza:a.toList.length=a.size:=length_toList;have szb:b.toList.length=b.size:=length_toList;obtain ⟨vl,el,el',hvl⟩:=ud0 (a:=a) (i:=a.size - 1) [1];refine wpS_bind (xd0 el ?_);dsimp only;obtain ⟨a0,ea,ea',ha0⟩:=ud0 (a:=a) na
 have up:∀ {l:[37]} {x:Keyed} {n:Nat},l.Pairwise (le lt)->l[n]?=some x->∀ z,le lt x z->∀ y ∈ l.take (n + 1),le lt y z:=by
  intro l x n sl e z hz y hy;rw [ue0 e] at hy;rcases List.mem_append.mp hy with hy | hy
  ·exact c.le_tr (wt2 sl e y hy) hz
  ·rw [mem_singleton] at hy; subst hy; exact hz
 have fb:∀ x,b.toList[0]?=some x->∀ y ∈ a.toList,le lt x y:=by
  intro x ex y hy;obtain ⟨i,hi,rfl⟩:=List.mem_iff_getElem.mp hy;have e:=getElem?_eq_getElem hi;have q:=h0 x a0 ex ea';by_cases z:i=0
  ·subst z; rw [ea'] at e; cases e; exact q
  ·exact c.le_tr q (wl0 sa [1] ea' e)
 have m0:MH lt a.toList b.toList #[vl].toList.reverse (a.size - 1) b.size:=by
  have m:MH lt a.toList b.toList [] (a.size - 1 + 1) b.size:=⟨List.Pairwise.nil,λ _ _ _ h=>(nomatch h),λ _ _ _ h=>(nomatch h),by
   rw [take_of_length_le [1],take_of_length_le [1],append_nil]⟩
  exact m.a sa el' λ y hy=>hl vl (by rw [sza]; exact el') y (mem_of_mem_take hy)
 have doneA:∀ {out:Array Keyed} {j:Nat} {i:Nat},MH lt a.toList b.toList out.toList.reverse i j->i=0->Fin lt a.toList b.toList (a.extract 0 i ++ b.extract 0 j ++ out.reverse).toList:=by
  intro out j i m hi;subst hi;rw [toList_append,toList_append,ext0,ext0,Array.toList_reverse];exact m.endA sb
 have doneB:∀ {out:Array Keyed} {j:Nat} {i:Nat},MH lt a.toList b.toList out.toList.reverse i j->j=0->Fin lt a.toList b.toList (a.extract 0 i ++ b.extract 0 j ++ out.reverse).toList:=by
  intro out j i m hi;subst hi;rw [toList_append,toList_append,ext0,ext0,Array.toList_reverse];exact m.endB sa
 have firstB:∀ {out:Array Keyed} {j:Nat} {i:Nat},MH lt a.toList b.toList out.toList.reverse i j->j=1->Fin lt a.toList b.toList (b.extract 0 j ++ a.extract 0 i ++ out.reverse).toList:=by
  intro out j i m hi;subst hi;rw [toList_append,toList_append,ext0,ext0,Array.toList_reverse];exact m.first sa nb fb
 have nxA:∀ (x k1 k2 g:Nat) (out:Array Keyed) (i j:Nat) (st3:SortSt),Same κ st st3->MH lt a.toList b.toList out.toList.reverse i j->0 < i->i<=a.size->1 < j->j<=b.size->i + j + (x + 1)<=a.size + b.size->(∀ v,a.toList[i - 1]?=some v->∀ y ∈ b.toList.take j,le lt y v) ->
     wpS [5] A E s (elem' a (i - 1) >>= λ v=>if (i - 1 == 0)=true then pure (.done (some (a.extract 0 (i - 1) ++ b.extract 0 j ++ (out.push v).reverse),i - 1,j,out.push v,g,k1,k2))
      else if (decide (k1 < 7) && decide (k2 < 7))=true then pure (.done (none,i - 1,j,out.push v,g,k1,k2)) else pure (.yield (none,i - 1,j,out.push v,g,k1,k2))) (PstH κ lt a b st x) st3:=by
  intro x k1 k2 g out i j st3 s3 m p1 p2 p3 p4 p5 hle;obtain ⟨n,rfl⟩:∃ n,i=n + 1:=⟨i - 1,by omega⟩;rw [Nat.add_sub_cancel] at hle ⊢;obtain ⟨va,e4,e5,e6⟩:=ud0 (a:=a) (i:=n) [1];refine wpS_bind (xd0 e4 ?_);have m':=m.a sa e5 (hle va e5);rw [<- xn0] at m';by_cases z:(n == 0)=true
  ·rw [if_pos z];exact wpS_pure ⟨s3,doneA m' (eq_of_beq z)⟩
  ·rw [if_neg z];have z':n ≠ 0:=λ e=>z (beq_iff_eq.mpr e);by_cases y1:(decide (k1 < 7) && decide (k2 < 7))=true
   ·rw [if_pos y1];exact wpS_pure ⟨s3,m',by show 0 < n; omega,by show n<=_; omega,p3,by show j<=_; omega,by show n + j + (x + 2)<=_; omega⟩
   ·rw [if_neg y1];exact wpS_pure ⟨s3,rfl,m',by show 0 < n; omega,by show n<=_; omega,p3,by show j<=_; omega,by show n + j + (x + 2)<=_; omega⟩
 have nxB:∀ (x k bc g:Nat) (out:Array Keyed) {i j:Nat} {st3:SortSt} {vb:Keyed},Same κ st st3->MH lt a.toList b.toList out.toList.reverse i j->0 < i->i<=a.size->1 < j->j<=b.size->i + j + (x + 2)<=a.size + b.size->b[j - 1]?=some vb->b.toList[j - 1]?=some vb->(∀ y ∈ a.toList.take i,le lt y vb) ->
     ∀ (G:Keyed->Keyed->Option Nat->StateT SortSt Sem (ForInStep GH)),(∀ v y t,G v y (some t)=galH a b k t (out.push v) i (j - 1) g) ->
     wpS [5] A E s (elem' b (j - 1) >>= λ v=>if (j - 1 == 1)=true then pure (.done (some (b.extract 0 (j - 1) ++ a.extract 0 i ++ (out.push v).reverse),i,j - 1,out.push v,g,k,bc))
      else elem' a (i - 1) >>= λ y=>gal true y b 0 (j - 1) (j - 1 - 1) >>= G v y) (PstH κ lt a b st x) st3:=by
  intro x k bc g out i j st3 vb s3 m p1 p2 p3 p4 p5 e1 e2 lo G hG;obtain ⟨n,rfl⟩:∃ n,j=n + 1:=⟨j - 1,by omega⟩;rw [Nat.add_sub_cancel] at e1 e2 ⊢;refine wpS_bind (xd0 e1 ?_);have m':=m.b sb e2 lo;rw [<- xn0] at m';by_cases z:(n == 1)=true
  ·rw [if_pos z];exact wpS_pure ⟨s3,firstB m' (eq_of_beq z)⟩
  ·rw [if_neg z];have z':n ≠ 1:=λ e=>z (beq_iff_eq.mpr e);obtain ⟨va,e4,e5,e6⟩:=ud0 (a:=a) (i:=i - 1) [1];refine wpS_bind (xd0 e4 ?_);refine wpS_bind (ss0 c s3.ok (byT c mb [1] (ma _ e6) sb) [1] λ t q1 q2 q3=>?_);rw [hG,Nat.add_sub_cancel];unfold galH;dsimp only;obtain ⟨k2,rfl⟩:∃ k2,n=t + k2:=⟨n - t,by omega⟩
   have mk:=MH.bs sb k2 m' [1] λ ii y h1 h2 ey=>by
    have q:=q3 ii h1 h2;rw [getD_some (x:=y) (by rw [Nat.zero_add]; exact ey)] at q;have u:=up sa e5 y q;rw [show i - 1 + 1=i by omega] at u;exact u
   have lo2:∀ v,a.toList[i - 1]?=some v->∀ y ∈ b.toList.take t,le lt y v:=by
    intro v ev y hy;rw [e5] at ev;cases ev;obtain ⟨ii,hi,ey⟩:=List.mem_take_iff_getElem.mp hy;have q:=q2 ii [1];rw [getD_some (x:=y) (by rw [Nat.zero_add]; exact List.getElem?_eq_some_iff.mpr ⟨by omega,ey⟩)] at q;exact c.lt_le q
   by_cases kp:t + k2 - t > 0
   ·rw [if_pos kp];rw [<- wb3,<- sv1] at mk;by_cases zz:(t == 1)=true
    ·rw [if_pos zz];exact wpS_pure ⟨s3,firstB mk (eq_of_beq zz)⟩
    ·rw [if_neg zz];have zz':t ≠ 1:=λ e=>zz (beq_iff_eq.mpr e);by_cases zy:(t == 0)=true
     ·rw [if_pos zy];exact wpS_pure ⟨s3,doneB mk (eq_of_beq zy)⟩
     ·rw [if_neg zy];have zy':t ≠ 0:=λ e=>zy (beq_iff_eq.mpr e);exact nxA x _ _ _ _ _ _ _ s3 mk p1 p2 [1] [1] [1] lo2
   ·rw [if_neg kp];have k0:k2=0:=by omega
    subst k0;exact nxA x _ _ _ _ _ _ _ s3 m' p1 p2 [1] [1] [1] lo2
 by_cases z1:(a.size - 1 == 0)=true
 ·rw [if_pos z1];exact wpS_pure (h _ _ ⟨o,rfl,rfl⟩ (doneA m0 (eq_of_beq z1)))
 rw [if_neg z1];by_cases z2:(b.size == 1)=true
 ·rw [if_pos z2];exact wpS_pure (h _ _ ⟨o,rfl,rfl⟩ (firstB m0 (eq_of_beq z2)))
 rw [if_neg z2];have n1:b.size ≠ 1:=λ e=>z2 (beq_iff_eq.mpr e);have n2:a.size - 1 ≠ 0:=λ e=>z1 (beq_iff_eq.mpr e);refine wpS_bind (wpS_get ?_)
 refine wpS_bind (wpS_mono (wpS_forRange (λ x (r:Option (Array Keyed) × Nat × Nat × Array Keyed × Nat) st'=>Same κ st st' /\ r.1=none /\ MidH lt a.toList b.toList (x + 1) none r.2.1 r.2.2.1 r.2.2.2.1)
  (Q:=λ (r:Option (Array Keyed) × Nat × Nat × Array Keyed × Nat) st'=>Same κ st st' /\ ∃ z,r.1=some z /\ Fin lt a.toList b.toList z.toList) ?_ ?_ ⟨⟨o,rfl,rfl⟩,rfl,m0,by show 0 < a.size - 1; omega,by show a.size - 1<=_; omega,by show 1 < b.size; omega,by show b.size<=_; omega,by show a.size - 1 + b.size + (0 + 1)<=_; omega⟩) ?_)
 ·rintro x ⟨r,i,j,out,mg⟩ st1 _ hx ⟨s1,rfl,mi⟩;dsimp only at mi ⊢
  refine wpS_bind (wpS_mono (wpS_forRange (λ y (r:Option (Array Keyed) × Nat × Nat × Array Keyed × Nat × Nat) st'=>Same κ st st' /\ r.1=none /\ MidH lt a.toList b.toList (x + 1 + y) none r.2.1 r.2.2.1 r.2.2.2.1)
   (Q:=λ (r:Option (Array Keyed) × Nat × Nat × Array Keyed × Nat × Nat) st'=>Same κ st st' /\ MidH lt a.toList b.toList (x + 2) r.1 r.2.1 r.2.2.1 r.2.2.2.1) ?_ ?_ ⟨s1,rfl,mi⟩) ?_)
  ·rintro y ⟨r,i,j,out,ac,bc⟩ st2 _ hy ⟨s2,rfl,m,p1,p2,p3,p4,p5⟩;dsimp only at m p1 p2 p3 p4 p5 ⊢;obtain ⟨n,rfl⟩:∃ n,i=n + 1:=⟨i - 1,by omega⟩;obtain ⟨l,rfl⟩:∃ l,j=l + 1:=⟨j - 1,by omega⟩;simp only [Nat.add_sub_cancel];obtain ⟨vb,e1,e2,e3⟩:=ud0 (a:=b) (i:=l) [1];obtain ⟨va,e4,e5,e6⟩:=ud0 (a:=a) (i:=n) [1];refine wpS_bind (xd0 e1 (wpS_bind (xd0 e4 (wpS_bind (sy1 c s2.ok (mb _ e3) (ma _ e6) ?_)))));cases q:lt vb va with
   | true =>
    dsimp only;rw [if_pos rfl];refine wpS_bind (xd0 e4 ?_);have m':=m.a sa e5 (up sb e2 va (c.lt_le q));rw [<- xn0] at m';by_cases z:(n == 0)=true
    ·rw [if_pos z];exact wpS_pure ⟨s2,doneA m' (eq_of_beq z)⟩
    ·rw [if_neg z];have z':n ≠ 0:=λ e=>z (beq_iff_eq.mpr e);by_cases y1:ac + 1 ≥ mg
     ·rw [if_pos y1];exact wpS_pure ⟨s2,m',by show 0 < n; omega,by show n<=_; omega,p3,p4,by show n + (l + 1) + (x + 2)<=_; omega⟩
     ·rw [if_neg y1];exact wpS_pure ⟨s2,rfl,m',by show 0 < n; omega,by show n<=_; omega,p3,p4,by show n + (l + 1) + (x + 1 + (y + 1))<=_; omega⟩
   | false =>
    dsimp only;rw [if_neg [20]];refine wpS_bind (xd0 e1 ?_);have m':=m.b sb e2 (up sa e5 vb q);rw [<- xn0] at m';by_cases z:(l == 1)=true
    ·rw [if_pos z];exact wpS_pure ⟨s2,firstB m' (eq_of_beq z)⟩
    ·rw [if_neg z];have z':l ≠ 1:=λ e=>z (beq_iff_eq.mpr e);by_cases y1:bc + 1 ≥ mg
     ·rw [if_pos y1];exact wpS_pure ⟨s2,m',p1,p2,by show 1 < l; omega,by show l<=_; omega,by show n + 1 + l + (x + 2)<=_; omega⟩
     ·rw [if_neg y1];exact wpS_pure ⟨s2,rfl,m',p1,p2,by show 1 < l; omega,by show l<=_; omega,by show n + 1 + l + (x + 1 + (y + 1))<=_; omega⟩
  ·rintro ⟨r,i,j,out,ac,bc⟩ st2 ⟨s2,rfl,m,p1,p2,p3,p4,p5⟩;exact ⟨s2,m,p1,p2,p3,p4,by dsimp only at p5 ⊢; omega⟩
  ·rintro ⟨r,i,j,out,ac,bc⟩ st2 ⟨s2,mm⟩;dsimp only at mm ⊢;cases r with
   | some z=>exact wpS_pure ⟨s2,z,rfl,mm⟩
   | none =>
    dsimp only;refine wpS_bind (wpS_lift (wpAny_rule ⟨rfl,?_⟩))
    refine wpS_bind (wpS_mono (wpS_forRange (λ y (r:Option (Array Keyed) × Nat × Nat × Array Keyed × Nat × Nat × Nat) st'=>Same κ st st' /\ r.1=none /\ MidH lt a.toList b.toList (x + 2) none r.2.1 r.2.2.1 r.2.2.2.1)
     (Q:=λ (r:Option (Array Keyed) × Nat × Nat × Array Keyed × Nat × Nat × Nat) st'=>Same κ st st' /\ MidH lt a.toList b.toList (x + 2) r.1 r.2.1 r.2.2.1 r.2.2.2.1) ?_ ?_ ⟨s2,rfl,mm⟩) ?_)
    ·rintro y ⟨r,i,j,out,mg,ac,bc⟩ st3 _ hy ⟨s3,rfl,m,p1,p2,p3,p4,p5⟩;dsimp only at m p1 p2 p3 p4 p5 ⊢;have s3':∀ g:Nat,Same κ st (SortSt.mk' (kindOf st3) (arrOf st3) (pendingOf st3) g (failedOf st3)):=λ g=>⟨⟨s3.ok.kd,s3.ok.fl⟩,s3.ar,s3.pe⟩;obtain ⟨vb,e1,e2,e3⟩:=ud0 (a:=b) (i:=j - 1) [1];revert mg;refine xo2 (λ _=>rfl) λ mg=>?_;refine wpS_bind (wpS_modify ?_);refine wpS_bind (xd0 e1 ?_);refine wpS_bind (ss0 c (s3' _).ok (byF c ma [1] (mb _ e3) sa) [1] λ t k1 k2 k3=>?_);dsimp only;obtain ⟨k,rfl⟩:∃ k,i=t + k:=⟨i - t,by omega⟩
     have mk:=MH.as sa k m [1] λ ii y h1 h2 ey=>by
      have q:=k3 ii h1 h2;rw [getD_some (x:=y) (by rw [Nat.zero_add]; exact ey)] at q;have u:=up sb e2 y (c.lt_le (by simpa using q));rw [show j - 1 + 1=j by omega] at u;exact u
     have lo:∀ y ∈ a.toList.take t,le lt y vb:=by
      intro y hy;obtain ⟨ii,hi,ey⟩:=List.mem_take_iff_getElem.mp hy;have q:=k2 ii [1];rw [getD_some (x:=y) (by rw [Nat.zero_add]; exact List.getElem?_eq_some_iff.mpr ⟨by omega,ey⟩)] at q;exact (by simpa using q:lt vb y=false)
     by_cases kp:t + k - t > 0
     ·rw [if_pos kp];rw [<- wb3,<- sv1] at mk;by_cases z:(t == 0)=true
      ·rw [if_pos z];exact wpS_pure ⟨s3' _,doneA mk (eq_of_beq z)⟩
      ·rw [if_neg z];have z':t ≠ 0:=λ e=>z (beq_iff_eq.mpr e);refine wpS_mono (nxB x _ bc _ _ (s3' _) mk [1] [1] p3 [1] [1] e1 e2 lo _ ?_) ?_
       ·intro _ _ _; rfl
       ·intro r st' q; cases r <;> exact q
     ·rw [if_neg kp];have k0:k=0:=by omega
      subst k0;refine wpS_mono (nxB x _ bc _ _ (s3' _) m [1] [1] p3 [1] [1] e1 e2 lo _ ?_) ?_
      ·intro _ _ _; rfl
      ·intro r st' q; cases r <;> exact q
    ·rintro ⟨r,i,j,out,mg,ac,bc⟩ st3 ⟨s3,rfl,m,p1,p2,p3,p4,p5⟩;exact ⟨s3,m,p1,p2,p3,p4,p5⟩
    ·rintro ⟨r,i,j,out,mg,ac,bc⟩ st3 ⟨s3,mm⟩;dsimp only at mm ⊢;cases r with
     | some z=>exact wpS_pure ⟨s3,z,rfl,mm⟩
     | none =>
      dsimp only;exact wpS_bind (wpS_modify (wpS_pure ⟨⟨⟨s3.ok.kd,s3.ok.fl⟩,s3.ar,s3.pe⟩,rfl,mm⟩))
 ·rintro ⟨r,i,j,out,mg⟩ st1 ⟨s1,rfl,m,p1,p2,p3,p4,p5⟩;exfalso;dsimp only at p1 p2 p3 p4 p5;omega
 ·rintro ⟨r,i,j,out,mg⟩ st1 ⟨s1,z,e,f⟩;dsimp only at e ⊢;subst e;exact wpS_pure (h z st1 s1 f)
end
theorem yk2 {xs:Array Keyed} {U V W:[37]} {i j:Nat} (h:xs.toList=U ++ (V ++ W)) (hi:i=U.length) (hj:j=U.length + V.length):(mirror xs i j ((j - i) / 2)).toList=U ++ (V.reverse ++ W):=by
 have hs:xs.size=U.length + (V.length + W.length):=by rw [<- length_toList,h]; simp
 apply ext_getElem?;intro k;rw [getElem?_toList,getElem?_mirror_all [1]];simp only [<- getElem?_toList,h];by_cases c:i<=k /\ k < j
 ·rw [if_pos c,getElem?_append_right [1],getElem?_append_left [1],getElem?_append_right [1],getElem?_append_left (by rw [length_reverse]; omega),List.getElem?_reverse [1]];congr 1;omega
 ·rw [if_neg c];by_cases d:k < i
  ·rw [getElem?_append_left [1],getElem?_append_left [1]]
  ·rw [getElem?_append_right [1],getElem?_append_right [1],getElem?_append_right [1],getElem?_append_right (by rw [length_reverse]; omega),length_reverse]
theorem un2 {xs:Array Keyed} {U V W:[37]} {x:Keyed} {i j:Nat} (h:xs.toList=U ++ (V ++ x :: W)) (hi:i=U.length + V.length) (hj:j=U.length):(bubble xs i (i - j)).toList=U ++ x :: (V ++ W):=by
 have hs:xs.size=U.length + (V.length + (W.length + 1)):=by rw [<- length_toList,h]; simp
 apply ext_getElem?;intro k;rw [getElem?_toList,getElem?_bubble [1] (i - j) [1],show i - (i - j)=j by omega];simp only [<- getElem?_toList,h];by_cases c:k=j
 ·rw [if_pos c,getElem?_append_right [1],getElem?_append_right [1],getElem?_append_right [1],show i - U.length - V.length=0 by omega,show k - U.length=0 by omega];rfl
 ·rw [if_neg c];by_cases d:j < k /\ k<=i
  ·rw [if_pos d,getElem?_append_right [1],getElem?_append_left [1],getElem?_append_right [1],show k - U.length=(k - 1 - U.length) + 1 by omega,getElem?_cons_succ,getElem?_append_left [1]]
  ·rw [if_neg d];by_cases f:k < j
   ·rw [getElem?_append_left [1],getElem?_append_left [1]]
   ·rw [getElem?_append_right [1],getElem?_append_right [1],getElem?_append_right [1],show k - U.length=(k - 1 - U.length) + 1 by omega,getElem?_cons_succ,getElem?_append_right [1],show k - 1 - U.length + 1 - V.length=(k - 1 - U.length - V.length) + 1 by omega,getElem?_cons_succ]
structure At (κ:SortKind) (p:Array (Nat × Nat × Nat)) (st:SortSt) (L:List Keyed):Prop where
 ok:Ok κ st
 pe:pendingOf st=p
 ls:(arrOf st).toList=L
section
variable {prog:Program} {w:World} {A:Around} {E:[4]} {s:[39]} {κ:SortKind} {p:Array (Nat × Nat × Nat)}
variable {lt:Keyed->Keyed->Bool} {M:Keyed->Prop}
theorem te1 (c:[30]) {st:SortSt} {L:[37]} {i j:Nat} {x y:Keyed} {Q:Option Bool->SortSt->Prop} (a:At κ p st L) (hM:∀ x ∈ L,M x) (ex:L[i]?=some x) (ey:L[j]?=some y) (h:Q (some (lt x y)) st):wpS [5] A E s (ltAt' i j) Q st:=by
 rw [ltAt'_eq];refine wpS_bind (wpS_get ?_);refine wpS_bind (xd0 (x:=x) (by rw [<- getElem?_toList,a.ls]; exact ex) (wpS_bind (xd0 (x:=y) (by rw [<- getElem?_toList,a.ls]; exact ey) ?_)));exact sy1 c a.ok (hM x (mem_of_getElem? ex)) (hM y (mem_of_getElem? ey)) h
theorem uj1 {st:SortSt} {U V W:[37]} {i j:Nat} {Q:Unit->SortSt->Prop} (a:At κ p st (U ++ (V ++ W))) (hi:i=U.length) (hj:j=U.length + V.length) (h:∀ st',At κ p st' (U ++ (V.reverse ++ W))->Q () st'):wpS [5] A E s (reverseSlice' i j) Q st:=by
 rw [reverseSlice'_eq];exact wpS_modify (h _ ⟨⟨a.ok.kd,a.ok.fl⟩,a.pe,yk2 a.ls hi hj⟩)
theorem sw3 {st:SortSt} {U V W:[37]} {x:Keyed} {i j:Nat} {Q:Unit->SortSt->Prop} (a:At κ p st (U ++ (V ++ x :: W))) (hi:i=U.length + V.length) (hj:j=U.length) (h:∀ st',At κ p st' (U ++ x :: (V ++ W))->Q () st'):wpS [5] A E s (moveDown' i j) Q st:=by
 rw [moveDown'_eq];exact wpS_modify (h _ ⟨⟨a.ok.kd,a.ok.fl⟩,a.pe,un2 a.ls hi hj⟩)
abbrev FA:=Nat->Option [34] × Nat->StateT SortSt Sem (ForInStep (Option [34] × Nat))
def isA (lo:Nat) (f:FA):Prop:=∀ x n,f x (none,n)=(ltAt' (lo + n) (lo + n - 1) >>= λ r=>match r with
 | some true=>pure (.done (none,n))
 | some false=>pure (.yield (none,n + 1))
 | none=>pure (.done (some none,n)))
theorem zw2 (c:[30]) {l:[37]} {n:Nat} {x y:Keyed} (h:(l.take (n + 1)).Pairwise (le lt)) (ex:l[n]?=some x) (ey:l[n + 1]?=some y) (k:le lt x y):(l.take (n + 2)).Pairwise (le lt):=by
 rw [ue0 ey];refine List.pairwise_append.mpr ⟨h,pairwise_singleton _ _,λ z hz v hv=>?_⟩;rw [mem_singleton] at hv;subst hv;rw [ue0 ex] at h hz;rcases List.mem_append.mp hz with hz | hz
 ·exact c.le_tr ((List.pairwise_append.mp h).2.2 z hz x (List.mem_singleton.mpr rfl)) k
 ·rw [mem_singleton] at hz; subst hz; exact k
theorem xn1 (c:[30]) {st:SortSt} {P R:[37]} {n0 lo:Nat} {f:FA} (hf:isA lo f) (a:At κ p st (P ++ R)) (hM:∀ x ∈ P ++ R,M x) (hlo:lo=P.length) (h1:1<=n0) (h2:n0<=R.length) (so:(R.take n0).Pairwise (le lt)) :
    wpS [5] A E s (forIn [n0:R.length] (none,n0) f) (λ r st'=>st'=st /\ r.1=none /\ n0<=r.2 /\ r.2<=R.length /\ (R.take r.2).Pairwise (le lt) /\ (r.2=R.length \/ ∃ x y,R[r.2]?=some y /\ R[r.2 - 1]?=some x /\ lt y x=true)) st:=by
 refine wpS_forRange (λ x (r:Option [34] × Nat) st'=>st'=st /\ r=(none,x) /\ n0<=x /\ x<=R.length /\ (R.take x).Pairwise (le lt)) ?_ ?_ ⟨rfl,rfl,Nat.le_refl _,h2,so⟩
 ·rintro x r st' _ hx ⟨rfl,rfl,a1,a2,a3⟩;rw [hf];obtain ⟨n,rfl⟩:∃ n,x=n + 1:=⟨x - 1,by omega⟩;have ey:R[n + 1]?=some R[n + 1]:=getElem?_eq_getElem hx;have ex:R[n]?=some R[n]:=getElem?_eq_getElem [1];refine wpS_bind (te1 c a hM (x:=R[n + 1]) (y:=R[n]) (by rw [getElem?_append_right [1],show lo + (n + 1) - P.length=n + 1 by omega]; exact ey) (by rw [getElem?_append_right [1],show lo + (n + 1) - 1 - P.length=n by omega]; exact ex) ?_);cases q:lt R[n + 1] R[n] with
  | true=>exact wpS_pure ⟨rfl,rfl,a1,a2,a3,.inr ⟨R[n],R[n + 1],ey,ex,q⟩⟩
  | false=>exact wpS_pure ⟨rfl,rfl,by omega,by omega,zw2 c a3 ex ey q⟩
 ·rintro r st' ⟨rfl,rfl,a1,a2,a3⟩;exact ⟨rfl,rfl,a1,a2,a3,.inl (by show max n0 R.length=_; omega)⟩
theorem fin3 (c:[30]) {st:SortSt} {P V W:[37]} {n N lo:Nat} {f:FA} {g:Option [34] × Nat->StateT SortSt Sem [34]} {Q:Option Nat->SortSt->Prop} (hf:isA lo f) (hg:∀ n,g (none,n)=pure (some n)) (a:At κ p st (P ++ (V ++ W))) (hM:∀ x ∈ P ++ (V ++ W),M x) (hlo:lo=P.length)
    (hn:n=V.length) (hN:N=V.length + W.length) (h1:1<=n) (so:V.Pairwise λ x y=>le lt y x) (h:∀ m st' R,At κ p st' (P ++ R)->R.Perm (V ++ W)->1<=m->m<=N->(R.take m).Pairwise (le lt)->Q (some m) st') :
    wpS [5] A E s (reverseSlice' lo (lo + n) >>= λ _=>forIn [n:N] (none,n) f >>= g) Q st:=by
 refine wpS_bind (uj1 a hlo [1] λ st1 a1=>?_);have e:N=(V.reverse ++ W).length:=by rw [length_append,length_reverse]; exact hN
 have pm:(V.reverse ++ W).Perm (V ++ W):=List.Perm.append_right _ (reverse_perm V);subst e
 refine wpS_bind (wpS_mono (xn1 c hf a1 (λ x hx=>hM x (by
  rcases List.mem_append.mp hx with q | q
  ·exact mem_append_left _ q
  ·exact mem_append_right _ (pm.mem_iff.mp q))) hlo h1 (by rw [length_append,length_reverse]; omega) ?_) ?_)
 ·rw [hn,List.take_append_of_le_length (by rw [length_reverse]; omega),take_of_length_le (by rw [length_reverse]; omega)];exact List.pairwise_reverse.mpr so
 ·rintro ⟨r,m⟩ st2 ⟨rfl,rfl,b1,b2,b3,_⟩;dsimp only at b1 b2 b3 ⊢;rw [hg];exact wpS_pure (h m _ _ a1 pm [1] b2 b3)
abbrev FD:=Nat->Option [34] × Nat × Nat->StateT SortSt Sem (ForInStep (Option [34] × Nat × Nat))
def isD (lo:Nat) (f:FD):Prop:=∀ x n q,f x (none,n,q)=(ltAt' (lo + n) (lo + n - 1) >>= λ r=>match r with
 | some true=>if q > 0 then reverseSlice' (lo + n - (q + 1)) (lo + n) >>= λ _=>pure (.yield (none,n + 1,0)) else pure (.yield (none,n + 1,0))
 | some false=>ltAt' (lo + n - 1) (lo + n) >>= λ r=>match r with
  | some true=>pure (.done (none,n,q))
  | some false=>pure (.yield (none,n + 1,q + 1))
  | none=>pure (.done (some none,n,q))
 | none=>pure (.done (some none,n,q)))
structure Fall (κ:SortKind) (p:Array (Nat × Nat × Nat)) (lt:Keyed->Keyed->Bool) (P R:List Keyed) (st:SortSt) (n q:Nat) (X B W:List Keyed) (b:Keyed):Prop where
 at_:At κ p st (P ++ (X ++ (B ++ b :: W)))
 hn:n=X.length + B.length + 1
 hq:q=B.length
 pm:(X ++ (B ++ b :: W)).Perm R
 dn:(X ++ (B ++ [b])).Pairwise λ x y=>le lt y x
 eq:∀ x ∈ B,le lt x b /\ le lt b x
theorem Fall.low {P R X B W:[37]} {st:SortSt} {n q:Nat} {b:Keyed} (F:Fall κ p lt P R st n q X B W b):∀ z ∈ X ++ B,le lt b z:=by
 have d:=F.dn;rw [<- append_assoc] at d;exact λ z hz=>(List.pairwise_append.mp d).2.2 z hz b (List.mem_singleton.mpr rfl)
theorem Fall.rest {P R X B W:[37]} {st:SortSt} {n q:Nat} {b:Keyed} (F:Fall κ p lt P R st n q X B W b) (hx:n < R.length):∃ y W',W=y :: W':=by
 cases W with
 | cons y W'=>exact ⟨y,W',rfl⟩
 | nil =>
  have:=F.pm.length_eq;rw [length_append,length_append,length_cons,length_nil] at this;have:=F.hn;omega
theorem xa4 (c:[30]) {P R X B W:[37]} {st:SortSt} {n q:Nat} {b:Keyed} (F:Fall κ p lt P R st n q X B W b):(X ++ (B ++ [b]).reverse).Pairwise λ x y=>le lt y x:=by
 obtain ⟨d1,d2,d3⟩:=List.pairwise_append.mp F.dn;refine List.pairwise_append.mpr ⟨d1,?_,λ x hx y hy=>d3 x hx y (List.mem_reverse.mp hy)⟩
 have all:∀ x ∈ B ++ [b],le lt x b /\ le lt b x:=λ x hx=>by
  rcases List.mem_append.mp hx with h | h
  ·exact F.eq x h
  ·rw [mem_singleton] at h; subst h; exact ⟨c.rf x,c.rf x⟩
 rw [List.pairwise_reverse];exact List.Pairwise.imp_of_mem (λ {x y} hx hy _=>c.le_tr (all x hx).1 (all y hy).2) d2
theorem zx3 (c:[30]) {st:SortSt} {P R X W:[37]} {y:Keyed} {n1 lo N:Nat} {f:FD} {g:Option [34] × Nat × Nat->StateT SortSt Sem [34]} {Q:Option Nat->SortSt->Prop} (hf:isD lo f)
    (hg:∀ n q,∃ J,g (none,n,q)=(if q > 0 then reverseSlice' (lo + n - (q + 1)) (lo + n) >>= λ _=>J else J) /\ ∀ st' V W,At κ p st' (P ++ (V ++ W))->(V ++ W).Perm R->n=V.length->1<=n->V.Pairwise (λ x y=>le lt y x)->wpS [5] A E s J Q st') (hlo:lo=P.length) (hN:N=R.length) (hR:∀ x ∈ P,M x) (hM:∀ x ∈ R,M x) (hn:n1=X.length) (a:At κ p st (P ++ (X ++ y :: W))) (pm:(X ++ y :: W).Perm R) (dn:(X ++ [y]).Pairwise λ x y=>le lt y x) :
    wpS [5] A E s (forIn [n1 + 1:N] (none,n1 + 1,0) f >>= g) Q st:=by
 have mem:∀ {L:[37]},L.Perm R->∀ x ∈ P ++ L,M x:=λ e x hx=>by
  rcases List.mem_append.mp hx with h | h
  ·exact hR x h
  ·exact hM x (e.mem_iff.mp h)
 refine wpS_bind (wpS_mono (wpS_forRange (λ x (r:Option [34] × Nat × Nat) st'=>∃ q X B W b,r=(none,x,q) /\ Fall κ p lt P R st' x q X B W b) (Q:=λ (r:Option [34] × Nat × Nat) st'=>∃ n q X B W b,r=(none,n,q) /\ Fall κ p lt P R st' n q X B W b) ?_ ?_ ⟨0,X,[],W,y,rfl,⟨a,by simp [hn],rfl,pm,dn,λ _ h=>nomatch h⟩⟩) ?_)
 ·rintro x r st1 _ hx ⟨q,X,B,W,b,rfl,F⟩;obtain ⟨v,W',rfl⟩:=F.rest [1];rw [hf];have L:=F.at_;have hn':=F.hn;have hq':=F.hq
  have e1:(P ++ (X ++ (B ++ b :: v :: W')))[lo + x]?=some v:=by
   rw [getElem?_append_right [1],getElem?_append_right [1],getElem?_append_right [1],show lo + x - P.length - X.length - B.length=1 by omega]; rfl
  have e2:(P ++ (X ++ (B ++ b :: v :: W')))[lo + x - 1]?=some b:=by
   rw [getElem?_append_right [1],getElem?_append_right [1],getElem?_append_right [1],show lo + x - 1 - P.length - X.length - B.length=0 by omega]; rfl
  refine wpS_bind (te1 c L (mem F.pm) e1 e2 ?_);cases s1:lt v b with
  | true =>
   dsimp only
   have low:∀ z ∈ X ++ (B ++ [b]),le lt v z:=λ z hz=>by
    rw [<- append_assoc] at hz;rcases List.mem_append.mp hz with h | h
    ·exact c.le_tr (c.lt_le s1) (F.low z h)
    ·rw [mem_singleton] at h; subst h; exact c.lt_le s1
   by_cases z:q > 0
   ·rw [if_pos z];refine wpS_bind (uj1 (U:=P ++ X) (V:=B ++ [b]) (W:=v :: W') (by rw [append_assoc,append_assoc]; exact L) (by rw [length_append]; omega) (by simp only [length_append,length_cons,length_nil]; omega) λ st2 a2=>wpS_pure ⟨0,X ++ (B ++ [b]).reverse,[],W',v,rfl,?_⟩);refine ⟨by rw [append_assoc] at a2; simpa [append_assoc] using a2,by simp only [length_append,length_reverse,length_cons,length_nil]; omega,rfl,?_,?_,λ _ h=>nomatch h⟩
    ·refine .trans ?_ F.pm;rw [nil_append,append_assoc];refine List.Perm.append_left _ (.trans (List.Perm.append_right _ (reverse_perm _)) ?_);rw [append_assoc];exact .refl _
    ·rw [nil_append];refine List.pairwise_append.mpr ⟨xa4 c F,pairwise_singleton _ _,λ z1 hz1 y1 hy1=>?_⟩;rw [mem_singleton] at hy1; subst hy1;refine low z1 ?_;rcases List.mem_append.mp hz1 with h | h
     ·exact mem_append_left _ h
     ·exact mem_append_right _ (List.mem_reverse.mp h)
   ·rw [if_neg z];have b0:B=[]:=List.eq_nil_of_length_eq_zero [1];subst b0;refine wpS_pure ⟨0,X ++ [b],[],W',v,rfl,⟨by simpa [append_assoc] using L,by simp only [length_append,length_cons,length_nil] at hn' ⊢; omega,rfl,by simpa [append_assoc] using F.pm,?_,λ _ h=>nomatch h⟩⟩;refine List.pairwise_append.mpr ⟨F.dn,pairwise_singleton _ _,λ z1 hz1 y1 hy1=>?_⟩;rw [nil_append,mem_singleton] at hy1; subst hy1;exact low z1 hz1
  | false =>
   dsimp only;refine wpS_bind (te1 c L (mem F.pm) e2 e1 ?_);cases s2:lt b v with
   | true=>exact wpS_pure ⟨x,q,X,B,v :: W',b,rfl,F⟩
   | false =>
    refine wpS_pure ⟨q + 1,X,B ++ [b],W',v,rfl,⟨by simpa [append_assoc] using L,by simp only [length_append,length_cons,length_nil]; omega,by simp only [length_append,length_cons,length_nil]; omega,by simpa [append_assoc] using F.pm,?_,?_⟩⟩
    ·rw [<- append_assoc];refine List.pairwise_append.mpr ⟨F.dn,pairwise_singleton _ _,λ z1 hz1 y1 hy1=>?_⟩;rw [mem_singleton] at hy1; subst hy1;rw [<- append_assoc] at hz1;rcases List.mem_append.mp hz1 with h | h
     ·exact c.le_tr s2 (F.low z1 h)
     ·rw [mem_singleton] at h; subst h; exact s2
    ·intro z hz;rcases List.mem_append.mp hz with h | h
     ·exact ⟨c.le_tr (F.eq z h).1 s1,c.le_tr s2 (F.eq z h).2⟩
     ·rw [mem_singleton] at h; subst h; exact ⟨s1,s2⟩
 ·rintro r st1 ⟨q,X,B,W,b,rfl,F⟩;exact ⟨_,q,X,B,W,b,rfl,F⟩
 ·rintro r st1 ⟨n,q,X,B,W,b,rfl,F⟩;obtain ⟨J,eJ,hJ⟩:=hg n q;rw [eJ];have hn':=F.hn;have hq':=F.hq;by_cases z:q > 0
  ·rw [if_pos z];refine wpS_bind (uj1 (U:=P ++ X) (V:=B ++ [b]) (W:=W) (by simpa [append_assoc] using F.at_) (by rw [length_append]; omega) (by simp only [length_append,length_cons,length_nil]; omega) λ st2 a2=>?_);refine hJ st2 (X ++ (B ++ [b]).reverse) W (by rw [append_assoc] at a2; rw [append_assoc]; exact a2) ?_ (by simp only [length_append,length_reverse,length_cons,length_nil]; omega) [1] (xa4 c F);refine .trans ?_ F.pm;rw [append_assoc];refine List.Perm.append_left _ (.trans (List.Perm.append_right _ (reverse_perm _)) ?_);rw [append_assoc];exact .refl _
  ·rw [if_neg z];exact hJ st1 (X ++ (B ++ [b])) W (by simpa [append_assoc] using F.at_) (by simpa [append_assoc] using F.pm) (by simp only [length_append,length_cons,length_nil]; omega) [1] F.dn
theorem ua4 (c:[30]) {st:SortSt} {P R:[37]} {lo:Nat} {Q:Option Nat->SortSt->Prop} (a:At κ p st (P ++ R)) (hM:∀ x ∈ P ++ R,M x) (hlo:lo=P.length) (h1:1<=R.length)
    (h:∀ m st' R',At κ p st' (P ++ R')->R'.Perm R->1<=m->m<=R.length->(R'.take m).Pairwise (le lt)->Q (some m) st'):wpS [5] A E s (countRun' lo R.length) Q st:=by
 have isa:∀ {f:FA},f=(λ x __s=>(ltAt' (lo + __s.2) (lo + __s.2 - 1) >>= λ r=>match r with
  | some b=>if b=true then pure (.done (none,__s.2)) else pure (.yield (none,__s.2 + 1))
  | x=>pure (.done (some none,__s.2))))->isA lo f:=by
  rintro f rfl x n;refine congrArg _ (funext λ r=>?_);rcases r with _ | _ | _ <;> rfl
 have r0:R[0]?=some R[0]:=getElem?_eq_getElem h1
 have fall:∀ {st1:SortSt} {X W:[37]} {y:Keyed},At κ p st1 (P ++ (X ++ y :: W))->(X ++ y :: W).Perm R->(X ++ [y]).Pairwise (λ x y=>le lt y x)->∀ {n1:Nat},n1=X.length->∀ {f:FD} {g:Option [34] × Nat × Nat->StateT SortSt Sem [34]},isD lo f ->
     (∀ n q,∃ (J:StateT SortSt Sem [34]) (f:FA) (g':Option [34] × Nat->StateT SortSt Sem [34]),g (none,n,q)=(if q > 0 then reverseSlice' (lo + n - (q + 1)) (lo + n) >>= λ _=>J else J) /\ isA lo f /\ (∀ n,g' (none,n)=pure (some n)) /\ J=(reverseSlice' lo (lo + n) >>= λ _=>forIn [n:R.length] (none,n) f >>= g')) ->
     wpS [5] A E s (forIn [n1 + 1:R.length] (none,n1 + 1,0) f >>= g) Q st1:=by
  intro st1 X W y a1 pm dn n1 hn f g hf hg;refine zx3 c hf (λ n q=>?_) hlo rfl (λ x hx=>hM x (mem_append_left _ hx)) (λ x hx=>hM x (mem_append_right _ hx)) hn a1 pm dn;obtain ⟨J,f,g',e1,hf,hg,e⟩:=hg n q;refine ⟨J,e1,?_⟩;intro st2 V W a2 pm2 hn2 h2 so;rw [e];have ll:=pm2.length_eq;rw [length_append] at ll;refine fin3 c hf hg a2 (λ x hx=>?_) hlo hn2 ll.symm h2 so λ m st' R' a3 pm3 m1 m2 so3=>h m st' R' a3 (pm3.trans pm2) m1 m2 so3;rcases List.mem_append.mp hx with q | q
  ·exact hM x (mem_append_left _ q)
  ·exact hM x (mem_append_right _ (pm2.mem_iff.mp q))
 refine wpS_bind (wpS_mono (xn1 c (f:=_) (isa rfl) a hM hlo (Nat.le_refl 1) h1 (by rw [ue0 r0]; exact pairwise_singleton _ _)) ?_);rintro ⟨r,n⟩ st1 ⟨rfl,rfl,b1,b2,b3,b4⟩;dsimp only at b1 b2 b3 b4 ⊢;by_cases z:(n == R.length)=true
 ·rw [if_pos z];exact wpS_pure (h n _ R a (.refl _) b1 b2 b3)
 rw [if_neg z];have z':n ≠ R.length:=λ e=>z (beq_iff_eq.mpr e);rcases b4 with b4 | ⟨x,y,ey,ex,q⟩
 ·exact absurd b4 z'
 have d:R=R.take n ++ y :: R.drop (n + 1):=by
  have:=take_append_drop n R;rw [ug0 ey] at this;exact this.symm
 by_cases n1:n > 1
 ·rw [if_pos n1];refine wpS_bind (te1 c a hM (x:=R[0]) (y:=x) (by rw [getElem?_append_right [1],show lo - P.length=0 by omega]; exact r0) (by rw [getElem?_append_right [1],show lo + n - 1 - P.length=n - 1 by omega]; exact ex) ?_);cases q2:lt R[0] x with
  | true=>exact wpS_pure (h n _ R a (.refl _) b1 b2 b3)
  | false =>
   dsimp only;rw [if_neg [20]]
   have all:∀ u ∈ R.take n,le lt u x /\ le lt x u:=by
    have e0:(R.take n)[0]?=some R[0]:=by rw [getElem?_take_of_lt [1]]; exact r0
    have el:(R.take n)[n - 1]?=some x:=by rw [getElem?_take_of_lt [1]]; exact ex
    intro u hu;obtain ⟨i,hi⟩:=List.mem_iff_getElem?.mp hu
    have li:i < n:=by
     have:=(List.getElem?_eq_some_iff.mp hi).1;rw [length_take] at this;omega
    constructor
    ·by_cases e:i=n - 1
     ·subst e; rw [el] at hi; cases hi; exact c.rf _
     ·exact wl0 b3 [1] hi el
    ·by_cases e:i=0
     ·subst e; rw [e0] at hi; cases hi; exact q2
     ·exact c.le_tr q2 (wl0 b3 [1] e0 hi)
   have lt1:(R.take n).length=n:=by rw [length_take]; omega
   refine wpS_bind (uj1 (U:=P) (V:=R.take n) (W:=y :: R.drop (n + 1)) (by rw [<- d]; exact a) hlo [1] λ st2 a2=>?_);refine wpS_bind (wpS_lift (wpAny_rule ⟨rfl,?_⟩));refine fall a2 ?_ ?_ (by rw [length_reverse]; exact lt1.symm) ?_ ?_
   ·refine .trans (List.Perm.append_right _ (reverse_perm _)) ?_;rw [<- d]
   ·refine List.pairwise_append.mpr ⟨?_,pairwise_singleton _ _,λ u hu v hv=>?_⟩
    ·rw [List.pairwise_reverse];exact b3
    ·rw [mem_singleton] at hv; subst hv;exact c.le_tr (c.lt_le q) (all u (List.mem_reverse.mp hu)).2
   ·intro x n q;refine congrArg _ (funext λ r=>?_);rcases r with _ | _ | _
    ·rfl
    ·dsimp only;rw [if_neg [20]];refine congrArg _ (funext λ r=>?_);rcases r with _ | _ | _ <;> rfl
    ·rfl
   ·intro n q;exact ⟨_,_,_,rfl,isa rfl,λ _=>rfl,rfl⟩
 ·rw [if_neg n1];have e1:n=1:=by omega
  subst e1;refine wpS_bind (wpS_lift (wpAny_rule ⟨rfl,?_⟩));have t1:=ue0 r0;rw [take_zero,nil_append] at t1;have ex0:x=R[0]:=by rw [show 1 - 1=0 from rfl,r0] at ex; cases ex; rfl
  rw [show (0:Nat) + 1=1 from rfl] at t1;rw [t1] at d;refine fall (X:=[R[0]]) (y:=y) (W:=R.drop (1 + 1)) (by rw [<- d]; exact a) (by rw [<- d]) ?_ rfl ?_ ?_
  ·refine List.pairwise_append.mpr ⟨pairwise_singleton _ _,pairwise_singleton _ _,λ u hu v hv=>?_⟩;rw [mem_singleton] at hu hv;subst hu hv;rw [<- ex0];exact c.lt_le q
  ·intro x n q;refine congrArg _ (funext λ r=>?_);rcases r with _ | _ | _
   ·rfl
   ·dsimp only;rw [if_neg [20]];refine congrArg _ (funext λ r=>?_);rcases r with _ | _ | _ <;> rfl
   ·rfl
  ·intro n q;exact ⟨_,_,_,rfl,isa rfl,λ _=>rfl,rfl⟩
end
section
variable {prog:Program} {w:World} {A:Around} {E:[4]} {s:[39]} {κ:SortKind} {p:Array (Nat × Nat × Nat)}
variable {lt:Keyed->Keyed->Bool} {M:Keyed->Prop}
theorem ue2 (c:[30]) {st:SortSt} {P R:[37]} {lo n ok:Nat} {Q:Bool->SortSt->Prop} (a:At κ p st (P ++ R)) (hM:∀ x ∈ P ++ R,M x) (hlo:lo=P.length) (h1:1<=ok) (h2:ok<=n) (h3:n<=R.length) (so:(R.take ok).Pairwise (le lt))
    (h:∀ st' R',At κ p st' (P ++ R')->R'.Perm R->(R'.take n).Pairwise (le lt)->Q true st'):wpS [5] A E s (binarySort' lo n ok) Q st:=by
 refine wpS_bind (wpS_mono (wpS_forRange (λ x (r:Option Bool × Unit) st'=>r=(none,()) /\ ∃ R',At κ p st' (P ++ R') /\ R'.Perm R /\ (R'.take x).Pairwise (le lt)) (Q:=λ (r:Option Bool × Unit) st'=>r=(none,()) /\ ∃ R',At κ p st' (P ++ R') /\ R'.Perm R /\ (R'.take n).Pairwise (le lt)) ?_ ?_ ⟨rfl,R,a,.refl _,by rw [show max ok 1=ok by omega]; exact so⟩) ?_)
 ·rintro k r st1 hk0 hk ⟨rfl,R',a1,pm,so1⟩;have ll:=pm.length_eq
  have hM1:∀ x ∈ P ++ R',M x:=λ x hx=>by
   rcases List.mem_append.mp hx with q | q
   ·exact hM x (mem_append_left _ q)
   ·exact hM x (mem_append_right _ (pm.mem_iff.mp q))
  have ev:R'[k]?=some R'[k]:=getElem?_eq_getElem [1];have at':∀ {m:Nat} {x:Keyed},R'[m]?=some x->m < k->(R'.take k)[m]?=some x:=λ e l=>by rw [getElem?_take_of_lt l]; exact e
  dsimp only
  refine wpS_bind (wpS_mono (wpS_forRange (λ y (r:Option Bool × Nat × Nat) st'=>st'=st1 /\ r.1=none /\ r.2.1<=r.2.2 /\ r.2.2<=k /\ r.2.2 - r.2.1<=k - y /\ (∀ i x,i < r.2.1->R'[i]?=some x->le lt x R'[k]) /\ ∀ i x,r.2.2<=i->i < k->R'[i]?=some x->le lt R'[k] x)
   (Q:=λ (r:Option Bool × Nat × Nat) st'=>st'=st1 /\ r.1=none /\ r.2.1<=k /\ (∀ i x,i < r.2.1->R'[i]?=some x->le lt x R'[k]) /\ ∀ i x,r.2.1<=i->i < k->R'[i]?=some x->le lt R'[k] x) ?_ ?_ ⟨rfl,rfl,Nat.zero_le _,Nat.le_refl _,Nat.le_refl _,λ i x hi=>absurd hi (Nat.not_lt_zero _),λ i x h1 h2=>absurd h2 (by show ¬ i < k; exact Nat.not_lt.mpr h1)⟩) ?_)
  ·rintro y ⟨r,l,u⟩ st2 _ hy ⟨rfl,rfl,b1,b2,b3,b4,b5⟩;dsimp only at b1 b2 b3 b4 b5 ⊢;by_cases z:l ≥ u
   ·rw [if_pos z];have:l=u:=by omega
    subst this;exact wpS_pure ⟨rfl,rfl,b2,b4,b5⟩
   ·rw [if_neg z];have em:R'[(l + u) / 2]?=some R'[(l + u) / 2]:=getElem?_eq_getElem [1];refine wpS_bind (te1 c a1 hM1 (x:=R'[k]) (y:=R'[(l + u) / 2]) (by rw [getElem?_append_right [1],show lo + k - P.length=k by omega]; exact ev) (by rw [getElem?_append_right [1],show lo + (l + u) / 2 - P.length=(l + u) / 2 by omega]; exact em) ?_);cases q:lt R'[k] R'[(l + u) / 2] with
    | true =>
     refine wpS_pure ⟨rfl,rfl,by show l<=(l + u) / 2; omega,by show (l + u) / 2<=k; omega,by show (l + u) / 2 - l<=_; omega,b4,λ i x h1 h2 ex=>?_⟩;by_cases e:i=(l + u) / 2
     ·subst e; rw [em] at ex; cases ex; exact c.lt_le q
     ·have h1':(l + u) / 2<=i:=h1;exact c.le_tr (c.lt_le q) (wl0 so1 (show (l + u) / 2 < i by omega) (at' em [1]) (at' ex h2))
    | false =>
     refine wpS_pure ⟨rfl,rfl,by show (l + u) / 2 + 1<=u; omega,b2,by show u - ((l + u) / 2 + 1)<=_; omega,λ i x h1 ex=>?_,b5⟩;have h1':i < (l + u) / 2 + 1:=h1;by_cases e:i=(l + u) / 2
     ·subst e; rw [em] at ex; cases ex; exact q
     ·exact c.le_tr (wl0 so1 (show i < (l + u) / 2 by omega) (at' ex [1]) (at' em [1])) q
  ·rintro ⟨r,l,u⟩ st2 ⟨rfl,rfl,b1,b2,b3,b4,b5⟩;dsimp only at b1 b2 b3 b4 b5 ⊢;have:l=u:=by have:u - l<=k - max 0 k:=b3; omega
   subst this;exact ⟨rfl,rfl,b2,b4,b5⟩
  ·rintro ⟨r,l,u⟩ st2 ⟨rfl,rfl,b2,b4,b5⟩;dsimp only at b2 b4 b5 ⊢
   have d:R'=R'.take l ++ ((R'.take k).drop l ++ R'[k] :: R'.drop (k + 1)):=by
    have e1:=take_append_drop k R';rw [ug0 ev] at e1;have e2:=take_append_drop l (R'.take k);rw [List.take_take,show min l k=l by omega] at e2;rw [<- append_assoc,e2];exact e1.symm
   have t1:(R'.take l).length=l:=by rw [length_take]; omega
   have t2:((R'.take k).drop l).length=k - l:=by rw [length_drop,length_take]; omega
   refine wpS_bind (sw3 (U:=P ++ R'.take l) (V:=(R'.take k).drop l) (x:=R'[k]) (W:=R'.drop (k + 1)) (by rw [append_assoc,<- d]; exact a1) (by rw [length_append]; omega) (by rw [length_append]; omega) λ st3 a3=>wpS_pure ⟨rfl,R'.take l ++ R'[k] :: ((R'.take k).drop l ++ R'.drop (k + 1)),by rw [append_assoc] at a3; exact a3,?_,?_⟩)
   ·refine .trans ?_ pm
    conv=>rhs; rw [d]
    exact List.Perm.append_left _ List.perm_middle.symm
   ·have e:(R'.take l ++ R'[k] :: ((R'.take k).drop l ++ R'.drop (k + 1))).take (k + 1)=R'.take l ++ R'[k] :: (R'.take k).drop l:=by
      rw [<- List.cons_append,<- append_assoc];exact List.take_left' (by simp only [length_append,length_cons]; omega)
    rw [e]
    have m1:∀ z ∈ R'.take l,le lt z R'[k]:=λ z hz=>by
     obtain ⟨i,hi,ez⟩:=List.mem_take_iff_getElem.mp hz;exact b4 i z [1] (List.getElem?_eq_some_iff.mpr ⟨by omega,ez⟩)
    have m2:∀ z ∈ (R'.take k).drop l,le lt R'[k] z:=λ z hz=>by
     obtain ⟨i,hi,ez⟩:=List.mem_drop_iff_getElem.mp hz;have hi':i + l < k:=by rw [length_take] at hi; omega
     rw [List.getElem_take] at ez;exact b5 (l + i) z [1] [1] (List.getElem?_eq_some_iff.mpr ⟨by omega,ez⟩)
    have so2:=so1;have e2:=take_append_drop l (R'.take k);rw [List.take_take,show min l k=l by omega] at e2;rw [<- e2] at so2;obtain ⟨p1,p2,p3⟩:=List.pairwise_append.mp so2;refine List.pairwise_append.mpr ⟨p1,List.pairwise_cons.mpr ⟨m2,p2⟩,λ z hz v hv=>?_⟩;rcases List.mem_cons.mp hv with rfl | hv
    ·exact m1 z hz
    ·exact p3 z hz v hv
 ·rintro r st1 ⟨rfl,R',a1,pm,so1⟩;exact ⟨rfl,R',a1,pm,by rw [show max (max ok 1) n=n by omega] at so1; exact so1⟩
 ·rintro r st1 ⟨rfl,R',a1,pm,so1⟩;exact wpS_pure (h st1 R' a1 pm so1)
end
theorem wb (s:Nat):∀ (m V U W:[37]) (arr:Array Keyed) (o:Nat),arr.toList=U ++ (V ++ W)->V.length=m.length->U.length=s + o ->
    ((m.zipIdx o).foldl (λ (a:Array Keyed) (x:Keyed × Nat)=>match x with | (q,j)=>a.setIfInBounds (s + j) q) arr).toList=U ++ (m ++ W)
 | [],V,U,W,arr,o,h,l,_=>by
  have e:V=[]:=List.eq_nil_of_length_eq_zero l;subst e;exact h
 | v :: m,V,U,W,arr,o,h,l,hu=>by
  cases V with
  | nil=>simp at l
  | cons u V =>
   rw [List.zipIdx_cons,foldl_cons]
   have:=wb s m V (U ++ [v]) W (arr.setIfInBounds (s + o) v) (o + 1) (by
    rw [Array.toList_setIfInBounds,h,List.set_append_right _ _ [1],show s + o - U.length=0 by omega];simp) (by simpa using l) (by simp; omega)
   rw [append_assoc] at this;exact this
section
variable {prog:Program} {w:World} {A:Around} {E:[4]} {s:[39]} {κ:SortKind} {p:Array (Nat × Nat × Nat)}
variable {lt:Keyed->Keyed->Bool} {M:Keyed->Prop}
theorem ts2 {σ:Type} {Md:Model} {s':σ} {Q:PUnit->σ->Prop} {st:σ} (h:Q ⟨⟩ s'):wpS Md A E s (set s':StateT σ Sem PUnit) Q st:=by
 unfold wpS; rw [StateT.run_set]; exact wpAny_pure ⟨rfl,h⟩
theorem zj1 {arr:Array Keyed} {P r S:[37]} {b i:Nat} (h:arr.toList=P ++ (r ++ S)) (hb:b=P.length) (hi:i < r.length):arr[b + i]?=some r[i]:=by
 rw [<- getElem?_toList,h,getElem?_append_right [1],getElem?_append_left [1],show b + i - P.length=i by omega];exact getElem?_eq_getElem hi
theorem bsF (c:[30]) {arr:Array Keyed} {P r S:[37]} {b:Nat} {key:Keyed} (h:arr.toList=P ++ (r ++ S)) (hb:b=P.length) (hM:∀ x ∈ r,M x) (mk:M key) (so:r.Pairwise (le lt)):By lt M false key arr b r.length (λ i=>!lt key (r.getD i key)) where
 ky:=mk
 it:=λ i hi=>⟨r[i],zj1 h hb hi,hM _ (getElem_mem hi),by rw [getD_some (getElem?_eq_getElem hi),if_neg [20]]⟩
 mono:=λ i j hij hj q=>by
  by_cases z:i=j
  ·subst z; exact q
  have e1:=getElem?_eq_getElem (l:=r) (i:=i) [1];have e2:=getElem?_eq_getElem hj;have l:=wl0 so (show i < j by omega) e1 e2;rw [getD_some e2] at q;rw [getD_some e1];have h':le lt r[j] key:=(by simpa using q:lt key r[j]=false);have z:lt key r[i]=false:=c.le_tr l h';simpa using z
theorem bsT (c:[30]) {arr:Array Keyed} {P r S:[37]} {b:Nat} {key:Keyed} (h:arr.toList=P ++ (r ++ S)) (hb:b=P.length) (hM:∀ x ∈ r,M x) (mk:M key) (so:r.Pairwise (le lt)):By lt M true key arr b r.length (λ i=>lt (r.getD i key) key) where
 ky:=mk
 it:=λ i hi=>⟨r[i],zj1 h hb hi,hM _ (getElem_mem hi),by rw [getD_some (getElem?_eq_getElem hi),if_pos rfl]⟩
 mono:=λ i j hij hj q=>by
  by_cases z:i=j
  ·subst z; exact q
  have e1:=getElem?_eq_getElem (l:=r) (i:=i) [1];have e2:=getElem?_eq_getElem hj;have l:=wl0 so (show i < j by omega) e1 e2;rw [getD_some e2] at q;rw [getD_some e1];rcases c.ng r[j] r[i] key q with z | z
  ·rw [show lt r[j] r[i]=false from l] at z; cases z
  ·exact z
theorem vx3 (c:[30]) {st:SortSt} {P r1 r2 S:[37]} {i sa na pw sb nb pw2:Nat} {Q:Bool->SortSt->Prop} (a:At κ p st (P ++ (r1 ++ (r2 ++ S)))) (hM:∀ x ∈ r1 ++ r2,M x) (e1:p[i]?=some (sa,na,pw)) (e2:p[i + 1]?=some (sb,nb,pw2)) (hsa:sa=P.length) (hna:na=r1.length) (hsb:sb=P.length + r1.length) (hnb:nb=r2.length)
    (n1:0 < r1.length) (n2:0 < r2.length) (s1:r1.Pairwise (le lt)) (s2:r2.Pairwise (le lt)) (h:∀ st' m,At κ ((p.setIfInBounds i (sa,na + nb,pw)).eraseIdxIfInBounds (i + 1)) st' (P ++ (m ++ S))->m.Perm (r1 ++ r2)->m.Pairwise (le lt)->Q true st') :
    wpS [5] A E s (mergeAt' i) Q st:=by
 refine wpS_bind (wpS_get ?_);obtain rfl:=a.pe;have ls:=a.ls;rw [e1,e2];dsimp only;have M1:∀ x ∈ r1,M x:=λ x hx=>hM x (mem_append_left _ hx);have M2:∀ x ∈ r2,M x:=λ x hx=>hM x (mem_append_right _ hx);have ls2:(arrOf st).toList=(P ++ r1) ++ (r2 ++ S):=by rw [append_assoc]; exact ls
 have hsb':sb=(P ++ r1).length:=by rw [length_append]; exact hsb
 have k0:r2[0]?=some r2[0]:=getElem?_eq_getElem n2;have kl:r1[r1.length - 1]?=some r1[r1.length - 1]:=getElem?_eq_getElem [1]
 have fin:∀ {st':SortSt},Ok κ st'->arrOf st'=arrOf st->pendingOf st'=((pendingOf st).setIfInBounds i (sa,na + nb,pw)).eraseIdxIfInBounds (i + 1)->(∀ x ∈ r1,∀ y ∈ r2,le lt x y)->Q true st':=λ o ea ep hx =>
  h _ (r1 ++ r2) ⟨o,ep,by rw [ea,ls,append_assoc]⟩ (.refl _) (List.pairwise_append.mpr ⟨s1,s2,hx⟩)
 refine wpS_bind (ts2 ?_);refine wpS_bind (xd0 (x:=r2[0]) (by have:=zj1 (i:=0) ls2 hsb' n2; exact this) ?_);subst hna hnb;refine wpS_bind (ss0 c ⟨a.ok.kd,a.ok.fl⟩ (bsF c ls hsa M1 (M2 _ (getElem_mem n2)) s1) n1 λ k k1 k2 k3=>?_);dsimp only
 have lowA:∀ i x,i < k->r1[i]?=some x->le lt x r2[0]:=λ i x hi ex=>by
  have q:=k2 i hi;rw [getD_some ex] at q;exact (by simpa using q:lt r2[0] x=false)
 have highA:∀ i x,k<=i->r1[i]?=some x->le lt r2[0] x:=λ i x hi ex=>by
  have q:=k3 i hi (List.getElem?_eq_some_iff.mp ex).1;rw [getD_some ex] at q;exact c.lt_le (by simpa using q)
 have first2:∀ y ∈ r2,le lt r2[0] y:=λ y hy=>by
  obtain ⟨j,hj,rfl⟩:=List.mem_iff_getElem.mp hy;by_cases z:j=0
  ·subst z; exact c.rf _
  ·exact wl0 s2 [1] k0 (getElem?_eq_getElem hj)
 have last1:∀ x ∈ r1,le lt x r1[r1.length - 1]:=λ x hx=>by
  obtain ⟨j,hj,rfl⟩:=List.mem_iff_getElem.mp hx;by_cases z:j=r1.length - 1
  ·subst z; exact c.rf _
  ·exact wl0 s1 [1] (getElem?_eq_getElem hj) kl
 by_cases z:(r1.length - k == 0)=true
 ·rw [if_pos z];have z':r1.length - k=0:=eq_of_beq z;refine wpS_pure (fin ⟨a.ok.kd,a.ok.fl⟩ rfl rfl λ x hx y hy=>?_);obtain ⟨j,hj,rfl⟩:=List.mem_iff_getElem.mp hx;exact c.le_tr (lowA j _ [1] (getElem?_eq_getElem hj)) (first2 y hy)
 rw [if_neg z];have z':r1.length - k ≠ 0:=λ e=>z (beq_iff_eq.mpr e)
 refine wpS_bind (xd0 (x:=r1[r1.length - 1]) (by
  have:=zj1 (i:=r1.length - 1) ls hsa [1];rw [show sa + k + (r1.length - k) - 1=sa + (r1.length - 1) by omega];exact this) ?_)
 refine wpS_bind (ss0 c ⟨a.ok.kd,a.ok.fl⟩ (bsT c ls2 hsb' M2 (M1 _ (getElem_mem _)) s2) [1] λ t t1 t2 t3=>?_);dsimp only
 have lowB:∀ i y,i < t->r2[i]?=some y->le lt y r1[r1.length - 1]:=λ i y hi ey=>by
  have q:=t2 i hi;rw [getD_some ey] at q;exact c.lt_le q
 have highB:∀ i y,t<=i->r2[i]?=some y->le lt r1[r1.length - 1] y:=λ i y hi ey=>by
  have q:=t3 i hi (List.getElem?_eq_some_iff.mp ey).1;rw [getD_some ey] at q;exact q
 by_cases zt:(t == 0)=true
 ·rw [if_pos zt];have zt':t=0:=eq_of_beq zt;refine wpS_pure (fin ⟨a.ok.kd,a.ok.fl⟩ rfl rfl λ x hx y hy=>?_);obtain ⟨j,hj,rfl⟩:=List.mem_iff_getElem.mp hy;exact c.le_tr (last1 x hx) (highB j _ [1] (getElem?_eq_getElem hj))
 rw [if_neg zt];have zt':t ≠ 0:=λ e=>zt (beq_iff_eq.mpr e)
 have xs:((arrOf st).extract (sa + k) sb).toList=r1.drop k:=by
  rw [wb3,ls2,List.take_append_of_le_length [1],take_of_length_le [1],List.drop_append,show sa + k - P.length=k by omega,drop_eq_nil_of_le [1],nil_append]
 have ys:((arrOf st).extract sb (sb + t)).toList=r2.take t:=by
  rw [vb3,ls2,List.drop_left' hsb'.symm,List.take_append_of_le_length [1]]
 have dx:∀ x ∈ r1.drop k,∃ j,k<=j /\ r1[j]?=some x:=λ x hx=>by
  obtain ⟨j,hj,rfl⟩:=List.mem_drop_iff_getElem.mp hx;exact ⟨k + j,by omega,getElem?_eq_getElem [1]⟩
 have dy:∀ y ∈ r2.take t,∃ j,j < t /\ r2[j]?=some y:=λ y hy=>by
  obtain ⟨j,hj,rfl⟩:=List.mem_take_iff_getElem.mp hy;exact ⟨j,by omega,getElem?_eq_getElem [1]⟩
 have done:∀ (mg:Array Keyed) (st2:SortSt),Same κ (SortSt.mk' (kindOf st) (arrOf st) (((pendingOf st).setIfInBounds i (sa,r1.length + r2.length,pw)).eraseIdxIfInBounds (i + 1)) (gallopOf st) (failedOf st)) st2->Fin lt (r1.drop k) (r2.take t) mg.toList ->
     ∀ (f:SortSt->SortSt),(∀ u,f u=setArr u (mg.toList.zipIdx.foldl (λ (a:Array Keyed) (x:Keyed × Nat)=>match x with | (q,j)=>a.setIfInBounds (sa + k + j) q) (arrOf u)))->wpS [5] A E s (modify f >>= λ _=>get >>= λ u=>pure (failedOf u).isNone) Q st2:=by
  intro mg st2 sm F f hf;refine wpS_bind (wpS_modify (wpS_bind (wpS_get ?_)));rw [hf]
  have e:(failedOf (setArr st2 (mg.toList.zipIdx.foldl (λ (a:Array Keyed) (x:Keyed × Nat)=>match x with | (q,j)=>a.setIfInBounds (sa + k + j) q) (arrOf st2)))).isNone=true:=by
   show (failedOf st2).isNone=true;rw [sm.ok.fl]; rfl
  rw [e];have l1:(r1.take k).length=k:=by rw [length_take]; omega
  have l2:mg.toList.length=(r1.drop k ++ r2.take t).length:=F.1.length_eq
  have wbk:=wb (sa + k) mg.toList (r1.drop k ++ r2.take t) (P ++ r1.take k) (r2.drop t ++ S) (arrOf st2) 0 (by
   rw [sm.ar];show (arrOf st).toList=_;rw [ls];simp only [append_assoc];rw [<- append_assoc (r1.take k),take_append_drop,<- append_assoc (r2.take t),take_append_drop]) l2.symm (by rw [length_append]; omega)
  refine wpS_pure (h _ (r1.take k ++ mg.toList ++ r2.drop t) ⟨⟨sm.ok.kd,sm.ok.fl⟩,sm.pe,?_⟩ ?_ ?_)
  ·refine wbk.trans ?_;simp only [append_assoc]
  ·have q:=F.1;refine .trans (List.Perm.append_right _ (List.Perm.append_left _ q)) ?_;rw [<- append_assoc (r1.take k),take_append_drop,append_assoc,take_append_drop]
  ·have mem:∀ v ∈ mg.toList,v ∈ r1.drop k \/ v ∈ r2.take t:=λ v hv=>List.mem_append.mp (F.1.mem_iff.mp hv)
   have lowk:∀ x ∈ r1.take k,le lt x r2[0]:=λ x hx=>by
    obtain ⟨j,hj,rfl⟩:=List.mem_take_iff_getElem.mp hx;exact lowA j _ [1] (getElem?_eq_getElem [1])
   have s1':=s1;rw [<- take_append_drop k r1] at s1';have s2':=s2;rw [<- take_append_drop t r2] at s2'
   have hd:∀ y ∈ r2.drop t,le lt r1[r1.length - 1] y:=λ y hy=>by
    obtain ⟨j,hj,rfl⟩:=List.mem_drop_iff_getElem.mp hy;exact highB (t + j) _ [1] (getElem?_eq_getElem [1])
   refine List.pairwise_append.mpr ⟨List.pairwise_append.mpr ⟨(List.pairwise_append.mp s1').1,F.2,λ x hx v hv=>?_⟩,(List.pairwise_append.mp s2').2.1,λ x hx y hy=>?_⟩
   ·rcases mem v hv with q | q
    ·exact (List.pairwise_append.mp s1').2.2 x hx v q
    ·exact c.le_tr (lowk x hx) (first2 v (mem_of_mem_take q))
   ·rcases List.mem_append.mp hx with q | q
    ·exact c.le_tr (lowk x q) (first2 y (mem_of_mem_drop hy))
    ·rcases mem x q with q | q
     ·exact c.le_tr (last1 x (mem_of_mem_drop q)) (hd y hy)
     ·exact (List.pairwise_append.mp s2').2.2 x q y hy
 have pre1:∀ x ∈ ((arrOf st).extract (sa + k) sb).toList,M x:=λ x hx=>M1 x (by rw [xs] at hx; exact mem_of_mem_drop hx);have pre2:∀ x ∈ ((arrOf st).extract sb (sb + t)).toList,M x:=λ x hx=>M2 x (by rw [ys] at hx; exact mem_of_mem_take hx);have pre3:((arrOf st).extract (sa + k) sb).toList.Pairwise (le lt):=by rw [xs]; exact s1.sublist (drop_sublist _ _)
 have pre4:((arrOf st).extract sb (sb + t)).toList.Pairwise (le lt):=by rw [ys]; exact s2.sublist (take_sublist _ _)
 have pre5:0 < ((arrOf st).extract (sa + k) sb).toList.length:=by rw [xs,length_drop]; omega
 have pre6:0 < ((arrOf st).extract sb (sb + t)).toList.length:=by rw [ys,length_take]; omega
 have pre7:∀ x y,((arrOf st).extract sb (sb + t)).toList[0]?=some x->((arrOf st).extract (sa + k) sb).toList[0]?=some y->le lt x y:=λ x y hx hy=>by
  rw [ys,getElem?_take_of_lt [1],k0] at hx;cases hx;rw [xs] at hy;obtain ⟨j,hj,ej⟩:=dx y (mem_of_getElem? hy);exact highA j y hj ej
 have pre8:∀ x,((arrOf st).extract (sa + k) sb).toList[((arrOf st).extract (sa + k) sb).toList.length - 1]?=some x->∀ y ∈ ((arrOf st).extract sb (sb + t)).toList,le lt y x:=λ x hx y hy=>by
  rw [xs,length_drop,getElem?_drop,show k + (r1.length - k - 1)=r1.length - 1 by omega,kl] at hx;cases hx;rw [ys] at hy;obtain ⟨j,hj,ej⟩:=dy y hy;exact lowB j y hj ej
 by_cases g:r1.length - k<=t
 ·rw [if_pos g];refine wpS_bind (yx3 c ⟨a.ok.kd,a.ok.fl⟩ pre1 pre2 pre3 pre4 pre5 pre6 pre7 pre8 λ mg st2 sm F=>?_);rw [xs,ys] at F;refine done mg st2 sm F _ ?_;intro u; rfl
 ·rw [if_neg g];refine wpS_bind (wx3 c ⟨a.ok.kd,a.ok.fl⟩ pre1 pre2 pre3 pre4 pre5 pre6 pre7 pre8 λ mg st2 sm F=>?_);rw [xs,ys] at F;refine done mg st2 sm F _ ?_;intro u; rfl
end
def pos:Nat->List (List Keyed)->List (Nat × Nat)
 | _,[]=>[]
 | o,r :: rs=>(o,r.length) :: pos (o + r.length) rs
theorem sw0:∀ (o:Nat) (X Y:List (List Keyed)),pos o (X ++ Y)=pos o X ++ pos (o + X.flatten.length) Y
 | o,[],Y=>by simp [pos]
 | o,r :: X,Y=>by
  show (o,r.length) :: pos (o + r.length) (X ++ Y)=_;rw [sw0];simp [pos,Nat.add_assoc]
theorem yg1:∀ (o:Nat) (X:List (List Keyed)),(pos o X).length=X.length
 | _,[]=>rfl
 | o,r :: X=>by show (pos _ X).length + 1=X.length + 1; rw [yg1]
abbrev pn (t:Nat × Nat × Nat):Nat × Nat:=(t.1,t.2.1)
structure Lay (κ:SortKind) (lt:Keyed->Keyed->Bool) (L0:List Keyed) (p:Array (Nat × Nat × Nat)) (st:SortSt) (rs:List (List Keyed)) (rest:List Keyed):Prop where
 at_:At κ p st (rs.flatten ++ rest)
 po:p.toList.map pn=pos 0 rs
 so:∀ r ∈ rs,0 < r.length /\ r.Pairwise (le lt)
 pm:(rs.flatten ++ rest).Perm L0
theorem Lay.size {κ:SortKind} {lt:Keyed->Keyed->Bool} {L0:[37]} {p:Array (Nat × Nat × Nat)} {st:SortSt} {rs:List (List Keyed)} {rest:[37]} (l:Lay κ lt L0 p st rs rest):p.size=rs.length:=by
 have:=congrArg List.length l.po;rw [length_map,yg1] at this;exact this
theorem Lay.many {κ:SortKind} {lt:Keyed->Keyed->Bool} {L0:[37]} {p:Array (Nat × Nat × Nat)} {st:SortSt} {rs:List (List Keyed)} {rest:[37]} (l:Lay κ lt L0 p st rs rest):rs.length<=rs.flatten.length:=by
 have h:=l.so;clear l
 induction rs with
 | nil=>simp
 | cons r rs ih =>
  have a:=(h r (.head _)).1;have b:=ih λ x hx=>h x (.tail _ hx);simp only [length_cons,flatten_cons,length_append];omega
section
variable {prog:Program} {w:World} {A:Around} {E:[4]} {s:[39]} {κ:SortKind} {p:Array (Nat × Nat × Nat)}
variable {lt:Keyed->Keyed->Bool} {M:Keyed->Prop}
theorem Lay.merge (c:[30]) {L0:[37]} {st:SortSt} {rs:List (List Keyed)} {rest:[37]} {i:Nat} {Q:Bool->SortSt->Prop} (hM:∀ x ∈ L0,M x) (l:Lay κ lt L0 p st rs rest) (hi:i + 1 < rs.length)
    (h:∀ st' p' rs',Lay κ lt L0 p' st' rs' rest->rs'.length + 1=rs.length->rs'.flatten.length=rs.flatten.length->Q true st'):wpS [5] A E s (mergeAt' i) Q st:=by
 obtain ⟨X,r1,r2,Y,rfl,hX⟩:∃ X r1 r2 Y,rs=X ++ r1 :: r2 :: Y /\ X.length=i:=by
  refine ⟨rs.take i,rs[i],rs[i + 1],rs.drop (i + 2),?_,by rw [length_take]; omega⟩;rw [<- List.drop_eq_getElem_cons,<- List.drop_eq_getElem_cons,take_append_drop]
 have po:=l.po;rw [sw0] at po;obtain ⟨px,pr,e1,e2,e3⟩:=List.map_eq_append_iff.mp po;obtain ⟨t1,pr1,e4,e5,e6⟩:=List.map_eq_cons_iff.mp e3;obtain ⟨t2,py,e7,e8,e9⟩:=List.map_eq_cons_iff.mp e6;subst e4 e7;obtain ⟨sa,na,pw⟩:=t1;obtain ⟨sb,nb,pw2⟩:=t2;have lp:px.length=i:=by have:=congrArg List.length e2; rw [length_map,yg1] at this; omega
 injection e5 with f1 f2
 injection e8 with f3 f4
 dsimp only at f1 f2 f3 f4;rw [Nat.zero_add] at f1 f3 e9;have g1:p[i]?=some (sa,na,pw):=by rw [<- getElem?_toList,e1,getElem?_append_right [1],show i - px.length=0 by omega]; rfl
 have g2:p[i + 1]?=some (sb,nb,pw2):=by rw [<- getElem?_toList,e1,getElem?_append_right [1],show i + 1 - px.length=1 by omega]; rfl
 have a:=l.at_;have fl:(X ++ r1 :: r2 :: Y).flatten ++ rest=X.flatten ++ (r1 ++ (r2 ++ (Y.flatten ++ rest))):=by simp
 rw [fl] at a;have pm:=l.pm;rw [fl] at pm;have s1:=l.so r1 [20];have s2:=l.so r2 [20];refine vx3 c a (λ x hx=>hM x (pm.mem_iff.mp ?_)) g1 g2 f1 f2 f3 f4 s1.1 s2.1 s1.2 s2.2 λ st' m a' pm' so'=>?_
 ·rcases List.mem_append.mp hx with q | q
  ·exact mem_append_right _ (mem_append_left _ q)
  ·exact mem_append_right _ (mem_append_right _ (mem_append_left _ q))
 ·have lm:=pm'.length_eq;rw [length_append] at lm;refine h st' ((p.setIfInBounds i (sa,na + nb,pw)).eraseIdxIfInBounds (i + 1)) (X ++ m :: Y) ⟨?_,?_,?_,?_⟩ (by simp; omega) (by simp only [List.flatten_append,flatten_cons,length_append]; omega)
  ·have fl2:(X ++ m :: Y).flatten ++ rest=X.flatten ++ (m ++ (Y.flatten ++ rest)):=by simp
   rw [fl2];exact a'
  ·have pl:((p.setIfInBounds i (sa,na + nb,pw)).eraseIdxIfInBounds (i + 1)).toList=px ++ (sa,na + nb,pw) :: py:=by
     rw [Array.toList_eraseIdxIfInBounds,Array.toList_setIfInBounds,e1,List.set_append_right _ _ [1],show i - px.length=0 by omega,List.set_cons_zero,List.eraseIdx_append_of_length_le [1],show i + 1 - px.length=1 by omega];rfl
   rw [pl,map_append,e2,sw0,map_cons];refine congrArg _ ?_;show (sa,na + nb) :: _=(0 + X.flatten.length,m.length) :: pos _ Y;rw [Nat.zero_add,f1,show na + nb=m.length by omega,e9,show X.flatten.length + m.length=X.flatten.length + r1.length + r2.length by omega]
  ·intro r hr;rcases List.mem_append.mp hr with q | q
   ·exact l.so r (mem_append_left _ q)
   ·rcases List.mem_cons.mp q with rfl | q
    ·exact ⟨by omega,so'⟩
    ·exact l.so r (mem_append_right _ (.tail _ (.tail _ q)))
  ·refine .trans ?_ pm;have fl2:(X ++ m :: Y).flatten ++ rest=X.flatten ++ (m ++ (Y.flatten ++ rest)):=by simp
   rw [fl2];refine List.Perm.append_left _ ?_;rw [<- append_assoc r1];exact List.Perm.append_right _ pm'
theorem tj3 (c:[30]) {st:SortSt} {L0:[37]} {Q:Unit->SortSt->Prop} (a:At κ #[] st L0) (hM:∀ x ∈ L0,M x) (h2:2<=L0.length) (h:∀ st' p L,At κ p st' L->L.Perm L0->L.Pairwise (le lt)->Q () st') :
    wpS [5] A E s sortRuns' Q st:=by
 refine wpS_bind (wpS_get ?_);dsimp only;have sz:(arrOf st).size=L0.length:=by rw [<- length_toList,a.ls]
 generalize hsz:(arrOf st).size=size at *;have hs:size=L0.length:=sz;generalize ((sortPriv% PySem.Builtin.minRun):Nat->Nat->Nat->Nat) size size 0=mr;have st0:Lay κ lt L0 #[] st [] L0:=⟨by simpa using a,rfl,λ _ h=>(nomatch h),by simp⟩
 have llen:∀ {p:Array (Nat × Nat × Nat)} {st':SortSt} {rs:List (List Keyed)} {rest:[37]},Lay κ lt L0 p st' rs rest->rs.flatten.length + rest.length=size:=λ l=>by
  have:=l.pm.length_eq;rw [length_append] at this;omega
 have push:∀ {p:Array (Nat × Nat × Nat)} {st':SortSt} {rs:List (List Keyed)} {rest:[37]} {lo n:Nat},Lay κ lt L0 p st' rs rest->lo=rs.flatten.length->1<=n->n<=rest.length->(rest.take n).Pairwise (le lt) ->
     Lay κ lt L0 (p.push (lo,n,0)) (setPending st' ((pendingOf st').push (lo,n,0))) (rs ++ [rest.take n]) (rest.drop n):=by
  intro p st' rs rest lo n l hlo h1 h2 so;have e:(rs ++ [rest.take n]).flatten ++ rest.drop n=rs.flatten ++ rest:=by simp
  have lt1:(rest.take n).length=n:=by rw [length_take]; omega
  refine ⟨by rw [e]; exact ⟨⟨l.at_.ok.kd,l.at_.ok.fl⟩,by show (pendingOf st').push _=_; rw [l.at_.pe],l.at_.ls⟩,?_,?_,by rw [e]; exact l.pm⟩
  ·rw [toList_push,map_append,l.po,sw0];refine congrArg _ ?_;show [(lo,n)]=[(0 + rs.flatten.length,(rest.take n).length)];rw [Nat.zero_add,lt1,hlo]
  ·intro r hr;rcases List.mem_append.mp hr with q | q
   ·exact l.so r q
   ·rw [mem_singleton] at q; subst q; exact ⟨by omega,so⟩
 refine wpS_bind (wpS_mono (wpS_forRange (λ x (r:Option Unit × Nat) st'=>r.1=none /\ x<=r.2 /\ ∃ p rs rest,Lay κ lt L0 p st' rs rest /\ r.2=rs.flatten.length) (Q:=λ (r:Option Unit × Nat) st'=>r.1=none /\ ∃ p rs,Lay κ lt L0 p st' rs []) ?_ ?_ ⟨rfl,Nat.zero_le _,#[],[],L0,st0,rfl⟩) ?_)
 ·rintro x ⟨r,lo⟩ st1 _ hx ⟨rfl,b1,p1,rs,rest,l,hlo⟩;dsimp only at b1 hlo ⊢;have ln:=llen l;by_cases z:lo ≥ size
  ·rw [if_pos z];have e:rest=[]:=List.eq_nil_of_length_eq_zero [1];subst e;exact wpS_pure ⟨rfl,p1,rs,l⟩
  ·rw [if_neg z];have hr:size - lo=rest.length:=by omega
   rw [hr];refine wpS_bind (ua4 c l.at_ (λ x hx=>hM x (l.pm.mem_iff.mp hx)) hlo [1] λ m st2 R2 a2 pm2 m1 m2 so2=>?_);have l2:Lay κ lt L0 p1 st2 rs R2:=⟨a2,l.po,l.so,(List.Perm.append_left _ pm2).trans l.pm⟩;have r2l:=pm2.length_eq
   have jp:∀ (n:Nat) (st3:SortSt) (R3:[37]),Lay κ lt L0 p1 st3 rs R3->1<=n->n<=R3.length->(R3.take n).Pairwise (le lt)->∀ (G:SortSt->StateT SortSt Sem (ForInStep (Option Unit × Nat))) (J:StateT SortSt Sem (ForInStep (Option Unit × Nat))),
       (∀ (q:Array (Nat × Nat × Nat)) (st4:SortSt) rs4,Lay κ lt L0 q st4 rs4 R3->rs4.flatten.length=lo->wpS [5] A E s J (λ r st'=>match r with
        | .done c'=>c'.1=none /\ ∃ p rs,Lay κ lt L0 p st' rs []
        | .yield c'=>c'.1=none /\ x + 1<=c'.2 /\ ∃ p rs rest,Lay κ lt L0 p st' rs rest /\ c'.2=rs.flatten.length) st4) ->
       ((pendingOf st3).back?=none->G st3=J)->(∀ s1 n1 o1,(pendingOf st3).back?=some (s1,n1,o1)->∃ (pw:Nat) (f:Nat->Option Unit × Unit->StateT SortSt Sem (ForInStep (Option Unit × Unit))) (g:Option Unit × Unit->StateT SortSt Sem (ForInStep (Option Unit × Nat))),G st3=(forIn [0:size] (none,()) f >>= g) ∧
        (∀ y,f y (none,())=(get >>= λ u=>match (if (pendingOf u).size > 1 then (pendingOf u)[(pendingOf u).size - 2]? else none) with
         | some (_,_,older)=>if older<=pw then pure (.done (none,())) else mergeAt' ((pendingOf u).size - 2) >>= λ b=>if (!b)=true then pure (.done (some (),())) else pure (.yield (none,()))
         | none=>pure (.done (none,())))) ∧
        g (none,())=(modify (λ u=>setPending u ((pendingOf u).modify ((pendingOf u).size - 1) λ t=>(t.1,t.2.1,pw))) >>= λ _=>J)) ->
       wpS [5] A E s (get >>= G) (λ r st'=>match r with
        | .done c'=>c'.1=none /\ ∃ p rs,Lay κ lt L0 p st' rs []
        | .yield c'=>c'.1=none /\ x + 1<=c'.2 /\ ∃ p rs rest,Lay κ lt L0 p st' rs rest /\ c'.2=rs.flatten.length) st3:=by
    intro n st3 R3 l3 h1 h2 so3 G J hJ hG1 hG2;refine wpS_bind (wpS_get ?_);cases hb:(pendingOf st3).back? with
    | none =>
     rw [hG1 hb];exact hJ _ st3 rs l3 hlo.symm
    | some t =>
     obtain ⟨s1,n1,o1⟩:=t;obtain ⟨pw,f,g,e1,e2,e3⟩:=hG2 s1 n1 o1 hb;rw [e1];refine wpS_bind (wpS_mono (wpS_forRange (λ y (r:Option Unit × Unit) st'=>r=(none,()) /\ ∃ q rs4,Lay κ lt L0 q st' rs4 R3 /\ rs4.flatten.length=lo) (Q:=λ (r:Option Unit × Unit) st'=>r=(none,()) /\ ∃ q rs4,Lay κ lt L0 q st' rs4 R3 /\ rs4.flatten.length=lo) ?_ (λ _ _ q=>q) ⟨rfl,p1,rs,l3,hlo.symm⟩) ?_)
     ·rintro y r st4 _ _ ⟨rfl,q,rs4,l4,hl4⟩;rw [e2];refine wpS_bind (wpS_get ?_);have pe:=l4.at_.pe;have ps:=l4.size;by_cases c1:(pendingOf st4).size > 1
      ·rw [if_pos c1];cases c2:(pendingOf st4)[(pendingOf st4).size - 2]? with
       | none=>exact wpS_pure ⟨rfl,q,rs4,l4,hl4⟩
       | some t =>
        obtain ⟨_,_,older⟩:=t;dsimp only;by_cases c3:older<=pw
        ·rw [if_pos c3];exact wpS_pure ⟨rfl,q,rs4,l4,hl4⟩
        ·rw [if_neg c3];refine wpS_bind (l4.merge c hM (by rw [pe] at c1 ⊢; omega) λ st5 p5 rs5 l5 _ hl5=>?_);rw [if_neg [20]];exact wpS_pure ⟨rfl,p5,rs5,l5,by omega⟩
      ·rw [if_neg c1];exact wpS_pure ⟨rfl,q,rs4,l4,hl4⟩
     ·rintro r st4 ⟨rfl,q,rs4,l4,hl4⟩;rw [e3];refine wpS_bind (wpS_modify (hJ (q.modify (q.size - 1) λ t=>(t.1,t.2.1,pw)) _ rs4 ⟨⟨⟨l4.at_.ok.kd,l4.at_.ok.fl⟩,?_,l4.at_.ls⟩,?_,l4.so,l4.pm⟩ hl4))
      ·have pe4:=l4.at_.pe;subst pe4;rfl
      ·rw [<- l4.po,Array.toList_modify];apply ext_getElem?;intro k;rw [getElem?_map,getElem?_map,List.getElem?_modify];split
       ·cases q.toList[k]? <;> rfl
       ·cases q.toList[k]? <;> rfl
   have end_:∀ {n:Nat} {R3:[37]},1<=n->n<=R3.length->(R3.take n).Pairwise (le lt)->∀ (q:Array (Nat × Nat × Nat)) (st4:SortSt) rs4,Lay κ lt L0 q st4 rs4 R3->rs4.flatten.length=lo->∀ (f:SortSt->SortSt),(∀ u,f u=setPending u ((pendingOf u).push (lo,n,0)))->wpS [5] A E s (modify f >>= λ _=>pure (ForInStep.yield ((none,lo + n):Option Unit × Nat))) (λ r st'=>match r with
         | .done c'=>c'.1=none /\ ∃ p rs,Lay κ lt L0 p st' rs []
         | .yield c'=>c'.1=none /\ x + 1<=c'.2 /\ ∃ p rs rest,Lay κ lt L0 p st' rs rest /\ c'.2=rs.flatten.length) st4:=by
    intro n R3 h1 h2 so3 q st4 rs4 l4 hl4 f hf;refine wpS_bind (wpS_modify (wpS_pure ?_));rw [hf];refine ⟨rfl,by show x + 1<=lo + n; omega,_,_,_,push l4 hl4.symm h1 h2 so3,?_⟩;show lo + n=_;rw [List.flatten_append,length_append];simp only [flatten_cons,List.flatten_nil,append_nil,length_take];omega
   dsimp only;by_cases g:m < mr
   ·rw [if_pos g];refine wpS_bind (wpS_lift (wpAny_rule ⟨rfl,?_⟩));refine wpS_bind (ue2 c a2 (λ x hx=>hM x (l2.pm.mem_iff.mp hx)) hlo m1 (show m<=min rest.length mr by omega) [1] so2 λ st3 R3 a3 pm3 so3=>?_);rw [if_neg [20]];have l3:Lay κ lt L0 p1 st3 rs R3:=⟨a3,l.po,l.so,(List.Perm.append_left _ pm3).trans l2.pm⟩;have r3l:=pm3.length_eq;refine wpS_mono (jp _ st3 R3 l3 (show 1<=min rest.length mr by omega) [1] so3 _ _ (λ q st4 rs4 l4 hl4=>end_ [1] [1] so3 q st4 rs4 l4 hl4 _ λ _=>rfl) ?_ ?_) ?_
    ·intro hb; rw [hb]
    ·intro s1 n1 o1 hb;rw [hb];refine ⟨_,_,_,rfl,λ y=>?_,rfl⟩;refine congrArg _ (funext λ u=>?_);generalize (if (pendingOf u).size > 1 then (pendingOf u)[(pendingOf u).size - 2]? else none)=o;rcases o with _ | ⟨_,_,_⟩ <;> rfl
    ·intro r st' q; cases r <;> exact q
   ·rw [if_neg g];refine wpS_mono (jp m st2 R2 l2 m1 [1] so2 _ _ (λ q st4 rs4 l4 hl4=>end_ m1 [1] so2 q st4 rs4 l4 hl4 _ λ _=>rfl) ?_ ?_) ?_
    ·intro hb; rw [hb]
    ·intro s1 n1 o1 hb;rw [hb];refine ⟨_,_,_,rfl,λ y=>?_,rfl⟩;refine congrArg _ (funext λ u=>?_);generalize (if (pendingOf u).size > 1 then (pendingOf u)[(pendingOf u).size - 2]? else none)=o;rcases o with _ | ⟨_,_,_⟩ <;> rfl
    ·intro r st' q; cases r <;> exact q
 ·rintro ⟨r,lo⟩ st1 ⟨rfl,b1,p1,rs,rest,l,hlo⟩;dsimp only at b1 hlo;have ln:=llen l;have b1':max 0 size<=lo:=b1;have e:rest=[]:=List.eq_nil_of_length_eq_zero [1];subst e;exact ⟨rfl,p1,rs,l⟩
 ·rintro ⟨r,lo⟩ st1 ⟨rfl,p1,rs,l⟩;dsimp only;have ln:=llen l;have mn:=l.many;refine wpS_bind (wpS_mono (wpS_forRange (λ x (r:Option Unit × Unit) st'=>r=(none,()) /\ ∃ p rs,Lay κ lt L0 p st' rs [] /\ rs.length + x<=size + 1 + (if rs.length<=1 then x else 0)) (Q:=λ (r:Option Unit × Unit) st'=>r=(none,()) /\ ∃ p rs,Lay κ lt L0 p st' rs [] /\ rs.length<=1) ?_ ?_ ⟨rfl,p1,rs,l,by rw [length_nil] at ln; omega⟩) ?_)
  ·rintro x r st2 _ hx ⟨rfl,p2,rs2,l2,b⟩;refine wpS_bind (wpS_get ?_);have pe:=l2.at_.pe;have ps:=l2.size;have ps':(pendingOf st2).size=rs2.length:=by rw [pe]; exact ps
   by_cases z:(pendingOf st2).size<=1
   ·rw [if_pos z];exact wpS_pure ⟨rfl,p2,rs2,l2,by omega⟩
   ·rw [if_neg z];refine wpS_bind (l2.merge c hM ?_ λ st3 p3 rs3 l3 hl3 _=>?_)
    ·exact (show ∀ (P:Prop) [Decidable P] (n m:Nat),2<=n->n=m->(if P then n - 2 - 1 else n - 2) + 1 < m by intro P _ n m h1 h2; split <;> omega) _ _ _ (show 2<=(pendingOf st2).size by omega) ps'
    ·rw [if_neg [20]];refine wpS_pure ⟨rfl,p3,rs3,l3,?_⟩;rw [if_neg [1]] at b;split <;> omega
  ·rintro r st2 ⟨rfl,p2,rs2,l2,b⟩;refine ⟨rfl,p2,rs2,l2,?_⟩;by_cases z:rs2.length<=1
   ·exact z
   ·rw [if_neg z] at b;omega
  ·rintro r st2 ⟨rfl,p2,rs2,l2,b⟩;dsimp only;have pm:=l2.pm;have a2:=l2.at_;rw [append_nil] at pm a2;refine wpS_pure (h st2 p2 _ a2 pm ?_)
   match rs2,b,l2.so with
   | [],_,_=>exact List.Pairwise.nil
   | [r],_,so=>simpa using (so r (.head _)).2
   | _ :: _ :: _,b,_=>simp at b
end
end Ts
namespace Ts
open PySem PyProof.Rows PySem.W
theorem tx1 {α β:Type} {f:α->β} {L N:List β} (h:L.Perm N):∀ l:List α,N=l.map f->∃ l':List α,l'.Perm l /\ L=l'.map f:=by
 induction h with
 | nil=>intro l e; exact ⟨l,.refl _,e⟩
 | cons x _ ih =>
  intro l e;obtain ⟨a,l1,rfl,rfl,e3⟩:=List.map_eq_cons_iff.mp e.symm;obtain ⟨l',p,e4⟩:=ih l1 e3.symm;exact ⟨a :: l',p.cons a,by rw [e4]; rfl⟩
 | swap x y t =>
  intro l e;obtain ⟨a,l1,rfl,rfl,e3⟩:=List.map_eq_cons_iff.mp e.symm;obtain ⟨b,l2,rfl,rfl,e5⟩:=List.map_eq_cons_iff.mp e3;exact ⟨b :: a :: l2,.swap a b l2,by rw [<- e5]; rfl⟩
 | trans _ _ ih1 ih2 =>
  intro l e;obtain ⟨l2,p2,e2⟩:=ih2 l e;obtain ⟨l1,p1,e1⟩:=ih1 l2 e2;exact ⟨l1,p1.trans p2,e1⟩
open Classical in
def idx (vs:[22]) (x:Keyed):Nat:=if h:∃ i:Nat,vs[i]?=some x.1 then Classical.choose h else 0
theorem xm1 {vs:[22]} {x:Keyed} (h:∃ i:Nat,vs[i]?=some x.1):vs[idx vs x]?=some x.1:=by
 unfold idx;rw [dif_pos h];exact Classical.choose_spec h
section
variable {prog:Program} {w:World} {A:Around} {E:[4]} {s:[39]} {κ:SortKind}
theorem run_idx {vs:[22]} {lt:Nat->Nat->Bool} (O:Ms.Ord lt) (h2:2<=vs.length) (sm:∀ (i j:Nat) v,vs[i]?=some v->vs[j]?=some v->∀ k,lt i k=lt j k /\ lt k i=lt k j)
    (ask:∀ (i j:Nat) x y,vs[i]?=some x->vs[j]?=some y->∀ C:Bool->Shared->Prop,C (lt i j) s->wpAny [5] A (keyLt' κ x y) C (λ _ _=>False) s) :
    wpS [5] A E s sortRuns' (λ _ st'=>∃ p:Array Nat,p.Perm [17] /\ Ms.Up lt p vs.length /\ arrOf st'=p.map (kas_item [27]) /\ failedOf st'=none) (SortSt.mk' κ [27] #[] 7 none):=by
 let M:Keyed->Prop:=λ x=>∃ i:Nat,vs[i]?=some x.1
 let lk:Keyed->Keyed->Bool:=λ x y=>lt (idx vs x) (idx vs y)
 have c:Cm prog w A s κ lk M:=⟨λ x y hx hy C h=>ask _ _ _ _ (xm1 hx) (xm1 hy) C h,λ x=>O.ir _,λ x y z=>O.tr _ _ _,λ x y z=>O.ng _ _ _⟩
 have it:[27].toList=(List.range vs.length).map (kas_item [27]):=by
  have:=kas_range [27];have sz:[27].size=vs.length:=by simp
  rw [sz] at this;have e:=congrArg Array.toList this;simpa using e.symm
 have ki:∀ i,i < vs.length->(kas_item [27] i).1=vs.getD i .none:=λ i hi=>by
  show ([27].getD i _).1=_;simp [Array.getD,hi,getD_eq_getElem?_getD]
 refine tj3 c (L0:=[27].toList) ⟨⟨rfl,rfl⟩,rfl,rfl⟩ (λ x hx=>?_) (by simp; exact h2) λ st' p L a pm so=>?_
 ·rw [it] at hx;obtain ⟨i,hi,rfl⟩:=List.mem_map.mp hx;have hi':=List.mem_range.mp hi;exact ⟨i,by rw [ki i hi',getD_eq_getElem?_getD,getElem?_eq_getElem hi']; rfl⟩
 ·obtain ⟨l,pl,el⟩:=tx1 pm _ it;subst el;refine ⟨l.toArray,Array.perm_iff_toList_perm.mpr pl,?_,Array.toList_inj.mp (by rw [a.ls]; simp),a.ok.fl⟩;have ll:l.length=vs.length:=by have:=pl.length_eq; simpa using this
  intro x y hxy hy;show lt (l.toArray.getD y 0) (l.toArray.getD x 0)=false;have gx:∀ z,z < l.length->l.toArray.getD z 0=l.getD z 0:=λ z hz=>by simp [Array.getD,hz,getD_eq_getElem?_getD]
  rw [gx y [1],gx x [1]];by_cases e:x=y
  ·subst e; exact O.ir _
  have ex:l[x]?=some l[x]:=getElem?_eq_getElem [1];have ey:l[y]?=some l[y]:=getElem?_eq_getElem [1];have q:=wl0 so (show x < y by omega) (by rw [getElem?_map,ex]; rfl) (by rw [getElem?_map,ey]; rfl);have rx:l[x] < vs.length:=List.mem_range.mp (pl.mem_iff.mp (getElem_mem _));have ry:l[y] < vs.length:=List.mem_range.mp (pl.mem_iff.mp (getElem_mem _));have vx:vs[l[x]]?=some (kas_item [27] l[x]).1:=by rw [ki _ rx,getD_eq_getElem?_getD,getElem?_eq_getElem rx]; rfl
  have vy:vs[l[y]]?=some (kas_item [27] l[y]).1:=by rw [ki _ ry,getD_eq_getElem?_getD,getElem?_eq_getElem ry]; rfl
  have jx:=xm1 (vs:=vs) (x:=kas_item [27] l[x]) ⟨_,vx⟩;have jy:=xm1 (vs:=vs) (x:=kas_item [27] l[y]) ⟨_,vy⟩;have q':lt (idx vs (kas_item [27] l[y])) (idx vs (kas_item [27] l[x]))=false:=q;rw [(sm _ _ _ jy vy _).1,(sm _ _ _ jx vx _).2] at q';simpa [getD_eq_getElem?_getD,ex,ey] using q'
end
end Ts
namespace Pv
open PySem PySem.Spec PySem.W PyProof.Rows L2
abbrev T3:=Int × Int × Int
def lt3 (a b:T3):Bool:=decide (a.1 < b.1) || (a.1 == b.1 && (decide (a.2.1 < b.2.1) || (a.2.1 == b.2.1 && decide (a.2.2 < b.2.2))))
def IsT3 (h:Heap) (v:Value) (t:T3):Prop:=∃ a o t1 t2 t3 n,v=.ref a /\ h.get? a=some o /\ o.cls=.type "tuple" /\ o.data=.seq #[.int t.1 t1,.int t.2.1 t2,.int t.2.2 t3] n
theorem IsT3.one {h:Heap} {v:Value} {t u:T3} (i:IsT3 h v t) (k:IsT3 h v u):t=u:=by
 obtain ⟨a,o,t1,t2,t3,n,rfl,e2,_,e4⟩:=i;obtain ⟨b,q,u1,u2,u3,m,f1,f2,_,f4⟩:=k;cases f1;rw [e2] at f2;cases f2;rw [e4] at f4;obtain ⟨x,y,z⟩:=t;obtain ⟨x',y',z'⟩:=u;simp only [Data.seq.injEq,Array.mk.injEq,List.cons.injEq,Value.int.injEq] at f4;obtain ⟨⟨⟨h1,_⟩,⟨h2,_⟩,⟨h3,_⟩,_⟩,_⟩:=f4;rw [h1,h2,h3]
theorem xz1 (ts:List T3):Ms.Ord λ i j=>lt3 (ts.getD i (0,0,0)) (ts.getD j (0,0,0)) where
 ir:=λ a=>by simp [lt3]
 tr:=λ a b c h k=>by
  simp only [lt3,Bool.or_eq_true,Bool.and_eq_true,decide_eq_true_eq,beq_iff_eq] at h k ⊢;omega
 ng:=λ a b c h=>by
  simp only [lt3,Bool.or_eq_true,Bool.and_eq_true,decide_eq_true_eq,beq_iff_eq] at h ⊢;omega
section
variable {prog:Program} {w:World} {A:Around} {E:[4]} {s:[39]}
theorem uc4 {x y:Value} {a b:T3} {Q:Bool->Shared->Prop} (hx:IsT3 s.heap x a) (hy:IsT3 s.heap y b) (h:Q (lt3 a b) s):wpAny [5] A (keyLt' (tuples' true) x y) Q E s:=by
 obtain ⟨x,ox,t1,t2,t3,n,rfl,ex,_,dx⟩:=hx;obtain ⟨y,oy,u1,u2,u3,m,rfl,ey,_,dy⟩:=hy;obtain ⟨a1,a2,a3⟩:=a;obtain ⟨b1,b2,b3⟩:=b;refine kat_lt ex dx ey dy ?_;refine kat_cons (wpAny_eqBool_int ?_);by_cases c1:a1=b1
 ·rw [show (a1 == b1)=true from beq_iff_eq.mpr c1];refine kat_yes (kat_cons (wpAny_eqBool_int ?_));by_cases c2:a2=b2
  ·rw [show (a2 == b2)=true from beq_iff_eq.mpr c2];refine kat_yes (kat_cons (wpAny_eqBool_int ?_));by_cases c3:a3=b3
   ·rw [show (a3 == b3)=true from beq_iff_eq.mpr c3];refine kat_yes (kat_nil ?_);have e:lt3 (a1,a2,a3) (b1,b2,b3)=false:=by subst c1 c2 c3; simp [lt3]
    rw [e] at h;exact h
   ·rw [show (a3 == b3)=false from by simpa using c3];have e:lt3 (a1,a2,a3) (b1,b2,b3)=decide (a3 < b3):=by subst c1 c2; simp [lt3]
    rw [e] at h;exact kat_no (kat_one _ _ (lt_int h))
  ·rw [show (a2 == b2)=false from by simpa using c2];have e:lt3 (a1,a2,a3) (b1,b2,b3)=decide (a2 < b2):=by subst c1; simp [lt3,c2]
   rw [e] at h;exact kat_no (kat_one _ _ (lt_int h))
 ·rw [show (a1 == b1)=false from by simpa using c1];have e:lt3 (a1,a2,a3) (b1,b2,b3)=decide (a1 < b1):=by simp [lt3,c1]
  rw [e] at h;exact kat_no (oneLt_int h)
def T3s (h:Heap):List Value->List T3->Prop
 | [],[]=>True
 | v :: vs,t :: ts=>IsT3 h v t /\ T3s h vs ts
 | _,_=>False
theorem T3s.kept {h h':Heap} (k:∀ b o,h.get? b=some o->o.cls=.type "tuple" -> h'.get? b=some o):∀ {vs:[22]} {ts:List T3},T3s h vs ts->T3s h' vs ts
 | [],[],_=>trivial
 | [],_ :: _,i=>i.elim
 | _ :: _,[],i=>i.elim
 | v :: vs,t :: ts,i=>by
  obtain ⟨⟨a,o,t1,t2,t3,n,e1,e2,e3,e4⟩,r⟩:=i;exact ⟨⟨a,o,t1,t2,t3,n,e1,k _ _ e2 e3,e3,e4⟩,T3s.kept k r⟩
theorem T3s.get {h:Heap}:∀ {vs:[22]} {ts:List T3},T3s h vs ts->∀ i,i < vs.length->IsT3 h (vs.getD i .none) (ts.getD i (0,0,0))
 | [],[],_,i,hi=>absurd hi (Nat.not_lt_zero _)
 | [],_ :: _,z,_,_=>z.elim
 | _ :: _,[],z,_,_=>z.elim
 | v :: vs,t :: ts,z,0,_=>z.1
 | v :: vs,t :: ts,z,i + 1,hi=>T3s.get z.2 i (Nat.lt_of_succ_lt_succ hi)
theorem T3s.firsts {h:Heap}:∀ {vs:[22]} {ts:List T3},T3s h vs ts->∃ fs,KatTups h vs fs /\ fs.length=vs.length /\ ∀ v ∈ fs,∃ i t,v=Value.int i t
 | [],[],_=>⟨[],trivial,rfl,λ _ hv=>nomatch hv⟩
 | [],_ :: _,z=>z.elim
 | _ :: _,[],z=>z.elim
 | v :: vs,t :: ts,z=>by
  obtain ⟨fs,f1,f2,f3⟩:=T3s.firsts z.2;obtain ⟨a,o,t1,t2,t3,n,rfl,e2,e3,e4⟩:=z.1;refine ⟨.int t.1 t1 :: fs,KatTups.cons e2 e3 e4 rfl f1,by rw [length_cons,length_cons,f2],λ x hx=>?_⟩;rcases List.mem_cons.mp hx with rfl | hx
  ·exact ⟨_,_,rfl⟩
  ·exact f3 x hx
abbrev ltI (ts:List T3):Nat->Nat->Bool:=λ i j=>lt3 (ts.getD i (0,0,0)) (ts.getD j (0,0,0))
abbrev outV (vs:[22]) (p:Array Nat):List Value:=p.toList.map λ i=>vs.getD i Value.none
theorem xs0 (vs:[22]):outV vs [17]=vs:=by
 apply ext_getElem
 ·simp
 ·intro i h1 h2;simp [getD_eq_getElem?_getD,getElem?_eq_getElem h2]
theorem uw3 {vs:Array Value} {n:Nat} {C:Prop} (h:(seqObj "list" vs n).cls=Value.type "tuple"):C:=by
 have h':Value.type "list" = Value.type "tuple" := h;injection h' with e
 exact absurd e [9]
theorem xl1 {a:Addr} {vs:[22]} {ts:List T3} {n:Nat} {P:PySem.Fin->Shared->Prop} (ho:s.heap.get? a=some (seqObj "list" vs.toArray n)) (ht:T3s s.heap vs ts) (hz:vs.length<=sizeLine)
    (h:∀ (p:Array Nat) (h':Heap) (c:Nat),p.Perm ([17])->Ms.Up (ltI ts) p vs.length->(∀ b o,b ≠ a->s.heap.get? b=some o->h'.get? b=some o) ->
     h'.get? a=some (seqObj "list" (outV vs p).toArray c)->P (.done (.ret .none)) { s with heap:=h' }) :
    wpAny [5] A (Builtin.«list.sort» ⟨[.ref a],[]⟩) P E s:=by
 have ha:a < s.heap.objs.size:=Heap.lt_size ho;obtain ⟨e1,ho1⟩:∃ e1,(s.heap.update a (Obj.mapSeq λ _=>(#[]:Array Value))).get? a=some (seqObj "list" #[] e1):=⟨_,get?_update_seq ho λ _=>#[]⟩
 have kp:∀ b o,b ≠ a->s.heap.get? b=some o->([16].push (seqObj "list" #[] 0)).get? b=some o:=λ b o hb e =>
  Heap.get?_push_of_some _ (Heap.get?_push_of_some _ (by rw [Heap.get?_update_ne _ _ _ _ hb]; exact e))
 have ht3:=T3s.kept (h':=[16].push (seqObj "list" #[] 0)) (λ b o e ec=>kp b o (by intro z; subst z; rw [ho] at e; cases e; exact uw3 ec) e) ht;have hoN:=Heap.get?_push_of_some (seqObj "list" #[] 0) (Heap.get?_push_of_some (seqObj "tuple" vs.toArray 0) ho1);generalize hN:[16].push (seqObj "list" #[] 0)=hp3 at kp ht3 hoN
 have fin:∀ (p:Array Nat),p.Perm ([17])->Ms.Up (ltI ts) p vs.length->P (.done (.ret .none)) { s with heap:=hp3.update a (Obj.mapSeq λ _=>(outV vs p).toArray) }:=λ p hp hu=>by
  refine h p _ _ hp hu (λ b o hb e=>by rw [Heap.get?_update_ne _ _ _ _ hb]; exact kp b o hb e) (get?_update_seq hoN λ _=>(outV vs p).toArray)
 have szO:∀ p:Array Nat,p.Perm ([17])->(outV vs p).toArray.size<=sizeLine + 1:=λ p hp=>by
  have:=hp.size_eq;simp at this;simp;omega
 rw [list_sort_plain];refine wpAny_bind (listItems_at ho rfl (wpAny_bind (listUpdate_at ho rfl ?_ (by simpa using hz) (Nat.zero_le _))));refine wpAny_bind (seqEpoch_at ho1 rfl (wpAny_bind (wpAny_newTuple ?_ (by simpa using hz))));refine wpAny_bind (wpAny_newList (wpAny_holding ?_) (Nat.zero_le _));show wpAny [5] A _ P E { s with heap:=[16].push (seqObj "list" #[] 0) };rw [hN];dsimp only;by_cases c:vs.toArray.size < 2
 ·rw [if_pos c,if_pos c];refine wpAny_bind [32];rw [StateT.run_pure];refine wpAny_bind [32]
  have id1:(arrOf (SortSt.mk' general' [27] #[] 7 none)).map (·.2)=(outV vs [17]).toArray:=by
   rw [xs0];show [27].map (·.2)=vs.toArray;apply Array.toList_inj.mp;simp [List.map_snd_zip]
  dsimp only;rw [id1];have pr:=Array.Perm.refl [17];refine wpAny_bind (seqEpoch_at hoN rfl (wpAny_bind (listUpdate_at hoN rfl ?_ (Nat.zero_le _) (szO _ pr))));simp only [bne_self_eq_false,Bool.false_eq_true,if_false];refine wpAny_pure (fin _ pr ?_);intro x y hxy hy;have:x=y:=by simp at c; omega
  subst this;exact Ms.le_rf (xz1 ts) _
 ·rw [if_neg c,if_neg c];have c2:2<=vs.length:=by simp at c; omega
  obtain ⟨fs,f1,f2,f3⟩:=ht3.firsts;refine wpAny_bind (kat_kind f1 [1] (T:=.type "int") (λ v hv=>?_) [9] ?_)
  ·obtain ⟨i,t,rfl⟩:=f3 v hv;exact Looks.of_pure rfl
  show wpAny _ _ _ _ _ _;rw [show (Value.type "int" != Value.type "tuple")=true by decide];refine wpAny_bind (wpAny_mono (Ts.run_idx (vs:=vs) (lt:=ltI ts) (s:={ s with heap:=hp3 }) (κ:=tuples' true) (xz1 ts) c2 (λ i j v e1 e2 k=>?_) λ i j x y e1 e2 C hc=>?_) ?_ λ _ _ z=>z)
  ·have l1:=(List.getElem?_eq_some_iff.mp e1).1;have l2:=(List.getElem?_eq_some_iff.mp e2).1;have g1:=ht3.get i l1;have g2:=ht3.get j l2;rw [getD_eq_getElem?_getD,e1] at g1;rw [getD_eq_getElem?_getD,e2] at g2;have e:=g1.one g2;show lt3 (ts.getD i _) _=lt3 (ts.getD j _) _ /\ lt3 _ (ts.getD i _)=lt3 _ (ts.getD j _);rw [e];exact ⟨rfl,rfl⟩
  ·have g1:=ht3.get i (List.getElem?_eq_some_iff.mp e1).1;have g2:=ht3.get j (List.getElem?_eq_some_iff.mp e2).1;rw [getD_eq_getElem?_getD,e1] at g1;rw [getD_eq_getElem?_getD,e2] at g2;exact uc4 g1 g2 hc
  ·rintro ⟨⟨⟩,st'⟩ s' ⟨rfl,p,pp,pu,hp1,hp2⟩;dsimp only;rw [kat_snds rfl hp1];refine wpAny_bind (seqEpoch_at hoN rfl (wpAny_bind (listUpdate_at hoN rfl ?_ (Nat.zero_le _) (szO _ pp))));rw [hp2];simp only [bne_self_eq_false,Bool.false_eq_true,if_false];exact wpAny_pure (fin _ pp pu)
end
section
variable {prog:Program} {w:World} {A:Around} {E:[4]} {s:[39]}
theorem zu1 {l:Addr} {vs:[22]} {ts:List T3} {Q:[4]} (hl:s.heap.IsList l vs.toArray) (ht:T3s s.heap vs ts) (h64:vs.length<=sizeLine)
    (h:∀ (p:Array Nat) (h':Heap) (c:Nat),p.Perm ([17])->Ms.Up (ltI ts) p vs.length->(∀ b o,s.heap.get? b=some o->h'.get? b=some o) ->
     h'.get? (s.heap.objs.size + 1)=some (seqObj "list" (outV vs p).toArray c)->Q (.ref (s.heap.objs.size + 1)) { s with heap:=h' }) :
    wpAny [5] A (call (.builtin "sorted") [.ref l]) Q E s:=by
 have hz:=h64;refine Calls.call_function_entry kind_sorted plain_sorted entry_sorted (args_sorted1 _) ?_;unfold Builtin.«sorted»;refine wpAny_bind (m:=checkCount "sorted" 1 1 _) (wpAny_pure (wpAny_bind (collect_list hl ?_ hz)));refine wpAny_bind (wpAny_newList ?_ hz)
 have z1:[6].objs.size=s.heap.objs.size + 1:=by
  rw [Heap.size_update,size_push']
 have kp:∀ b o,s.heap.get? b=some o->([6].push (seqObj "list" vs.toArray 0)).get? b=some o:=λ b o q=>by
  have hb:b < s.heap.objs.size:=Heap.lt_size q;exact Heap.get?_push_of_some _ (by rw [Heap.get?_update_ne _ _ _ _ (Nat.ne_of_lt hb)]; exact Heap.get?_push_of_some _ q)
 have zo:([6].push (seqObj "list" vs.toArray 0)).get? (s.heap.objs.size + 1)=some (seqObj "list" vs.toArray 0):=by
  have q:=Heap.get?_push_size [6] (o:=seqObj "list" vs.toArray 0) rfl;rw [z1] at q;exact q
 show wpAny _ _ _ _ _ { s with heap:=[6].push (seqObj "list" vs.toArray 0) };rw [z1];have tt:=T3s.kept (λ b o e _=>kp b o e) ht;generalize [6].push (seqObj "list" vs.toArray 0)=hp at kp zo tt;refine wpAny_bind (wpAny_holding (wpAny_call_entry slot_list_sort ⟨_,zo,rfl⟩ entry_list_sort (xl1 (s:={ s with heap:=hp }) zo tt h64 λ p h' c a1 a2 a3 a4=>⟨_,rfl,?_⟩) (args_list_sort _)));refine wpAny_pure ⟨_,rfl,h p h' c a1 a2 (λ b o q=>a3 b o (Nat.ne_of_lt (Nat.lt_succ_of_lt (Heap.lt_size q))) (kp b o q)) a4⟩
end
def V3s (K:Fg) (H:Hp):List V->List T3->Prop
 | [],[]=>True
 | v :: vs,t :: ts=>(∃ a,v=.ref a /\ H a=some (.tup [.int t.1,.int t.2.1,.int t.2.2])) /\ V3s K H vs ts
 | _,_=>False
section
variable {X:Cx}
theorem zt0 {pins:[8]} {σ:L2.St} {H:Hp} {s:[39]} (I:[7]):∀ {vs:List V} {ts:List T3} {us:[22]},V3s X.K H vs ts->Vals vs us->T3s s.heap us ts
 | [],[],_,_,.nil=>trivial
 | [],_ :: _,_,z,_=>z.elim
 | _ :: _,[],_,z,_=>z.elim
 | v :: vs,t :: ts,_,z,.cons r rs=>by
  obtain ⟨⟨a,rfl,hq⟩,z⟩:=z;refine ⟨?_,zt0 I z rs⟩;cases r;obtain ⟨its,rv,⟨o,p1,p2,n,p3⟩,_⟩:=I.tuple (SqT.of hq);cases rv with
  | cons r1 rv =>
   cases rv with
   | cons r2 rv =>
    cases rv with
    | cons r3 rv =>
     cases rv;obtain ⟨t1,rfl⟩:=r1;obtain ⟨t2,rfl⟩:=r2;obtain ⟨t3,rfl⟩:=r3;exact ⟨a,o,t1,t2,t3,n,rfl,p1,p2,p3⟩
theorem xk0 {vs:List V} {us:[22]} (r:Vals vs us):∀ (l:List Nat),(∀ i ∈ l,i < vs.length)->Vals (l.map λ i=>vs.getD i .non) (l.map λ i=>us.getD i Value.none)
 | [],_=>.nil
 | i :: l,h=>by
  refine .cons ?_ (xk0 r l λ j hj=>h j (mem_cons_of_mem _ hj));have hi:=h i (mem_cons_self ..);obtain ⟨u,e,z⟩:=Vals.get r (i:=i) (x:=vs.getD i .non) (by rw [getD_eq_getElem?_getD,getElem?_eq_getElem hi]; rfl);dsimp only;rw [show us.getD i Value.none=u by rw [getD_eq_getElem?_getD,e]; rfl];exact z
def vh4 (K:Fg):List V->Hp->VK->Prop:=λ xs H Q=>∃ p vs ts,xs=[.ref p] /\ SqL K H p vs /\ V3s K H vs ts /\ vs.length<=sizeLine ∧
 ∀ q:Array Nat,q.Perm ([17])->Ms.Up (ltI ts) q vs.length->∀ r,H r=none->Q (.ref r) (upd H r (.lst (q.toList.map λ i=>vs.getD i .non)))
theorem td2:CallR X (.builtin "sorted") (vh4 X.K):=by
 intro pins s σ H xs us Q I r h;obtain ⟨p,vs,ts,rfl,hq,h3,h64,k⟩:=h;cases r with
 | cons r rr =>
  cases rr;cases r;obtain ⟨its,rv,pl,hz⟩:=I.list hq;have hl:=rv.length;refine zu1 pl.isList (zt0 I h3 rv) [1] λ q h' c a1 a2 a3 a4=>?_;have a1':q.Perm [17]:=by rw [hl]; exact a1
  have lt':∀ i ∈ q.toList,i < vs.length:=λ i hi=>by
   have e:i ∈ List.toArray (List.range vs.length):=a1'.mem_iff.mp (by simpa using hi);simpa using e
  have sz:q.toList.length=vs.length:=by have:=a1'.size_eq; simpa using this
  have nw:s.heap.objs.size<=s.heap.objs.size + 1:=Nat.le_succ _;refine ⟨.ref _,_,I.laid (t':=s.toks) a3 nw (show ObjOk X.prog X.w _ h' _ (.lst (q.toList.map λ i=>vs.getD i .non)) from ⟨by rw [length_map,sz]; exact hz,_,c,xk0 rv _ lt',a4⟩),rfl,k q a1' (by rw [hl]; exact a2) _ (I.hok.fresh nw)⟩
end
def encT (t:T3):D:=.tup [.int t.1,.int t.2.1,.int t.2.2]
def t3?:D->Option T3
 | .tup [.int a,.int b,.int c]=>some (a,b,c)
 | _=>none
def t3s?:List D->Option (List T3)
 | []=>some []
 | d :: r=>match t3? d with
  | some t=>match t3s? r with
   | some ts=>some (t :: ts)
   | none=>none
  | none=>none
theorem tt1:∀ ts:List T3,t3s? [38]=some ts
 | []=>rfl
 | t :: ts=>by simp only [map_cons,t3s?,encT,t3?,tt1 ts]
theorem vc4 {d:D} {t:T3} (h:t3? d=some t):d=encT t:=by
 unfold t3? at h;split at h
 ·cases h; rfl
 ·cases h
theorem to2:∀ {l:List D} {ts:List T3},t3s? l=some ts->l=ts.map encT
 | [],ts,h=>by cases h; rfl
 | d :: r,ts,h=>by
  unfold t3s? at h;split at h
  ·next t e =>
   split at h
   ·next us e2=>cases h; rw [vc4 e,to2 e2]; rfl
   ·cases h
  ·cases h
theorem yt1 {K:Fg} {H:Hp}:∀ {ts:List T3} {vs:List V},RelDs K H [38] vs->V3s K H vs ts
 | [],_,.nil=>trivial
 | t :: ts,_,.cons r rs=>by
  refine ⟨?_,yt1 rs⟩;cases r with
  | tup hq r2 =>
   cases r2 with
   | cons x r2 =>
    cases r2 with
    | cons y r2 =>
     cases r2 with
     | cons z r2 =>
      cases r2;cases x;cases y;cases z;exact ⟨_,rfl,hq⟩
theorem zl0 {K:Fg} {H:Hp} {ts:List T3} {vs:List V} (r:RelDs K H [38] vs):∀ (l:List Nat),(∀ i ∈ l,i < vs.length)->RelDs K H ((l.map λ i=>ts.getD i (0,0,0)).map encT) (l.map λ i=>vs.getD i .non)
 | [],_=>.nil
 | i :: l,h=>by
  refine .cons ?_ (zl0 r l λ j hj=>h j (mem_cons_of_mem _ hj));have hi:=h i (mem_cons_self ..);have hl:=r.length;rw [length_map] at hl;obtain ⟨v,e,z⟩:=r.get (i:=i) (d:=encT (ts.getD i (0,0,0))) (by rw [getElem?_map,getD_eq_getElem?_getD,getElem?_eq_getElem [1]]; rfl);dsimp only;rw [show vs.getD i .non=v by rw [getD_eq_getElem?_getD,e]; rfl];exact z
def le3 (a b:T3):Prop:=lt3 b a=false
theorem ua1 {ts:List T3} {q:Array Nat} (h:q.Perm (List.toArray (List.range ts.length))):(q.toList.map λ i=>ts.getD i (0,0,0)).Perm ts:=by
 have h1:q.toList.Perm (List.range ts.length):=h.toList;refine (h1.map _).trans (List.Perm.of_eq ?_);apply ext_getElem
 ·simp
 ·intro i h1 h2;simp [getD_eq_getElem?_getD,getElem?_eq_getElem h2]
theorem vu1 {ts:List T3} {q:Array Nat} (h:q.Perm (List.toArray (List.range ts.length))) (u:Ms.Up (ltI ts) q ts.length):(q.toList.map λ i=>ts.getD i (0,0,0)).Pairwise le3:=by
 have sz:q.size=ts.length:=by have:=h.size_eq; simpa using this
 rw [List.pairwise_iff_getElem];intro i j hi hj hij;simp only [length_map,length_toList] at hi hj;have z:=u i j (Nat.le_of_lt hij) [1];simp only [List.getElem_map,Array.getElem_toList];have e1:Ms.at' q i=q[i]:=by show q.getD i 0=_; simp [Array.getD,hi]
 have e2:Ms.at' q j=q[j]:=by show q.getD j 0=_; simp [Array.getD,hj]
 rw [e1,e2] at z;exact z
def srtR:C3:=λ ds μ Q=>match ds with
 | [.ref p]=>match μ p with
  | some (.lst l)=>match t3s? l with
   | some ts=>ts.length<=sizeLine /\ ∀ us:List T3,us.Perm ts->us.Pairwise le3->∀ r,μ r=none->Q (.ref r) (updM μ r (.lst (us.map encT)))
   | none=>False
  | _=>False
 | _=>False
section
variable {X:Cx}
theorem zk1:RC X (.builtin "sorted") srtR:=by
 refine ⟨_,td2,λ xs vs H Q μ Q3 m r h k=>?_⟩;unfold srtR at h;split at h
 ·next p =>
  split at h
  ·next l e =>
   split at h
   ·next ts e2 =>
    cases r with
    | cons r1 r2 =>
     cases r2;cases r1;have el:=to2 e2;subst el;obtain ⟨us,hv,rv⟩:=m p _ e;have hl:=rv.length;rw [length_map] at hl;refine ⟨p,us,ts,rfl,SqL.of hv,yt1 rv,by omega,λ q a1 a2 r hr=>?_⟩;rw [<- hl] at a1 a2
     have lt':∀ i ∈ q.toList,i < us.length:=λ i hi=>by
      have e:i ∈ List.toArray (List.range ts.length):=a1.mem_iff.mp (by simpa using hi);have e':i < ts.length:=by simpa using e
      omega
     exact k _ _ _ _ (h.2 _ (ua1 a1) (vu1 a1 a2) r (m.free hr)) (Kp.new hr) (.ref r) (m.newL hr (zl0 rv _ lt'))
   ·exact h.elim
  ·exact h.elim
 ·exact h.elim
end
theorem V3s.len {K:Fg} {H:Hp}:∀ {vs:List V} {ts:List T3},V3s K H vs ts->vs.length=ts.length
 | [],[],_=>rfl
 | [],_ :: _,z=>z.elim
 | _ :: _,[],z=>z.elim
 | _ :: vs,_ :: ts,z=>by rw [length_cons,length_cons,V3s.len z.2]
theorem tj1 {K:Fg} {H:Hp}:∀ {ts:List T3} {vs:List V},V3s K H vs ts->RelDs K H [38] vs
 | [],[],_=>.nil
 | [],_ :: _,z=>z.elim
 | _ :: _,[],z=>z.elim
 | t :: ts,v :: vs,z=>by
  obtain ⟨⟨a,rfl,hq⟩,z⟩:=z;exact .cons (.tup hq (.cons (.int _) (.cons (.int _) (.cons (.int _) .nil)))) (tj1 z)
abbrev T2:=Int × Int
def lt2 (a b:T2):Bool:=decide (a.1 < b.1) || (a.1 == b.1 && decide (a.2 < b.2))
def IsT2 (h:Heap) (v:Value) (t:T2):Prop:=∃ a o t1 t2 n,v=.ref a /\ h.get? a=some o /\ o.cls=.type "tuple" /\ o.data=.seq #[.int t.1 t1,.int t.2 t2] n
theorem IsT2.one {h:Heap} {v:Value} {t u:T2} (i:IsT2 h v t) (k:IsT2 h v u):t=u:=by
 obtain ⟨a,o,t1,t2,n,rfl,e2,_,e4⟩:=i;obtain ⟨b,q,u1,u2,m,f1,f2,_,f4⟩:=k;cases f1;rw [e2] at f2;cases f2;rw [e4] at f4;obtain ⟨x,y⟩:=t;obtain ⟨x',y'⟩:=u;simp only [Data.seq.injEq,Array.mk.injEq,List.cons.injEq,Value.int.injEq] at f4;obtain ⟨⟨⟨h1,_⟩,⟨h2,_⟩,_⟩,_⟩:=f4;rw [h1,h2]
theorem yz1 (ts:List T2):Ms.Ord λ i j=>lt2 (ts.getD i (0,0)) (ts.getD j (0,0)) where
 ir:=λ a=>by simp [lt2]
 tr:=λ a b c h k=>by
  simp only [lt2,Bool.or_eq_true,Bool.and_eq_true,decide_eq_true_eq,beq_iff_eq] at h k ⊢;omega
 ng:=λ a b c h=>by
  simp only [lt2,Bool.or_eq_true,Bool.and_eq_true,decide_eq_true_eq,beq_iff_eq] at h ⊢;omega
section
variable {prog:Program} {w:World} {A:Around} {E:[4]} {s:[39]}
theorem sc4 {x y:Value} {a b:T2} {Q:Bool->Shared->Prop} (hx:IsT2 s.heap x a) (hy:IsT2 s.heap y b) (h:Q (lt2 a b) s):wpAny [5] A (keyLt' (tuples' true) x y) Q E s:=by
 obtain ⟨x,ox,t1,t2,n,rfl,ex,_,dx⟩:=hx;obtain ⟨y,oy,u1,u2,m,rfl,ey,_,dy⟩:=hy;obtain ⟨a1,a2⟩:=a;obtain ⟨b1,b2⟩:=b;refine kat_lt ex dx ey dy ?_;refine kat_cons (wpAny_eqBool_int ?_);by_cases c1:a1=b1
 ·rw [show (a1 == b1)=true from beq_iff_eq.mpr c1];refine kat_yes (kat_cons (wpAny_eqBool_int ?_));by_cases c2:a2=b2
  ·rw [show (a2 == b2)=true from beq_iff_eq.mpr c2];refine kat_yes (kat_nil ?_);have e:lt2 (a1,a2) (b1,b2)=false:=by subst c1 c2; simp [lt2]
   rw [e] at h;exact h
  ·rw [show (a2 == b2)=false from by simpa using c2];have e:lt2 (a1,a2) (b1,b2)=decide (a2 < b2):=by subst c1; simp [lt2]
   rw [e] at h;exact kat_no (kat_one _ _ (lt_int h))
 ·rw [show (a1 == b1)=false from by simpa using c1];have e:lt2 (a1,a2) (b1,b2)=decide (a1 < b1):=by simp [lt2,c1]
  rw [e] at h;exact kat_no (oneLt_int h)
def T2s (h:Heap):List Value->List T2->Prop
 | [],[]=>True
 | v :: vs,t :: ts=>IsT2 h v t /\ T2s h vs ts
 | _,_=>False
theorem T2s.kept {h h':Heap} (k:∀ b o,h.get? b=some o->o.cls=.type "tuple" -> h'.get? b=some o):∀ {vs:[22]} {ts:List T2},T2s h vs ts->T2s h' vs ts
 | [],[],_=>trivial
 | [],_ :: _,i=>i.elim
 | _ :: _,[],i=>i.elim
 | v :: vs,t :: ts,i=>by
  obtain ⟨⟨a,o,t1,t2,n,e1,e2,e3,e4⟩,r⟩:=i;exact ⟨⟨a,o,t1,t2,n,e1,k _ _ e2 e3,e3,e4⟩,T2s.kept k r⟩
theorem T2s.get {h:Heap}:∀ {vs:[22]} {ts:List T2},T2s h vs ts->∀ i,i < vs.length->IsT2 h (vs.getD i .none) (ts.getD i (0,0))
 | [],[],_,i,hi=>absurd hi (Nat.not_lt_zero _)
 | [],_ :: _,z,_,_=>z.elim
 | _ :: _,[],z,_,_=>z.elim
 | v :: vs,t :: ts,z,0,_=>z.1
 | v :: vs,t :: ts,z,i + 1,hi=>T2s.get z.2 i (Nat.lt_of_succ_lt_succ hi)
theorem T2s.firsts {h:Heap}:∀ {vs:[22]} {ts:List T2},T2s h vs ts->∃ fs,KatTups h vs fs /\ fs.length=vs.length /\ ∀ v ∈ fs,∃ i t,v=Value.int i t
 | [],[],_=>⟨[],trivial,rfl,λ _ hv=>nomatch hv⟩
 | [],_ :: _,z=>z.elim
 | _ :: _,[],z=>z.elim
 | v :: vs,t :: ts,z=>by
  obtain ⟨fs,f1,f2,f3⟩:=T2s.firsts z.2;obtain ⟨a,o,t1,t2,n,rfl,e2,e3,e4⟩:=z.1;refine ⟨.int t.1 t1 :: fs,KatTups.cons e2 e3 e4 rfl f1,by rw [length_cons,length_cons,f2],λ x hx=>?_⟩;rcases List.mem_cons.mp hx with rfl | hx
  ·exact ⟨_,_,rfl⟩
  ·exact f3 x hx
abbrev ltI2 (ts:List T2):Nat->Nat->Bool:=λ i j=>lt2 (ts.getD i (0,0)) (ts.getD j (0,0))
theorem zk2 {a:Addr} {vs:[22]} {ts:List T2} {n:Nat} {P:PySem.Fin->Shared->Prop} (ho:s.heap.get? a=some (seqObj "list" vs.toArray n)) (ht:T2s s.heap vs ts) (hz:vs.length<=sizeLine)
    (h:∀ (p:Array Nat) (h':Heap) (c:Nat),p.Perm ([17])->Ms.Up (ltI2 ts) p vs.length->(∀ b o,b ≠ a->s.heap.get? b=some o->h'.get? b=some o) ->
     h'.get? a=some (seqObj "list" (outV vs p).toArray c)->P (.done (.ret .none)) { s with heap:=h' }) :
    wpAny [5] A (Builtin.«list.sort» ⟨[.ref a],[]⟩) P E s:=by
 have ha:a < s.heap.objs.size:=Heap.lt_size ho;obtain ⟨e1,ho1⟩:∃ e1,(s.heap.update a (Obj.mapSeq λ _=>(#[]:Array Value))).get? a=some (seqObj "list" #[] e1):=⟨_,get?_update_seq ho λ _=>#[]⟩
 have kp:∀ b o,b ≠ a->s.heap.get? b=some o->([16].push (seqObj "list" #[] 0)).get? b=some o:=λ b o hb e =>
  Heap.get?_push_of_some _ (Heap.get?_push_of_some _ (by rw [Heap.get?_update_ne _ _ _ _ hb]; exact e))
 have ht3:=T2s.kept (h':=[16].push (seqObj "list" #[] 0)) (λ b o e ec=>kp b o (by intro z; subst z; rw [ho] at e; cases e; exact uw3 ec) e) ht;have hoN:=Heap.get?_push_of_some (seqObj "list" #[] 0) (Heap.get?_push_of_some (seqObj "tuple" vs.toArray 0) ho1);generalize hN:[16].push (seqObj "list" #[] 0)=hp3 at kp ht3 hoN
 have fin:∀ (p:Array Nat),p.Perm ([17])->Ms.Up (ltI2 ts) p vs.length->P (.done (.ret .none)) { s with heap:=hp3.update a (Obj.mapSeq λ _=>(outV vs p).toArray) }:=λ p hp hu=>by
  refine h p _ _ hp hu (λ b o hb e=>by rw [Heap.get?_update_ne _ _ _ _ hb]; exact kp b o hb e) (get?_update_seq hoN λ _=>(outV vs p).toArray)
 have szO:∀ p:Array Nat,p.Perm ([17])->(outV vs p).toArray.size<=sizeLine + 1:=λ p hp=>by
  have:=hp.size_eq;simp at this;simp;omega
 rw [list_sort_plain];refine wpAny_bind (listItems_at ho rfl (wpAny_bind (listUpdate_at ho rfl ?_ (by simpa using hz) (Nat.zero_le _))));refine wpAny_bind (seqEpoch_at ho1 rfl (wpAny_bind (wpAny_newTuple ?_ (by simpa using hz))));refine wpAny_bind (wpAny_newList (wpAny_holding ?_) (Nat.zero_le _));show wpAny [5] A _ P E { s with heap:=[16].push (seqObj "list" #[] 0) };rw [hN];dsimp only;by_cases c:vs.toArray.size < 2
 ·rw [if_pos c,if_pos c];refine wpAny_bind [32];rw [StateT.run_pure];refine wpAny_bind [32]
  have id1:(arrOf (SortSt.mk' general' [27] #[] 7 none)).map (·.2)=(outV vs [17]).toArray:=by
   rw [xs0];show [27].map (·.2)=vs.toArray;apply Array.toList_inj.mp;simp [List.map_snd_zip]
  dsimp only;rw [id1];have pr:=Array.Perm.refl [17];refine wpAny_bind (seqEpoch_at hoN rfl (wpAny_bind (listUpdate_at hoN rfl ?_ (Nat.zero_le _) (szO _ pr))));simp only [bne_self_eq_false,Bool.false_eq_true,if_false];refine wpAny_pure (fin _ pr ?_);intro x y hxy hy;have:x=y:=by simp at c; omega
  subst this;exact Ms.le_rf (yz1 ts) _
 ·rw [if_neg c,if_neg c];have c2:2<=vs.length:=by simp at c; omega
  obtain ⟨fs,f1,f2,f3⟩:=ht3.firsts;refine wpAny_bind (kat_kind f1 [1] (T:=.type "int") (λ v hv=>?_) [9] ?_)
  ·obtain ⟨i,t,rfl⟩:=f3 v hv;exact Looks.of_pure rfl
  show wpAny _ _ _ _ _ _;rw [show (Value.type "int" != Value.type "tuple")=true by decide];refine wpAny_bind (wpAny_mono (Ts.run_idx (vs:=vs) (lt:=ltI2 ts) (s:={ s with heap:=hp3 }) (κ:=tuples' true) (yz1 ts) c2 (λ i j v e1 e2 k=>?_) λ i j x y e1 e2 C hc=>?_) ?_ λ _ _ z=>z)
  ·have l1:=(List.getElem?_eq_some_iff.mp e1).1;have l2:=(List.getElem?_eq_some_iff.mp e2).1;have g1:=ht3.get i l1;have g2:=ht3.get j l2;rw [getD_eq_getElem?_getD,e1] at g1;rw [getD_eq_getElem?_getD,e2] at g2;have e:=g1.one g2;show lt2 (ts.getD i _) _=lt2 (ts.getD j _) _ /\ lt2 _ (ts.getD i _)=lt2 _ (ts.getD j _);rw [e];exact ⟨rfl,rfl⟩
  ·have g1:=ht3.get i (List.getElem?_eq_some_iff.mp e1).1;have g2:=ht3.get j (List.getElem?_eq_some_iff.mp e2).1;rw [getD_eq_getElem?_getD,e1] at g1;rw [getD_eq_getElem?_getD,e2] at g2;exact sc4 g1 g2 hc
  ·rintro ⟨⟨⟩,st'⟩ s' ⟨rfl,p,pp,pu,hp1,hp2⟩;dsimp only;rw [kat_snds rfl hp1];refine wpAny_bind (seqEpoch_at hoN rfl (wpAny_bind (listUpdate_at hoN rfl ?_ (Nat.zero_le _) (szO _ pp))));rw [hp2];simp only [bne_self_eq_false,Bool.false_eq_true,if_false];exact wpAny_pure (fin _ pp pu)
end
section
variable {prog:Program} {w:World} {A:Around} {E:[4]} {s:[39]}
theorem wu1 {l:Addr} {vs:[22]} {ts:List T2} {Q:[4]} (hl:s.heap.IsList l vs.toArray) (ht:T2s s.heap vs ts) (h64:vs.length<=sizeLine)
    (h:∀ (p:Array Nat) (h':Heap) (c:Nat),p.Perm ([17])->Ms.Up (ltI2 ts) p vs.length->(∀ b o,s.heap.get? b=some o->h'.get? b=some o) ->
     h'.get? (s.heap.objs.size + 1)=some (seqObj "list" (outV vs p).toArray c)->Q (.ref (s.heap.objs.size + 1)) { s with heap:=h' }) :
    wpAny [5] A (call (.builtin "sorted") [.ref l]) Q E s:=by
 have hz:=h64;refine Calls.call_function_entry kind_sorted plain_sorted entry_sorted (args_sorted1 _) ?_;unfold Builtin.«sorted»;refine wpAny_bind (m:=checkCount "sorted" 1 1 _) (wpAny_pure (wpAny_bind (collect_list hl ?_ hz)));refine wpAny_bind (wpAny_newList ?_ hz)
 have z1:[6].objs.size=s.heap.objs.size + 1:=by
  rw [Heap.size_update,size_push']
 have kp:∀ b o,s.heap.get? b=some o->([6].push (seqObj "list" vs.toArray 0)).get? b=some o:=λ b o q=>by
  have hb:b < s.heap.objs.size:=Heap.lt_size q;exact Heap.get?_push_of_some _ (by rw [Heap.get?_update_ne _ _ _ _ (Nat.ne_of_lt hb)]; exact Heap.get?_push_of_some _ q)
 have zo:([6].push (seqObj "list" vs.toArray 0)).get? (s.heap.objs.size + 1)=some (seqObj "list" vs.toArray 0):=by
  have q:=Heap.get?_push_size [6] (o:=seqObj "list" vs.toArray 0) rfl;rw [z1] at q;exact q
 show wpAny _ _ _ _ _ { s with heap:=[6].push (seqObj "list" vs.toArray 0) };rw [z1];have tt:=T2s.kept (λ b o e _=>kp b o e) ht;generalize [6].push (seqObj "list" vs.toArray 0)=hp at kp zo tt;refine wpAny_bind (wpAny_holding (wpAny_call_entry slot_list_sort ⟨_,zo,rfl⟩ entry_list_sort (zk2 (s:={ s with heap:=hp }) zo tt h64 λ p h' c a1 a2 a3 a4=>⟨_,rfl,?_⟩) (args_list_sort _)));refine wpAny_pure ⟨_,rfl,h p h' c a1 a2 (λ b o q=>a3 b o (Nat.ne_of_lt (Nat.lt_succ_of_lt (Heap.lt_size q))) (kp b o q)) a4⟩
end
def V2s (K:Fg) (H:Hp):List V->List T2->Prop
 | [],[]=>True
 | v :: vs,t :: ts=>(∃ a,v=.ref a /\ H a=some (.tup [.int t.1,.int t.2])) /\ V2s K H vs ts
 | _,_=>False
section
variable {X:Cx}
theorem zi1 {pins:[8]} {σ:L2.St} {H:Hp} {s:[39]} (I:[7]):∀ {vs:List V} {ts:List T2} {us:[22]},V2s X.K H vs ts->Vals vs us->T2s s.heap us ts
 | [],[],_,_,.nil=>trivial
 | [],_ :: _,_,z,_=>z.elim
 | _ :: _,[],_,z,_=>z.elim
 | v :: vs,t :: ts,_,z,.cons r rs=>by
  obtain ⟨⟨a,rfl,hq⟩,z⟩:=z;refine ⟨?_,zi1 I z rs⟩;cases r;obtain ⟨its,rv,⟨o,p1,p2,n,p3⟩,_⟩:=I.tuple (SqT.of hq);cases rv with
  | cons r1 rv =>
   cases rv with
   | cons r2 rv =>
    cases rv;obtain ⟨t1,rfl⟩:=r1;obtain ⟨t2,rfl⟩:=r2;exact ⟨a,o,t1,t2,n,rfl,p1,p2,p3⟩
def ws3 (K:Fg):List V->Hp->VK->Prop:=λ xs H Q=>∃ p vs ts,xs=[.ref p] /\ SqL K H p vs /\ V2s K H vs ts /\ vs.length<=sizeLine ∧
 ∀ q:Array Nat,q.Perm ([17])->Ms.Up (ltI2 ts) q vs.length->∀ r,H r=none->Q (.ref r) (upd H r (.lst (q.toList.map λ i=>vs.getD i .non)))
theorem xs1:CallR X (.builtin "sorted") (ws3 X.K):=by
 intro pins s σ H xs us Q I r h;obtain ⟨p,vs,ts,rfl,hq,h3,h64,k⟩:=h;cases r with
 | cons r rr =>
  cases rr;cases r;obtain ⟨its,rv,pl,hz⟩:=I.list hq;have hl:=rv.length;refine wu1 pl.isList (zi1 I h3 rv) [1] λ q h' c a1 a2 a3 a4=>?_;have a1':q.Perm [17]:=by rw [hl]; exact a1
  have lt':∀ i ∈ q.toList,i < vs.length:=λ i hi=>by
   have e:i ∈ List.toArray (List.range vs.length):=a1'.mem_iff.mp (by simpa using hi);simpa using e
  have sz:q.toList.length=vs.length:=by have:=a1'.size_eq; simpa using this
  have nw:s.heap.objs.size<=s.heap.objs.size + 1:=Nat.le_succ _;refine ⟨.ref _,_,I.laid (t':=s.toks) a3 nw (show ObjOk X.prog X.w _ h' _ (.lst (q.toList.map λ i=>vs.getD i .non)) from ⟨by rw [length_map,sz]; exact hz,_,c,xk0 rv _ lt',a4⟩),rfl,k q a1' (by rw [hl]; exact a2) _ (I.hok.fresh nw)⟩
end
def uy0 (t:T2):D:=.tup [.int t.1,.int t.2]
def t2?:D->Option T2
 | .tup [.int a,.int b]=>some (a,b)
 | _=>none
def t2s?:List D->Option (List T2)
 | []=>some []
 | d :: r=>match t2? d with
  | some t=>match t2s? r with
   | some ts=>some (t :: ts)
   | none=>none
  | none=>none
theorem xu1:∀ ts:List T2,t2s? (ts.map uy0)=some ts
 | []=>rfl
 | t :: ts=>by simp only [map_cons,t2s?,uy0,t2?,xu1 ts]
theorem tc4 {d:D} {t:T2} (h:t2? d=some t):d=uy0 t:=by
 unfold t2? at h;split at h
 ·cases h; rfl
 ·cases h
theorem yp2:∀ {l:List D} {ts:List T2},t2s? l=some ts->l=ts.map uy0
 | [],ts,h=>by cases h; rfl
 | d :: r,ts,h=>by
  unfold t2s? at h;split at h
  ·next t e =>
   split at h
   ·next us e2=>cases h; rw [tc4 e,yp2 e2]; rfl
   ·cases h
  ·cases h
theorem vo2 {K:Fg} {H:Hp}:∀ {ts:List T2} {vs:List V},RelDs K H (ts.map uy0) vs->V2s K H vs ts
 | [],_,.nil=>trivial
 | t :: ts,_,.cons r rs=>by
  refine ⟨?_,vo2 rs⟩;cases r with
  | tup hq r2 =>
   cases r2 with
   | cons x r2 =>
    cases r2 with
    | cons y r2 =>
     cases r2;cases x;cases y;exact ⟨_,rfl,hq⟩
theorem to0 {K:Fg} {H:Hp} {ts:List T2} {vs:List V} (r:RelDs K H (ts.map uy0) vs):∀ (l:List Nat),(∀ i ∈ l,i < vs.length)->RelDs K H ((l.map λ i=>ts.getD i (0,0)).map uy0) (l.map λ i=>vs.getD i .non)
 | [],_=>.nil
 | i :: l,h=>by
  refine .cons ?_ (to0 r l λ j hj=>h j (mem_cons_of_mem _ hj));have hi:=h i (mem_cons_self ..);have hl:=r.length;rw [length_map] at hl;obtain ⟨v,e,z⟩:=r.get (i:=i) (d:=uy0 (ts.getD i (0,0))) (by rw [getElem?_map,getD_eq_getElem?_getD,getElem?_eq_getElem [1]]; rfl);dsimp only;rw [show vs.getD i .non=v by rw [getD_eq_getElem?_getD,e]; rfl];exact z
def le2 (a b:T2):Prop:=lt2 b a=false
theorem sn1 {ts:List T2} {q:Array Nat} (h:q.Perm (List.toArray (List.range ts.length))):(q.toList.map λ i=>ts.getD i (0,0)).Perm ts:=by
 have h1:q.toList.Perm (List.range ts.length):=h.toList;refine (h1.map _).trans (List.Perm.of_eq ?_);apply ext_getElem
 ·simp
 ·intro i h1 h2;simp [getD_eq_getElem?_getD,getElem?_eq_getElem h2]
theorem xh2 {ts:List T2} {q:Array Nat} (h:q.Perm (List.toArray (List.range ts.length))) (u:Ms.Up (ltI2 ts) q ts.length):(q.toList.map λ i=>ts.getD i (0,0)).Pairwise le2:=by
 have sz:q.size=ts.length:=by have:=h.size_eq; simpa using this
 rw [List.pairwise_iff_getElem];intro i j hi hj hij;simp only [length_map,length_toList] at hi hj;have z:=u i j (Nat.le_of_lt hij) [1];simp only [List.getElem_map,Array.getElem_toList];have e1:Ms.at' q i=q[i]:=by show q.getD i 0=_; simp [Array.getD,hi]
 have e2:Ms.at' q j=q[j]:=by show q.getD j 0=_; simp [Array.getD,hj]
 rw [e1,e2] at z;exact z
def un1:C3:=λ ds μ Q=>match ds with
 | [.ref p]=>match μ p with
  | some (.lst l)=>match t2s? l with
   | some ts=>ts.length<=sizeLine /\ ∀ us:List T2,us.Perm ts->us.Pairwise le2->∀ r,μ r=none->Q (.ref r) (updM μ r (.lst (us.map uy0)))
   | none=>False
  | _=>False
 | _=>False
section
variable {X:Cx}
theorem ww1:RC X (.builtin "sorted") un1:=by
 refine ⟨_,xs1,λ xs vs H Q μ Q3 m r h k=>?_⟩;unfold un1 at h;split at h
 ·next p =>
  split at h
  ·next l e =>
   split at h
   ·next ts e2 =>
    cases r with
    | cons r1 r2 =>
     cases r2;cases r1;have el:=yp2 e2;subst el;obtain ⟨us,hv,rv⟩:=m p _ e;have hl:=rv.length;rw [length_map] at hl;refine ⟨p,us,ts,rfl,SqL.of hv,vo2 rv,by omega,λ q a1 a2 r hr=>?_⟩;rw [<- hl] at a1 a2
     have lt':∀ i ∈ q.toList,i < us.length:=λ i hi=>by
      have e:i ∈ List.toArray (List.range ts.length):=a1.mem_iff.mp (by simpa using hi);have e':i < ts.length:=by simpa using e
      omega
     exact k _ _ _ _ (h.2 _ (sn1 a1) (xh2 a1 a2) r (m.free hr)) (Kp.new hr) (.ref r) (m.newL hr (to0 rv _ lt'))
   ·exact h.elim
  ·exact h.elim
 ·exact h.elim
end
end Pv
namespace Pv
open PySem
def isN:D->Bool
 | .non=>true
 | _=>false
def isNR (neg:Bool):R3:=λ x y μ Q=>match y with
 | .non=>Q (.bl (if neg then !isN x else isN x)) μ
 | _=>False
def maxR:C3:=λ ds μ Q=>match ds with
 | [.int i,.int j]=>Q (.int (if j > i then j else i)) μ
 | _=>False
end Pv
namespace Pv
open PySem PySem.Spec PyProof.Rows L2
section
variable {X:Cx}
theorem sy3 {K:Fg} {H:Hp} {x:D} {v:V} (r:RelD K H x v):decide (v=.non)=isN x:=by
 cases r <;> simp [isN]
theorem wi4:RO X (compareOp .Is) (isNR false):=by
 refine ⟨_,yw3,λ x y v u H Q μ Q3 m rx ry h k=>?_⟩;cases ry with
 | non =>
  refine ⟨rfl,?_⟩;rw [sy3 rx];exact k _ _ _ _ h (Kp.refl _) (.bl _) m
 | _=>exact False.elim h
theorem vi2:RO X (compareOp .IsNot) (isNR true):=by
 refine ⟨_,sy2,λ x y v u H Q μ Q3 m rx ry h k=>?_⟩;cases ry with
 | non =>
  refine ⟨rfl,?_⟩;rw [sy3 rx];exact k _ _ _ _ h (Kp.refl _) (.bl _) m
 | _=>exact False.elim h
theorem zi4 (hc:X.calm=true):RC X (.builtin "max") maxR:=by
 refine ⟨_,ye2 hc,λ xs vs H Q μ Q3 m r h k=>?_⟩;cases r with
 | nil=>exact False.elim h
 | cons r1 r2 =>
  cases r1 with
  | int i =>
   cases r2 with
   | nil=>exact False.elim h
   | cons r2 r3 =>
    cases r2 with
    | int j =>
     cases r3 with
     | nil=>exact ⟨i,j,rfl,k _ _ _ _ h (Kp.refl _) (.int _) m⟩
     | cons _ _=>exact False.elim h
    | _=>exact False.elim h
  | _=>exact False.elim h
end
end Pv
namespace L2
open PySem PySem.Spec PyProof.Rows
section
variable {κ:Type} [DecidableEq κ]
def valV (kvs:List (κ × V)) (k:κ):Option V:=(kvs.find? λ kv=>decide (kv.1=k)).map (·.2)
def putK (kvs:List (κ × V)) (k:κ) (v:V):List (κ × V) :=
 if (kvs.any λ kv=>decide (kv.1=k))=true then kvs.map (λ kv=>if kv.1=k then (kv.1,v) else kv) else kvs ++ [(k,v)]
def dropK (kvs:List (κ × V)) (k:κ):List (κ × V):=kvs.filter λ kv=>decide (kv.1 ≠ k)
theorem vm0 {p:κ × V} {r:List (κ × V)} {k:κ} (e:p.1=k):valV (p :: r) k=some p.2:=by simp [valV,find?_cons,e]
theorem um0 {p:κ × V} {r:List (κ × V)} {k:κ} (e:¬ p.1=k):valV (p :: r) k=valV r k:=by simp [valV,find?_cons,e]
theorem yi1 (k:κ):∀ kvs:List (κ × V),(kvs.any λ kv=>decide (kv.1=k))=(valV kvs k).isSome
 | []=>rfl
 | p :: r=>by
  rw [any_cons];by_cases e:p.1=k
  ·simp only [vm0 e,decide_eq_true e,Bool.true_or,Option.isSome_some]
  ·rw [um0 e,decide_eq_false e,Bool.false_or]; exact yi1 k r
theorem xi0 (kvs:List (κ × V)) (k:κ) (v:V):(putK kvs k v).length<=kvs.length + 1:=by
 unfold putK;split
 ·rw [length_map]; omega
 ·rw [length_append,length_cons,length_nil]; omega
theorem RelO.isSome_eq {o:Option V} {u:Option Value} (r:RelO o u):o.isSome=u.isSome:=by
 cases o with
 | none=>cases u with
  | none=>rfl
  | some _=>exact (show False from r).elim
 | some _=>cases u with
  | none=>exact (show False from r).elim
  | some _=>rfl
theorem RelO.getD {o:Option V} {u:Option Value} {d:V} {d':Value} (r:RelO o u) (rd:RelV d d'):RelV (o.getD d) (u.getD d'):=by
 cases o with
 | none=>cases u with
  | none=>exact rd
  | some _=>exact (show False from r).elim
 | some _=>cases u with
  | none=>exact (show False from r).elim
  | some _=>exact r
theorem KV.val {kvs:List (κ × V)} {vs:List (κ × Value)} (r:KV kvs vs) (k:κ):RelO (valV kvs k) (valueAt vs k):=by
 unfold KV at r
 induction r with
 | nil=>exact True.intro
 | @cons p q ps qs h t ih =>
  obtain ⟨h1,h2⟩:=h;by_cases e:p.1=k
  ·have e':q.1=k:=h1.symm.trans e;have b:valueAt (q :: qs) k=some q.2:=by simp [valueAt,find?_cons,e']
   rw [vm0 e,b]; exact h2
  ·have e':¬ q.1=k:=λ z=>e (h1.trans z);have b:valueAt (q :: qs) k=valueAt qs k:=by simp [valueAt,find?_cons,e']
   rw [um0 e,b]; exact ih
theorem KV.any {kvs:List (κ × V)} {vs:List (κ × Value)} (r:KV kvs vs) (k:κ):(kvs.any λ kv=>decide (kv.1=k))=vs.any λ kv=>decide (kv.1=k):=by
 unfold KV at r
 induction r with
 | nil=>rfl
 | cons h t ih=>rw [any_cons,any_cons,ih,h.1]
theorem KV.repl {kvs:List (κ × V)} {vs:List (κ × Value)} (r:KV kvs vs) (k:κ) {y:V} {u:Value} (ry:RelV y u) :
    KV (kvs.map λ kv=>if kv.1=k then (kv.1,y) else kv) (vs.map λ kv=>if kv.1=k then (kv.1,u) else kv):=by
 unfold KV at r ⊢
 induction r with
 | nil=>exact .nil
 | @cons p q ps qs h t ih =>
  rw [map_cons,map_cons];refine .cons ?_ ih;obtain ⟨h1,h2⟩:=h;by_cases e:p.1=k
  ·rw [if_pos e,if_pos (h1.symm.trans e)]; exact ⟨h1,ry⟩
  ·rw [if_neg e,if_neg (λ z=>e (h1.trans z))]; exact ⟨h1,h2⟩
theorem KV.put {kvs:List (κ × V)} {vs:List (κ × Value)} (r:KV kvs vs) (k:κ) {y:V} {u:Value} (ry:RelV y u):KV (putK kvs k y) (stored vs k u):=by
 unfold putK stored;rw [r.any k];by_cases e:(vs.any λ kv=>decide (kv.1=k))=true
 ·rw [if_pos e,if_pos e]; exact r.repl k ry
 ·rw [if_neg e,if_neg e]; exact Paired.snoc r ⟨rfl,ry⟩
theorem KV.length {kvs:List (κ × V)} {vs:List (κ × Value)} (r:KV kvs vs):kvs.length=vs.length:=Paired.length r
theorem um2 (kvs:List (κ × V)) (k:κ):(dropK kvs k).length<=kvs.length:=length_filter_le _ _
end
theorem zr1 {P:Program} {w:World} {k:Key} {u:Value} (r:RelV (kV k) u):(wc0 P w).is k u=true:=by
 cases k with
 | inl i=>obtain ⟨t,e⟩:=(show ∃ t,u=Value.int i t from r); subst e; exact ug1 P w i t
 | inr x=>obtain ⟨t,e⟩:=(show ∃ t,u=Value.str x t from r); subst e; exact vg1 P w x t
theorem uc1 {P:Program} {w:World}:∀ {ks:List Key} {us:[22]},Vals (ks.map kV) us->ItemsAre (wc0 P w) ks us
 | [],_,r=>by rw [map_nil] at r; cases r; exact .nil
 | k :: ks,_,r=>by
  rw [map_cons] at r;cases r with
  | cons h t=>exact .cons (zr1 h) (uc1 t)
abbrev KT (H:Hp):List (List Key × V)->List (List Key × Addr × Value)->Prop:=Paired λ p q=>p.1=q.1 /\ H q.2.1=some (.tup (p.1.map kV)) /\ RelV p.2 q.2.2
theorem KT.val {H:Hp} {kvs:List (List Key × V)} {xs:List (List Key × Addr × Value)} (r:KT H kvs xs) (k:List Key):RelO (valV kvs k) ((atKey xs k).map (·.2)):=by
 induction r with
 | nil=>exact True.intro
 | @cons p q ps qs h t ih =>
  obtain ⟨h1,_,h2⟩:=h;by_cases e:p.1=k
  ·have e':q.1=k:=h1.symm.trans e;have b:atKey (q :: qs) k=some q.2:=by simp [atKey,find?_cons,e']
   rw [vm0 e,b]; exact h2
  ·have e':¬ q.1=k:=λ z=>e (h1.trans z);have b:atKey (q :: qs) k=atKey qs k:=by simp [atKey,find?_cons,e']
   rw [um0 e,b]; exact ih
theorem KT.repl {H:Hp} {kvs:List (List Key × V)} {xs:List (List Key × Addr × Value)} (r:KT H kvs xs) (k:List Key) {y:V} {u:Value} (ry:RelV y u) :
    KT H (kvs.map λ kv=>if kv.1=k then (kv.1,y) else kv) (xs.map (putAt k u)):=by
 induction r with
 | nil=>exact .nil
 | @cons p q ps qs h t ih =>
  rw [map_cons,map_cons];refine .cons ?_ ih;obtain ⟨h1,h2,h3⟩:=h;unfold putAt;by_cases e:p.1=k
  ·rw [if_pos e,if_pos (h1.symm.trans e)]; exact ⟨h1,h2,ry⟩
  ·rw [if_neg e,if_neg (λ z=>e (h1.trans z))]; exact ⟨h1,h2,h3⟩
theorem KT.put {H:Hp} {kvs:List (List Key × V)} {xs:List (List Key × Addr × Value)} (r:KT H kvs xs) (k:List Key) {b:Addr} {y:V} {u:Value} (hb:H b=some (.tup (k.map kV))) (ry:RelV y u) :
    KT H (putK kvs k y) (storedH xs k b u):=by
 have e:(kvs.any λ kv=>decide (kv.1=k))=(atKey xs k).isSome:=by
  rw [yi1,(r.val k).isSome_eq,Option.isSome_map]
 unfold putK storedH;rw [e];by_cases q:(atKey xs k).isSome=true
 ·rw [if_pos q,if_pos q]; exact r.repl k ry
 ·rw [if_neg q,if_neg q]; exact Paired.snoc r ⟨rfl,hb,ry⟩
theorem KT.keeps {H H':Hp} {kvs:List (List Key × V)} {xs:List (List Key × Addr × Value)} (r:KT H kvs xs) (ht:∀ b ys,H b=some (.tup ys)->H' b=some (.tup ys)):KT H' kvs xs :=
 Paired.mapP r λ _ _ z=>⟨z.1,ht _ _ z.2.1,z.2.2⟩
section
variable {prog:Program} {w:World} {K:Type} [DecidableEq K] {knd:HeapKind prog w K} {A:Around} {E:[4]} {s:[39]}
def DHe (knd:HeapKind prog w K) (h:Heap) (d:Addr) (xs:List (K × Addr × Value)) (ep:Nat):Prop :=
 ∃ o es,h.get? d=some o /\ o.ExactDict /\ o.data=.dict es ep /\ es.toList=xs.map (entryOfKey knd) /\ (∀ x ∈ xs,knd.is h x.1 x.2.1) /\ (xs.map (·.1)).Nodup
theorem DHe.of {h:Heap} {d:Addr} {xs:List (K × Addr × Value)} {ep:Nat} (x:DHe knd h d xs ep):h.DictOfH knd d xs:=by
 obtain ⟨o,es,a⟩:=x; exact ⟨o,es,ep,a⟩
theorem DHe.new {d a:Addr} {xs:List (K × Addr × Value)} {k:K} {v:Value} {o:Obj} {es:Array DictEntry} {ep:Nat} {hs:Int} (ho:s.heap.get? d=some o) (hc:o.ExactDict) (hd:o.data=.dict es ep) (he:es.toList=xs.map (entryOfKey knd))
    (his:∀ x ∈ xs,knd.is s.heap x.1 x.2.1) (hn:(xs.map (·.1)).Nodup) (hkey:knd.is s.heap k a) (hno:∀ (j:Nat) (p:Addr × Value),xs[j]? ≠ some (k,p)) (eh:entryOfKey knd (k,a,v)=⟨hs,.ref a,v⟩) :
    DHe knd (s.heap.update d (Obj.mapDictKeys (·.push ⟨hs,.ref a,v⟩))) d (storedH xs k a v) (ep + 1):=by
 have hnot:k ∉ xs.map (·.1):=not_mem_keys_of_get hno;rw [storedH_new (atKey_none_of_get hno)];refine ⟨_,_,Heap.get?_update_self _ ho (Obj.isFreed_of_dict (Obj.data_mapDictKeys hd _)),hc.mapDictKeys _,Obj.data_mapDictKeys hd _,by simp [he,eh],λ c mc=>?_,?_⟩
 ·rcases List.mem_append.mp mc with mc | mc; · exact knd.keeps (his c mc) ho hd (Heap.SameBut.update ..)
  rw [mem_singleton] at mc; subst mc; exact knd.keeps hkey ho hd (Heap.SameBut.update ..)
 ·rw [map_append,nodup_append]; refine ⟨hn,by simp,λ c mc c' mc'=>?_⟩;have e':c'=k:=by simpa using mc'
  subst e'; exact λ e=>hnot (e ▸ mc)
theorem wc2 {d a:Addr} {xs:List (K × Addr × Value)} {k:K} {v:Value} {ep:Nat} {Q:Unit->Shared->Prop} (hu:knd.room A) (hkey:knd.is s.heap k a) (hm:DHe knd s.heap d xs ep) (hsz:xs.length<=sizeLine)
    (hQ:∀ h' ep',ep'=(if (atKey xs k).isSome then ep else ep + 1)->DHe knd h' d (storedH xs k a v) ep'->Heap.SameBut d s.heap h'->Q () { s with heap:=h',toks:=s.toks + knd.draws k }) :
    wpAny [5] A (dictSet d (.ref a) v) Q E s:=by
 obtain ⟨o,es,ho,hc,hd,he,his,hn⟩:=hm;unfold dictSet; try with_reducible refine wpAny_holding ?_
 refine wpAny_bind (knd.pyHash hu hkey ?_); unfold dictSetHashed; try with_reducible refine wpAny_holding ?_
 refine wpAny_bind (wpAny_dictFind_heap (s:={ s with toks:=s.toks + knd.draws k }) hu hkey ho hd he his hn (λ hno=>?_) λ j p hj=>?_)
 ·exact wpAny_bind (wpAny_rule (wpAny_updateDictKeys (hz:=by have e:=size_of_entries he; omega) (s:={ s with toks:=s.toks + knd.draws k }) ho hd (hQ _ (ep + 1) (by rw [atKey_none_of_get hno]; rfl) (DHe.new ho hc hd he his hn hkey hno rfl) (Heap.SameBut.update ..))))
 ·have ak:=atKey_of_get hn hj;refine wpAny_bind (wpAny_rule (wpAny_bind (wpAny_updateDict (s:={ s with toks:=s.toks + knd.draws k }) ho hd (wpAny_point (hQ _ ep (by rw [ak]; rfl) ⟨_,_,Heap.get?_update_self _ ho (Obj.isFreed_of_dict (Obj.data_mapDict hd _)),hc.mapDict _,Obj.data_mapDict hd _,?_,?_,?_⟩ (Heap.SameBut.update ..))))))
  ·rw [storedH_old ak]; have z:=modify_map_putAt (entryOfKey knd) (λ e:DictEntry=>{ e with val:=v }) k v (λ _ _=>rfl) hn hj;rw [<- he] at z; obtain ⟨l⟩:=es; simpa using z
  ·rw [storedH_old ak]; intro c mc; obtain ⟨y,my,rfl⟩:=List.mem_map.mp mc; unfold putAt; split <;> exact knd.keeps (his y my) ho hd (Heap.SameBut.update ..)
  ·rw [storedH_old ak,keys_map_putAt]; exact hn
theorem vk3 {d a:Addr} {xs:List (K × Addr × Value)} {k:K} {v:Value} {ep:Nat} {Q:Unit->Shared->Prop} (hu:knd.room A.in1) (hkey:knd.is s.heap k a) (hm:DHe knd s.heap d xs ep) (hsz:xs.length<=sizeLine)
    (hQ:∀ h' ep',ep'=(if (atKey xs k).isSome then ep else ep + 1)->DHe knd h' d (storedH xs k a v) ep'->Heap.SameBut d s.heap h'->Q () { s with heap:=h',toks:=s.toks + knd.draws k }) :
    wpAny [5] A (setItem (.ref d) (.ref a) v) Q E s:=by
 have ty:=hm.of.typeIs;unfold setItem; try with_reducible refine wpAny_holding ?_
 refine wpAny_bind (wpAny_sequenceKey ty [9] (wpAny_bind (wpAny_callSpecial?_slot (name:=Str.ofString "__setitem__") ty slot_dict_setitem (wpAny_call_entry slot_dict_setitem ty entry_dict_setitem ?_ (args_dict_setitem _ _ _)))));refine (show wpAny _ _ (Builtin.Dict.notOrdered "__setitem__" ⟨[.ref d,.ref a,v],[]⟩ >>= _) _ _ s from wpAny_bind (wpAny_notOrdered_dict ty ?_));exact (show wpAny _ _ (dictSet d (.ref a) v >>= _) _ _ s from wpAny_bind (wc2 hu hkey hm hsz λ h' ep' e1 dd hs=>wpAny_pure ⟨.none,rfl,wpAny_pure (hQ h' ep' e1 dd hs)⟩))
theorem su1 {d a:Addr} {xs:List (K × Addr × Value)} {k:K} {v:Value} {ep:Nat} {Q:[4]} (hu:knd.room A) (hkey:knd.is s.heap k a) (hm:DHe knd s.heap d xs ep) (hsz:xs.length<=sizeLine)
    (h1:∀ p,atKey xs k=some p->Q p.2 { s with toks:=s.toks + knd.draws k })
    (h2:atKey xs k=none->∀ h',DHe knd h' d (storedH xs k a v) (ep + 1)->Heap.SameBut d s.heap h'->Q v { s with heap:=h',toks:=s.toks + knd.draws k }) :
    wpAny [5] A (dictSetDefault d (.ref a) v) Q E s:=by
 obtain ⟨o,es,ho,hc,hd,he,his,hn⟩:=hm;unfold dictSetDefault; try with_reducible refine wpAny_holding ?_
 refine wpAny_bind (knd.pyHash hu hkey (wpAny_bind (wpAny_dictFind_heap (s:={ s with toks:=s.toks + knd.draws k }) hu hkey ho hd he his hn (λ hno=>?_) λ j p hj=>?_)))
 ·exact wpAny_bind (wpAny_rule (wpAny_bind (wpAny_updateDictKeys (hz:=by have e:=size_of_entries he; omega) (s:={ s with toks:=s.toks + knd.draws k }) ho hd (wpAny_pure (h2 (atKey_none_of_get hno) _ (DHe.new ho hc hd he his hn hkey hno rfl) (Heap.SameBut.update ..))))))
 ·refine wpAny_bind (wpAny_dictEntries (s:={ s with toks:=s.toks + knd.draws k }) ho hd ?_); rw [entry_at he j,hj];exact wpAny_bind (wpAny_rule (wpAny_pure (h1 p (atKey_of_get hn hj))))
end
section
variable {P:Program} {w:World} {H:Hp} {h:Heap} {a:Addr}
theorem ys3 {u:HO} (ok:HOk P w H h) (e:Rd H a u):ObjOk P w H h a u:=e.ok ok
theorem sr1 {kvs:List (Key × V)} (ok:HOk P w H h) (e:Rd H a (.dK kvs)):kvs.length<=sizeLine /\ (a == sysModules)=false /\ ∃ vs,KV kvs vs /\ h.DictOf (wc0 P w) a vs :=
 show ObjOk P w H h a (.dK kvs) from ys3 ok e
theorem yl4 {kvs:List (Key × V)} (ok:HOk P w H h) (e:H a=some (.dK kvs)):kvs.length<=sizeLine /\ (a == sysModules)=false /\ ∃ vs,KV kvs vs /\ h.DictOf (wc0 P w) a vs:=sr1 ok (.inl e)
theorem vk0 {ks:List Key} (ok:HOk P w H h) (e:H a=some (.tup (ks.map kV))):(tupleKind (wc0 P w)).is h ks a:=by
 obtain ⟨_,its,r,o,h1,h2,n,h3⟩:=(show ObjOk P w H h a (.tup (ks.map kV)) from ok a _ e);exact ⟨o,its.toArray,n,h1,h2,h3,by simpa using uc1 r⟩
theorem wm2 {kvs:List (List Key × V)} (ok:HOk P w H h) (e:Rd H a (.dT kvs)):kvs.length<=sizeLine /\ (a == sysModules)=false ∧
    ∃ xs ep,KT H kvs xs /\ DHe (tupleKind (wc0 P w)) h a xs ep:=by
 obtain ⟨z,y,xs,r,o,es,ep,h1,h2,h3,h4,h5⟩:=(show ObjOk P w H h a (.dT kvs) from ys3 ok e);refine ⟨z,y,xs,ep,r,o,es,h1,h2,h3,h4,λ x hx=>?_,h5⟩
 have all:∀ {l:List (List Key × V)} {m:List (List Key × Addr × Value)},KT H l m->∀ x ∈ m,(tupleKind (wc0 P w)).is h x.1 x.2.1:=by
  intro l m q
  induction q with
  | nil=>intro x hx; exact nomatch hx
  | @cons p q ps qs hq t ih =>
   intro x hx;rcases List.mem_cons.mp hx with e | hx
   ·subst e;exact vk0 ok (by rw [<- hq.1]; exact hq.2.1)
   ·exact ih x hx
 exact all r x hx
theorem zc2 {kvs:List (List Key × V)} (ok:HOk P w H h) (e:Rd H a (.dT kvs)):kvs.length<=sizeLine /\ (a == sysModules)=false /\ ∃ xs,KT H kvs xs /\ h.DictOfH (tupleKind (wc0 P w)) a xs:=by
 obtain ⟨z,y,xs,ep,r,d⟩:=wm2 ok e; exact ⟨z,y,xs,r,d.of⟩
end
def DGet (H:Hp) (a:Addr) (y:V) (r:Option V):Prop :=
 (∃ kvs k,Rd H a (.dK kvs) /\ y=kV k /\ r=valV kvs k) \/ ∃ kvs k b,Rd H a (.dT kvs) /\ y=.ref b /\ H b=some (.tup (k.map kV)) /\ r=valV kvs k
def DPut (H:Hp) (a:Addr) (y v:V) (H':Hp):Prop :=
 (∃ kvs k,H a=some (.dK kvs) /\ y=kV k /\ kvs.length < sizeLine /\ H'=upd H a (.dK (putK kvs k v))) ∨
 ∃ kvs k b,H a=some (.dT kvs) /\ y=.ref b /\ H b=some (.tup (k.map kV)) /\ kvs.length < sizeLine /\ H'=upd H a (.dT (putK kvs k v))
theorem DGet.t {H:Hp} {a b:Addr} {kvs:List (List Key × V)} {k:List Key} (e:H a=some (.dT kvs)) (eb:H b=some (.tup (k.map kV))):DGet H a (.ref b) (valV kvs k):=.inr ⟨kvs,k,b,.inl e,rfl,eb,rfl⟩
theorem DPut.t {H:Hp} {a b:Addr} {kvs:List (List Key × V)} {k:List Key} {v:V} (e:H a=some (.dT kvs)) (eb:H b=some (.tup (k.map kV))) (hl:kvs.length < sizeLine) :
    DPut H a (.ref b) v (upd H a (.dT (putK kvs k v))):=.inr ⟨kvs,k,b,e,rfl,eb,hl,rfl⟩
section
variable {X:Cx} {pins:[8]} {σ:St} {H:Hp} {s:[39]} {a:Addr} {y v:V} {u r:Value} {o:Option V} {A:Around} {E:[4]}
theorem Inv.big (I:[7]):sysModules < s.heap.objs.size:=by
 have h:mainGlobals < s.heap.objs.size:=(I.mod.glob.keeps I.bk).lt;exact Nat.lt_trans [9] h
theorem wd2 {Q:[4]} (hu:A.units + 1 < cLine) (I:[7]) (g:DGet H a y (some v)) (ry:RelV y u) (h:∀ w' s',Inv X pins σ H s'->RelV v w'->Q w' s') :
    wpAny [10] A (getItem (.ref a) u) Q E s:=by
 rcases g with ⟨kvs,k,e,ey,l⟩ | ⟨kvs,k,b,e,ey,eb,l⟩
 ·subst ey;obtain ⟨z,hd,vs,rel,dd⟩:=sr1 I.hok e;obtain ⟨w',hw,rw'⟩:=RelO.some_of (v:=v) (o:=valueAt vs k) (by rw [l]; exact rel.val k);exact wpAny_getItem_of (zr1 ry) dd.mapOf hw (h w' _ (I.tok _) rw')
 ·subst ey;cases (show u=Value.ref b from ry);obtain ⟨z,hd,xs,rel,dd⟩:=zc2 I.hok e;obtain ⟨w',hw,rw'⟩:=RelO.some_of (v:=v) (o:=(atKey xs k).map (·.2)) (by rw [l]; exact rel.val k);obtain ⟨p,hp,hp2⟩:=Option.map_eq_some_iff.mp hw;refine wpAny_getItem_heap (tupleKind_room_in1 hu) (vk0 I.hok eb) dd hp ?_;rw [hp2];exact h w' _ (I.tok _) rw'
theorem d_in {Q:[4]} (hu:A.units + 1 < cLine) (I:[7]) (g:DGet H a y o) (ry:RelV y u) (h:∀ s',Inv X pins σ H s'->Q (.bool o.isSome) s') :
    wpAny [10] A (compareOp .In u (.ref a)) Q E s:=by
 rcases g with ⟨kvs,k,e,ey,l⟩ | ⟨kvs,k,b,e,ey,eb,l⟩
 ·subst ey;obtain ⟨z,hd,vs,rel,dd⟩:=sr1 I.hok e;refine wpAny_in_of (zr1 ry) hd dd.mapOf ?_;rw [<- (rel.val k).isSome_eq,<- l];exact h _ (I.tok _)
 ·subst ey;cases (show u=Value.ref b from ry);obtain ⟨z,hd,xs,rel,dd⟩:=zc2 I.hok e;refine wpAny_in_heap (tupleKind_room_in1 hu) (vk0 I.hok eb) hd dd ?_;have q:=(rel.val k).isSome_eq;rw [Option.isSome_map] at q;rw [<- q,<- l];exact h _ (I.tok _)
theorem xc3 {Q:[4]} (hu:A.units + 1 < cLine) (I:[7]) (g:DGet H a y o) (ry:RelV y u) (h:∀ s',Inv X pins σ H s'->Q (.bool (!o.isSome)) s') :
    wpAny [10] A (compareOp .NotIn u (.ref a)) Q E s:=by
 rcases g with ⟨kvs,k,e,ey,l⟩ | ⟨kvs,k,b,e,ey,eb,l⟩
 ·subst ey;obtain ⟨z,hd,vs,rel,dd⟩:=sr1 I.hok e;refine wpAny_notIn_of (zr1 ry) hd dd.mapOf ?_;rw [<- (rel.val k).isSome_eq,<- l];exact h _ (I.tok _)
 ·subst ey;cases (show u=Value.ref b from ry);obtain ⟨z,hd,xs,rel,dd⟩:=zc2 I.hok e;refine wpAny_notIn_heap (tupleKind_room_in1 hu) (vk0 I.hok eb) hd dd ?_;have q:=(rel.val k).isSome_eq;rw [Option.isSome_map] at q;rw [<- q,<- l];exact h _ (I.tok _)
theorem xz0 {h':Heap} {t':Nat} {ob:HO} (I:[7]) (mu:Mut (H a)) (hs:Heap.SameBut a s.heap h') (he:∃ q,h'.get? a=some q) (new:ObjOk X.prog X.w (upd H a ob) h' a ob) :
    Inv X pins σ (upd H a ob) { s with heap:=h',toks:=t' } :=
 I.write (x:=a) (e:=a) mu (.inl rfl) (λ b q hb z=>(hs.2 b hb).trans z) he new
theorem ya4 {P:Program} {w:World} {H':Hp} {h':Heap} {kvs:List (Key × V)} {vs:List (Key × Value)} (z:kvs.length<=sizeLine) (hd:(a == sysModules)=false) (rel:KV kvs vs) (dd:h'.DictOf (wc0 P w) a vs) :
    ObjOk P w H' h' a (.dK kvs):=⟨z,hd,vs,rel,dd⟩
theorem zd2 {H':Hp} {Q:Unit->Shared->Prop} (hu:A.units + 1 < cLine) (I:[7]) (g:DPut H a y v H') (ry:RelV y u) (rv:RelV v r) (h:∀ s',Inv X pins σ H' s'->Q () s') :
    wpAny [10] A (setItem (.ref a) u r) Q E s:=by
 rcases g with ⟨kvs,k,e,ey,l,eH⟩ | ⟨kvs,k,b,e,ey,eb,l,eH⟩
 ·subst ey eH;obtain ⟨z,hd,vs,rel,dd⟩:=yl4 I.hok e;have hz:vs.length<=sizeLine:=by rw [<- rel.length]; exact z
  have hl:(putK kvs k v).length<=sizeLine:=by have:=xi0 kvs k v; omega
  refine wpAny_setItem_pairs (hsz:=hz) (zr1 ry) dd λ h' dd' hs=>h _ ?_;have he:∃ q,h'.get? a=some q:=let ⟨q,_,_,hq,_⟩:=dd'; ⟨q,hq⟩
  exact xz0 I (by rw [e]; exact True.intro) hs he (ya4 hl hd (rel.put k rv) dd')
 ·subst ey eH;cases (show u=Value.ref b from ry);obtain ⟨z,hd,xs,ep,rel,dd⟩:=wm2 I.hok (.inl e);have hz:xs.length<=sizeLine:=by rw [<- Paired.length rel]; exact z
  have hl:(putK kvs k v).length<=sizeLine:=by have:=xi0 kvs k v; omega
  refine vk3 (tupleKind_room_in1 hu) (vk0 I.hok eb) dd hz λ h' ep' e1 dd' hs=>h _ ?_;obtain ⟨q,es,hq,h2,h3,h4,_,h5⟩:=dd';refine xz0 I (by rw [e]; exact True.intro) hs ⟨q,hq⟩ ⟨hl,hd,_,(rel.put k eb rv).keeps λ c ys ec=>?_,q,es,ep',hq,h2,h3,h4,h5⟩;rw [yc0 (wg1 ec e (λ z=>nomatch z))];exact ec
end
def NoSl (i:Expr):Prop:=∀ ov iv,subscripted i false ov iv=operate [ov,iv] (getItem ov iv)
theorem xu2 {prog:Program} {w:World} {A:Around} {E:[4]} {s:[39]} {env:Env} {value slice:Expr} {pos:Pos} {T id:String} {Q:[4]}
    (hl:typeLookup (.type T) "__getitem__" = pure (some (.builtin id))) (hs:NoSl slice)
    (h:wpAny [5] A (eval value env) (λ o s₁=>wpAny [5] A (eval slice env) (λ i s₂=>s₂.TypeIs o T /\ wpAny [5] A (getItem o i) Q E s₂) E s₁) E s) :
    wpAny [5] A (eval (.Subscript value slice pos) env) Q E s:=by
 refine Subscript_ (wpAny_mono h (λ o s₁ h₁=>wpAny_mono h₁ (λ i s₂ h₂=>?_) λ _ _ x=>x) λ _ _ x=>x);obtain ⟨hT,h₂⟩:=h₂;unfold subscriptTail;refine wpAny_bind ?_;rw [getitemInPython_of_ne hT.not_modules];refine wpAny_bind (wpAny_specialOf hT hl ?_)
 have fin:wpAny [5] A (subscripted slice false o i) (λ r s₃=>wpAny [5] A (letTemporaryGo value o r >>= λ _=>pure r) Q E s₃) E s₂:=by
  rw [hs o i];exact wpAny_operating (wpAny_mono h₂ (λ r s₃ h₃=>wpAny_bind (wpAny_letTemporaryGo (wpAny_pure h₃))) λ _ _ x=>x)
 first
  | exact wpAny_pure (wpAny_bind fin)
  | exact wpAny_bind (wpAny_pure (wpAny_bind fin))
  | exact wpAny_bind fin
theorem th1 {X:Cx} {pins:[8]} {σ:St} {H:Hp} {s:[39]} {a:Addr} {y:V} {o:Option V} (I:[7]) (g:DGet H a y o):s.TypeIs (.ref a) "dict" := by
 rcases g with ⟨kvs,k,e,_,_⟩ | ⟨kvs,k,b,e,_,_,_⟩
 ·obtain ⟨_,_,vs,_,dd⟩:=sr1 I.hok e;exact dd.typeIs
 ·obtain ⟨_,_,xs,_,dd⟩:=zc2 I.hok e;exact dd.typeIs
def zc4 (td ty:TE):TE:=λ σ H Q=>td σ H λ x H1=>ty σ H1 λ y H2=>∃ a v,x=.ref a /\ DGet H2 a y (some v) /\ Q v H2
def we4 (td ty tv:TE):TS:=λ D σ H=>tv σ H λ v H1=>td σ H1 λ x H2=>ty σ H2 λ y H3=>∃ a H4,x=.ref a /\ DPut H3 a y v H4 /\ D.nx σ H4
section
variable {X:Cx} {o i e value:Expr} {pos pos' tpos:Pos} {td ty tv:TE}
theorem zy2 (hu:X.A.units + 1 < cLine) (ho:PE X o td) (hi:PE X i ty) (hs:NoSl i):PE X (.Subscript o i pos) (zc4 td ty):=by
 intro pins s σ H Q I h;refine xu2 PySem.F.slot_dict_getitem.lookup hs (thn (ho pins s σ H _ I h) λ u s1 ⟨x,H1,I1,rx,q1⟩=>thn (hi pins s1 σ H1 _ I1 q1) λ iv s2 ⟨y,H2,I2,ry,a,v,ex,g,q2⟩=>?_);subst ex;obtain rfl:u=Value.ref a:=rx;exact ⟨th1 I2 g,wd2 hu I2 g ry λ w' s3 I3 rw'=>⟨v,H2,I3,rw',q2⟩⟩
theorem vx2 (hu:X.A.units + 1 < cLine) (ho:PE X o td) (hi:PE X i ty) (hv:PE X value tv) (hs:swapsWith value (some (.Subscript o i pos')) pos.line X.env=pure false) :
    PS X (.Assign [.Subscript o i pos'] value pos) (we4 td ty tv):=by
 intro pins s σ H D I h;refine wpAny_Assign_Subscript (thn (hv pins s σ H _ I h) λ r s1 ⟨v,H1,I1,rv,q1⟩=>thn (ho pins s1 σ H1 _ I1 q1) λ u s2 ⟨x,H2,I2,rx,q2⟩=>thn (hi pins s2 σ H2 _ I2 q2) λ iv s3 ⟨y,H3,I3,ry,a,H4,ex,g,q3⟩=>?_) hs;subst ex;obtain rfl:u=Value.ref a:=rx;exact zd2 hu I3 g ry rv λ s4 I4=>⟨σ,H4,I4,q3⟩
end
theorem vm2 {P:Program} {w:World} {H:Hp} (h:Heap) (hb:sysModules < h.objs.size):ObjOk P w H (h.push { cls:=.type "dict",data:=.dict #[] }) h.objs.size (.dT []) :=
 ⟨Nat.zero_le _,beq_eq_false_iff_ne.mpr (Ne.symm (Nat.ne_of_lt hb)),[],.nil,_,#[],0,Heap.get?_push_size _ rfl,⟨rfl,rfl,rfl⟩,rfl,rfl,nodup_nil⟩
def si3:TE:=λ _ H Q=>∀ p,H p=none->Q (.ref p) (upd H p (.dT []))
section
variable {X:Cx} {pos:Pos}
theorem tj2:PE X (.Dict [] [] pos) si3:=λ pins s σ H Q I h =>
 wpAny_Dict_empty ⟨.ref s.heap.objs.size,_,I.laid (a:=s.heap.objs.size) (o:=.dT []) (t':=s.toks) (λ _ _ q=>Heap.get?_push_of_some _ q) [26] (vm2 s.heap I.big),rfl,h _ (I.hok.fresh [26])⟩
end
structure M1 (X:Cx) (o:Expr) (m:Str) (apos:Pos) (e:Expr) (cpos:Pos):Prop where
 base:attributeBase o m X.env (eval o X.env)=eval o X.env
 few:((backTo cpos (starEach [e] X.env)).all (λ x=>!x.1) && (backToKw cpos (keywordEach [] X.env)).all (λ x=>x.1.isSome)
  && decide (([e]:List Expr).length + ([]:List Keyword).length + (if ([]:List Keyword).isEmpty then 0 else 1) < 30))=true
 line:(apos.endLine == cpos.line)=true
 trees:backTo cpos (starEach [e] X.env)=[(false,eval e X.env)]
structure M2 (X:Cx) (o:Expr) (m:Str) (apos:Pos) (e f:Expr) (cpos:Pos):Prop where
 base:attributeBase o m X.env (eval o X.env)=eval o X.env
 few:((backTo cpos (starEach [e,f] X.env)).all (λ x=>!x.1) && (backToKw cpos (keywordEach [] X.env)).all (λ x=>x.1.isSome)
  && decide (([e,f]:List Expr).length + ([]:List Keyword).length + (if ([]:List Keyword).isEmpty then 0 else 1) < 30))=true
 line:(apos.endLine == cpos.line)=true
 trees:backTo cpos (starEach [e,f] X.env)=[(false,eval e X.env),(false,eval f X.env)]
section
variable {X:Cx} {pins:[8]} {σ:St} {H:Hp} {s:[39]} {a:Addr} {y d:V} {u r:Value} {o:Option V} {A:Around} {E:[4]}
theorem wa4 {Q:[4]} (hu:A.units + 1 < cLine) (I:[7]) (g:DGet H a y o) (ry:RelV y u) (h:∀ w' s',Inv X pins σ H s'->RelV (o.getD .non) w'->Q w' s') :
    wpAny [10] A (call (.builtin "dict.get") [.ref a,u]) Q E s:=by
 rcases g with ⟨kvs,k,e,ey,l⟩ | ⟨kvs,k,b,e,ey,eb,l⟩
 ·subst ey;obtain ⟨z,hd,vs,rel,dd⟩:=sr1 I.hok e;refine call_meetsIn slot_dict_get dd.typeIs entry_dict_get (PySem.F.args_dict_get_2 _ _) (meets_dict_get (wc0 X.prog X.w) a (zr1 ry) hd) ⟨_,dd.mapOf,h _ _ (I.tok _) ?_⟩;rw [l];exact (rel.val k).getD rfl
 ·subst ey;cases (show u=Value.ref b from ry);obtain ⟨z,hd,xs,rel,dd⟩:=zc2 I.hok e;refine call_meetsIn slot_dict_get dd.typeIs entry_dict_get (PySem.F.args_dict_get_2 _ _) (meetsH_dict_get (tupleKind (wc0 X.prog X.w)) a b hd) ⟨tupleKind_room_in1 hu,k,xs,vk0 I.hok eb,dd,h _ _ (I.tok _) ?_⟩;rw [l];exact (rel.val k).getD rfl
end
end L2
namespace Pv
open PySem
abbrev XE3:=Str->Mu->Prop
def vb1 (XE:XE3) (x:Str) (t:TA3):TS3:=λ _ ρ μ=>t ρ μ λ ds μ1=>ds.length<=sizeLine /\ XE x μ1
def isx3 (t:TE3) (sub:Str->Option Bool):TE3:=λ ρ μ Q=>t ρ μ λ d μ1=>match d with
 | .exc c=>match sub c with
  | some b=>Q (.bl b) μ1
  | _=>False
 | _=>False
def try3 (i:Nat) (spx:XE3->Sp3) (st:D->St3->St3) (ok:Str->Bool) (ta:TA3) (ts:TS3):TS3:=λ D' ρ μ=>ta ρ μ λ ds μ1 =>
 spx (λ c μ2=>ok c=true /\ ts { nx:=λ ρ' μ'=>D'.nx (ρ'.set i none) μ',rt:=λ _ _=>False } (ρ.set i (some (.exc c))) μ2) ds μ1 (λ d μ2=>D'.nx (st d ρ) μ2)
def uq2:D->St3->St3:=λ _ ρ=>ρ
end Pv
namespace Pv
open PySem PySem.Spec PyProof.Rows L2
def CXn (P:Program) (w:World):CXT:=λ outer H s E e s'=>∃ (ea:Addr) (cls a0:Value) (H':Hp) (B:Heap),e=.ref ea /\ s'.os=s.os /\ AllBare s'.gens /\ Un (frs outer) [] H H' s.heap s'.heap /\ HOk P w H' s'.heap ∧
 Heap.FlyingW B outer ea cls a0 s'.heap /\ H' ea=none /\ (∀ b o,s'.heap.get? b=some o->b ∉ frs outer->(∃ o',s.heap.get? b=some o')->B.get? b=some o) /\ (∀ b,H' b ≠ none->∃ o,s'.heap.get? b=some o /\ B.get? b=some o) /\ E cls none H'
theorem sj2 {P:Program} {w:World} {K:Fg} {mg:[23]} {base:Heap} {N:List Str} {qual:Str} {scope:Scope} {f:Addr} {cd:Value} {A:Around} {outer:List Env} {s0:[39]} {H0:Hp} {E:XK} :
    zn1 (CXn P w) [11] E:=by
 intro pins σ H s e s' I h;obtain ⟨ea,cls,a0,H',B,rfl,os,bare,u2,hok,fl,hea,cov1,cov2,hE⟩:=h;have u1:Un (frs outer) [] H0 H s0.heap s.heap:=I.base;have habove:s0.heap.objs.size<=[3].locals:=I.ok.above
 have hloc:∀ {b:Addr} {o:Obj},s0.heap.get? b=some o->b ≠ [3].locals:=λ {b o} q z=>by
  have:=Heap.lt_size q;rw [z] at this;exact absurd this (Nat.not_lt.mpr habove)
 have hfs:frs ([3] :: outer)=[3].locals :: frs outer:=rfl
 have hfn:∀ {b:Addr} {o:Obj},s0.heap.get? b=some o->b ∉ frs outer->b ∉ frs ([3] :: outer):=λ {b o} q z hm=>by
  rw [hfs] at hm;rcases List.mem_cons.mp hm with hm | hm
  ·exact hloc q hm
  ·exact z hm
 show wpAny (model P w) (A.deeper [3]) (leaving [3] (.ref ea)) _ _ s';refine wpAny_leaves_onW I.ok.frames rfl fl λ h' fl' up=>?_
 have far:∀ b o,s0.heap.get? b=some o->b ∉ frs outer->∃ o',s'.heap.get? b=some o' /\ B.get? b=some o' /\ h'.get? b=some o':=λ b o q hb=>by
  obtain ⟨o1,e1⟩:=u1.there b o q [20];obtain ⟨o2,e2⟩:=u2.there b o1 e1 [20];have e3:=cov1 b o2 e2 (hfn q hb) ⟨o1,e1⟩;exact ⟨o2,e2,e3,fl'.1 b o2 e3⟩
 have frm:∀ b o,s'.heap.get? b=some o->b ∈ frs outer->∃ sl,h'.get? b=some { o with slots:=sl }:=λ b o q hb=>by
  have hm:b ∈ ([3] :: outer).filterMap (·.frame):=by
   show b ∈ frs _;rw [hfs]; exact mem_cons_of_mem _ hb
  obtain ⟨_,o',ho,hnf⟩:=fl.2.2.1.mem hm;rw [q] at ho; cases ho;exact up b o q hnf
 refine ⟨ea,cls,a0,H',B,rfl,os.trans I.os,bare,?_,?_,fl',hea,?_,?_,hE⟩
 ·refine ⟨λ b o q n hb _=>?_,λ b o q n hb _=>?_,λ b o q n _=>?_,λ b o q _=>?_,λ b xs q=>u2.tups b xs (u1.tups b xs q),λ b o u q=>u2.frzs b o u (u1.frzs b o u q),λ b ps q=>?_⟩
  ·have e1:=u1.keep b o q n hb [20];have e2:=u2.keep b o e1 (u1.free b o q n [20]) (hfn q hb) [20];obtain ⟨o',e3,_,e5⟩:=far b o q hb;rw [e2] at e3; cases e3;exact e5
  ·obtain ⟨sl,e1⟩:=u1.slot b o q n hb [20];obtain ⟨sl2,e2⟩:=u2.slot b _ e1 (u1.free b o q n [20]) (by show b ∈ frs ([3] :: outer); rw [hfs]; exact mem_cons_of_mem _ hb) [20];obtain ⟨sl3,e3⟩:=frm b _ e2 hb;exact ⟨sl3,e3⟩
  ·obtain ⟨o1,e1⟩:=u1.there b o q [20];exact u2.free b o1 e1 (u1.free b o q n [20]) [20]
  ·by_cases hb:b ∈ frs outer
   ·obtain ⟨o1,e1⟩:=u1.there b o q [20];obtain ⟨o2,e2⟩:=u2.there b o1 e1 [20];obtain ⟨sl,e3⟩:=frm b o2 e2 hb;exact ⟨_,e3⟩
   ·obtain ⟨o',_,_,e5⟩:=far b o q hb;exact ⟨o',e5⟩
  ·obtain ⟨m1,e1⟩:=u1.tbls b ps q;obtain ⟨m2,e2⟩:=u2.tbls b _ e1;exact ⟨m1 ++ m2,by rw [e2,Array.append_assoc]⟩
 ·refine λ a o e=>(hok a o e).stay (λ b u hb q=>?_) (λ _ h=>h) (λ _ _ h=>h)
  have hne:H' b ≠ none:=by
   rcases hb with rfl | hb
   ·rw [e]; simp
   ·rw [hb]; simp
  obtain ⟨o',e1,e2⟩:=cov2 b hne;rw [q] at e1; cases e1;exact fl'.1 b _ e2
 ·intro b o q hb ⟨o',q'⟩;obtain ⟨o2,_,e4,e5⟩:=far b o' q' hb;have q2:h'.get? b=some o:=q;rw [e5] at q2; cases q2;exact e4
 ·intro b hb;obtain ⟨o,e1,e2⟩:=cov2 b hb;exact ⟨o,fl'.1 b o e2,e2⟩
theorem xp0 {P:Program} {w:World} {H:Hp} {h:Heap} {a:Addr} {o:HO} (x:ObjOk P w H h a o):∃ ob,h.get? a=some ob:=by
 induction o with
 | lst xs=>obtain ⟨z,its,n,r,e⟩:=x; exact ⟨_,e⟩
 | tup xs=>obtain ⟨z,its,r,ob,e,c⟩:=x; exact ⟨_,e⟩
 | dK kvs=>obtain ⟨z,y,vs,r,ob,es,ep,e,c⟩:=x; exact ⟨_,e⟩
 | dT kvs=>obtain ⟨z,y,xs,r,ob,es,ep,e,c⟩:=x; exact ⟨_,e⟩
 | set S n=>obtain ⟨ob,es,ep,t,e,c⟩:=x; exact ⟨_,e⟩
 | ins C dx fs=>obtain ⟨d,z,ne,e,mA,_,r⟩:=x; exact ⟨_,e⟩
 | own y=>obtain ⟨ob,e⟩:=x; exact ⟨_,e⟩
 | xd fs=>obtain ⟨mA,⟨od,es,ep,e,c⟩,r⟩:=x; exact ⟨_,e⟩
 | rng lo hi=>obtain ⟨t,u,v,e⟩:=x; exact ⟨_,e⟩
 | frz ob u ih=>obtain ⟨e,q⟩:=x; exact ⟨_,e⟩
 | tbl ps=>exact ⟨_,x⟩
 | met f y=>exact ⟨_,x⟩
 | ext φ=>obtain ⟨p,⟨o,e⟩,st⟩:=x; exact ⟨_,e⟩
section
variable {P:Program} {w:World} {K:Fg} {mg:[23]} {base:Heap} {N:List Str} {qual:Str} {scope:Scope} {f:Addr} {cd:Value} {A:Around} {outer:List Env} {s0:[39]} {H0:Hp} {E:XK}
theorem zs3 {pins:[8]} {σ:L2.St} {H:Hp} {s:[39]} {h1:Heap} {e:Addr} {cls:Value} {us:[22]} (I:L2.Inv [11] pins σ H s) (hx:Heap.MadeExcOf s.heap h1 e cls us) (hE:E cls none H) :
    [11].xe (.ref e) { s with heap:=h1 }:=by
 have u1:Un (frs outer) [] H0 H s0.heap s.heap:=I.base;have e0:=I.env0;have habove:s0.heap.objs.size<=[3].locals:=I.ok.above;have hfs:frs ([3] :: outer)=[3].locals :: frs outer:=rfl
 have hfn:∀ {b:Addr} {o:Obj},s0.heap.get? b=some o->b ∉ frs outer->b ∉ frs ([3] :: outer):=λ {b o} q z hm=>by
  rw [hfs] at hm;rcases List.mem_cons.mp hm with hm | hm
  ·have:=Heap.lt_size q;rw [hm] at this;exact absurd this (Nat.not_lt.mpr habove)
  ·exact z hm
 have hin:∀ env ∈ ([3] :: outer),∀ b,env.frame=some b->b ∈ frs ([3] :: outer):=λ env he b hb=>List.mem_filterMap.mpr ⟨env,he,hb⟩;have hfun:s.heap.FunFrames base ([3] :: outer):=e0.funs;have hl:=PySem.W.funFrames_hide hfun hin;show wpAny (model P w) (A.deeper [3]) (leaving [3] (.ref e)) _ _ _;refine wpAny_leaves_madeW (s:={ s with heap:=h1 }) (base:=hideAll s.heap (frs ([3] :: outer))) I.ok.frames rfl (λ b o q=>of_hideAll _ q) hl hx λ h' t fl htup ht up=>?_;have inB:∀ b o,s.heap.get? b=some o->b ∉ frs ([3] :: outer)->(hideAll s.heap (frs ([3] :: outer))).get? b=some o:=λ b o q hb=>hideAll_get _ q hb
 have trk:∀ b,H b ≠ none->∃ o,s.heap.get? b=some o /\ b ∉ frs ([3] :: outer):=λ b hb=>by
  cases q:H b with
  | none=>exact absurd q hb
  | some ho =>
   obtain ⟨o,eo⟩:=xp0 (I.hok b ho q);refine ⟨o,eo,λ hm=>?_⟩;have:=e0.frf b hm;rw [q] at this; cases this
 have frm:∀ b o,s.heap.get? b=some o->b ∈ frs outer->∃ sl,h'.get? b=some { o with slots:=sl }:=λ b o q hb=>by
  have hm:b ∈ ([3] :: outer).filterMap (·.frame):=by
   show b ∈ frs _;rw [hfs]; exact mem_cons_of_mem _ hb
  obtain ⟨_,o',ho,hnf⟩:=hfun.mem hm;rw [q] at ho; cases ho;exact up b o (hx.keeps b o q) hnf
 refine ⟨e,cls,.ref t,H,_,rfl,I.os,I.bare,?_,?_,fl,?_,?_,?_,hE⟩
 ·refine ⟨λ b o q n hb _=>?_,λ b o q n hb _=>?_,λ b o q n _=>u1.free b o q n [20],λ b o q _=>?_,λ b xs q=>u1.tups b xs q,λ b o u q=>u1.frzs b o u q,λ b ps q=>u1.tbls b ps q⟩
  ·exact fl.1 b o (inB b o (u1.keep b o q n hb [20]) (hfn q hb))
  ·obtain ⟨sl,e1⟩:=u1.slot b o q n hb [20];obtain ⟨sl2,e2⟩:=frm b _ e1 hb;exact ⟨sl2,e2⟩
  ·obtain ⟨o1,e1⟩:=u1.there b o q [20];by_cases hb:b ∈ frs outer
   ·obtain ⟨sl,e2⟩:=frm b o1 e1 hb;exact ⟨_,e2⟩
   ·exact ⟨o1,fl.1 b o1 (inB b o1 e1 (hfn q hb))⟩
 ·refine λ a o ha=>(I.hok a o ha).stay (λ b u hb q=>?_) (λ _ h=>h) (λ _ _ h=>h)
  have hne:H b ≠ none:=by
   rcases hb with rfl | hb
   ·rw [ha]; simp
   ·rw [hb]; simp
  obtain ⟨o',e1,e2⟩:=trk b hne;exact fl.1 b u (inB b u q e2)
 ·cases q:H e with
  | none=>rfl
  | some ho =>
   obtain ⟨o,eo⟩:=xp0 (I.hok e ho q);rw [hx.new] at eo; cases eo
 ·intro b o q hb ⟨o',q'⟩;obtain ⟨o1,e1⟩:=u1.there b o' q' [20];have e2:=inB b o1 e1 (hfn q' hb);have e3:=fl.1 b o1 e2;have q2:h'.get? b=some o:=q;rw [e3] at q2; cases q2;exact e2
 ·intro b hb;obtain ⟨o,e1,e2⟩:=trk b hb;exact ⟨o,fl.1 b o (inB b o e1 e2),inB b o e1 e2⟩
def ui3 (E:XK) (C:Addr) (ta:TA):TS:=λ _ σ H=>ta σ H λ vs H1=>vs.length<=sizeLine /\ E (.ref C) none H1
theorem xj2 {x:Str} {C:Addr} {Bn B newId inN nid initId:String} {bm bmN:[22]} {e₀:Expr} {rest:List Expr} {np cpos pos:Pos} {ta:TA}
    (O:OwnCls x C bm newId mg base) (Fn:ExcBaseFacts Bn newId inN bmN) (hBn:bm.contains (.type Bn)=true) (FB:ExcBaseFacts B nid initId bm)
    (hg:Gl [11] x) (ha:PA [11] (e₀ :: rest) ta)
    (he:starEach (e₀ :: rest) [3]=(false,eval e₀ [3]) :: starEach rest [3]:=by rfl)
    (hplain:(backTo cpos (starEach rest [3])).any (·.1)=false:=by rfl) (hd:[25]=false:=by decide) :
    PS [11] (.Raise (some (.Call (.Name x np) (e₀ :: rest) [] cpos)) none pos) (ui3 E C ta):=by
 intro pins s σ H D I h;obtain ⟨tl,NN,nm,q,bs,hdct,sn,sub,ab,col,dd,k0,k1,k2,k3,k5,mN,hC,hN,hni,T⟩:=O.obj
 refine wpAny_Raise_call_subU (C:=C) (nm:=nm) (q:=q) (N:=NN) (bs:=bs) (bm:=tl) (hdct:=hdct) (sn:=sn) (sub:=sub) (ab:=ab) (col:=col) (dd:=dd) (k0:=k0) (k1:=k1) (k2:=k2) (k3:=k3) (k5:=k5)
  Fn hBn FB (mN:=mN) (T.hasType FB.hasBase) (I.ok.hd rfl) (by
   show (backTo cpos (starEach (e₀ :: rest) [3])).any (·.1)=false;rw [he]; show (false || (backTo cpos (starEach rest [3])).any (·.1))=false; rw [hplain]; rfl) hni (tj0 I hg O.bound ⟨rfl,?_⟩ hd)
 have hA:=ha cpos pins s σ H _ I h;have he':starEach (e₀ :: rest) [11].env=_:=he;rw [he'] at hA ⊢;refine Calls.evalArgs_plain (thn hA λ us s2 ⟨vs,H2,I2,r2,q2⟩=>⟨rfl,?_,I2.bk _ _ hC,hN.keeps I2.bk,T.keeps I2.bk,λ h' e hx=>zs3 I2 hx q2.2⟩);rw [<- r2.length]; exact q2.1
def EXok (K:Fg) (mg:[23]) (XE:XE3) (E:XK):Prop:=∀ x C μ' H',XE x μ'->mg x=some (.ref C)->RelM K μ' H'->E (.ref C) none H'
def tx3 (K:Fg) (mg:[23]) (spx:XE3->Sp3):Sp:=λ vs H Q E=>∃ ds μ Q3 XE,RelDs K H ds vs /\ RelM K μ H /\ spx XE ds μ Q3 /\ Ks K H Q3 Q /\ EXok K mg XE E
def CalX (P:Program) (w:World) (K:Fg) (mg:[23]) (base:Heap) (k:Nat) (x:Str) (ps:List Str) (spx:XE3->Sp3):Prop :=
 ∃ f fd,FnOk P w K mg base (CXn P w) k f fd ps (tx3 K mg spx) /\ mg x=some (.ref f) /\ keepIn K (.ref f)=true /\ Binds K fd ps []
theorem CalX.mono {j k:Nat} {x:Str} {ps:List Str} {spx:XE3->Sp3} (c:CalX P w K mg base j x ps spx) (h:j<=k):CalX P w K mg base k x ps spx:=by
 obtain ⟨f,fd,F,r⟩:=c;exact ⟨f,fd,F.mono h,r⟩
variable {XE:XE3}
theorem ww0 {x:Str} {C:Addr} {Bn B newId inN nid initId:String} {bm bmN:[22]} {e₀:Expr} {rest:List Expr} {np cpos pos:Pos} {ta:TA3} (EX:EXok K mg XE E)
    (O:OwnCls x C bm newId mg base) (Fn:ExcBaseFacts Bn newId inN bmN) (hBn:bm.contains (.type Bn)=true) (FB:ExcBaseFacts B nid initId bm)
    (ha:RA [11] (e₀ :: rest) ta) (hg:Gl [11] x:=by rfl)
    (he:starEach (e₀ :: rest) [3]=(false,eval e₀ [3]) :: starEach rest [3]:=by rfl)
    (hplain:(backTo cpos (starEach rest [3])).any (·.1)=false:=by rfl) (hd:[25]=false:=by decide) :
    RS [11] (.Raise (some (.Call (.Name x np) (e₀ :: rest) [] cpos)) none pos) (vb1 XE x ta):=by
 obtain ⟨va,pa,ra⟩:=ha;exact ⟨_,xj2 O Fn hBn FB hg pa he hplain hd,λ σ H D ρ μ D3 s m h k=>ra σ H _ ρ μ _ s m h λ ds μ1 vs H1 h1 k1 r1 m1=>⟨by rw [<- r1.length]; exact h1.1,EX x C μ1 H1 h1.2 O.bound m1⟩⟩
theorem we0 {k:Nat} {ps:List Str} {spx:XE3->Sp3} {x:Str} {e:Expr} {es:List Expr} {p pos:Pos} {t:TA3} (EX:EXok K mg XE E) (c:CalX P w K mg base k x ps spx) (hr:Room k (A.deeper [3]))
    (ha:RA [11] (e :: es) t) (hg:Gl [11] x:=by rfl) (hdb:[25]=false:=by decide)
    (he:starEach (e :: es) [3]=(false,eval e [3]) :: starEach es [3]:=by rfl) (hpl:(backTo pos (starEach es [3])).any (·.1)=false:=by rfl) :
    RE [11] (.Call (.Name x p) (e :: es) [] pos) (call3 (spx XE) t):=by
 obtain ⟨g,fd,F,hm,hk,hb⟩:=c;obtain ⟨va,pa,ra⟩:=ha;refine ⟨_,xy1 (X:=cxOf (CXn P w) P w K mg base N qual scope f cd A outer s0 H0 E) F hr hg hm hk hb .nil sj2 pa hdb he hpl,λ σ H Q ρ μ Q3 s m h k=>ra σ H _ ρ μ _ s m h λ ds μ1 vs H1 h1 k1 r1 m1=>?_⟩;rw [append_nil];exact ⟨ds,μ1,Q3,XE,r1,m1,h1,k.after k1,EX⟩
theorem sg0 {x:Str} {st:Stmt} {g:Addr} {fd:FuncData} {NN ps:List Str} {k:Nat} {spx:XE3->Sp3} {t:XE3->TS3} (F:Fun K x x st g fd) (hm:mg x=some (.ref g)) (hb:Binds K fd ps []) (S:FnScope NN ps (va0 st))
    (len:∀ XE ds μ Q,spx XE ds μ Q->ds.length=ps.length)
    (body:∀ (cdv:Value) (A:Around) (outer:List Env) (s:[39]) (H:Hp) (E:XK) (XE:XE3),Room k (A.deeper (envOfC x (va0 st) s.heap.objs.size g cdv))->EXok K mg XE E ->
     RSs (cxOf (CXn P w) P w K mg base NN x (va0 st) g cdv A outer s H E) (vb0 st) (t XE))
    (rd:∀ XE ds μ Q,spx XE ds μ Q->t XE { nx:=λ _ μ'=>Q .non μ',rt:=Q } (start3 NN ds) μ):CalX P w K mg base (k + 1) x ps spx:=by
 refine ⟨g,fd,?_,hm,F.kp,hb⟩;obtain ⟨oc,od,kV,doc,pm,an,cdv,ct,osl,rfl,lk,hcd⟩:=F.ex;refine wz3 lk hcd S (λ vs H Q E h=>?_) λ A outer s H vs Q E hr h=>?_
 ·obtain ⟨ds,μ,Q3,XE,r,m,q,ks,ex⟩:=h;rw [<- r.length]; exact len _ _ _ _ q
 ·obtain ⟨ds,μ,Q3,XE,r,m,q,ks,ex⟩:=h;obtain ⟨tv,p,rt⟩:=body cdv A outer s H E XE hr ex;exact ⟨tv,p,rt _ H _ _ μ _ (RSt.start NN r) m (rd XE ds μ Q3 q) ⟨λ ρ μ' σ H' h' k' s' m'=>ks _ _ _ _ h' k' .non m',λ ρ μ' σ H' h'=>False.elim h',λ ρ μ' σ H' h'=>False.elim h',ks⟩⟩
end
end Pv
namespace Pv
open PySem PySem.Spec PyProof.Rows L2 PySem.Calls
section
variable {prog:Program} {w:World} {A:Around} {E:[4]} {s:[39]} {K:PySem.W.Frag} {x D:Addr} {ox:Obj}
structure ExcK (K:PySem.W.Frag) (D:Addr):Prop where
 ga:findIn K (.ref D) "__getattribute__" = some (some (.builtin "BaseException.__getattribute__"))
 no:findIn K (.ref D) "__getattr__" = some none
 be:mroIn K D (.type "BaseException")=some true
 cd:(clsIn K D).isSome=true
 ca:findIn K (.ref D) "__class__" = some (some (.builtin "object.__class__"))
 gt:specialIn K (.builtin "object.__class__") "__get__" = some (some (.builtin "getset_descriptor.__get__"))
 tk:takesIn K (.builtin "object.__class__")=some true
 ob:mroIn K D (.type "object")=some true
def ExcAt (x D:Addr) (h:Heap):Prop:=∃ ob,h.get? x=some ob /\ ob.cls=.ref D
theorem ExcAt.type {M:Model} {h:Heap} (I:ExcAt x D h):PySem.W.Looks M h (typeOf (.ref x)) (.ref D):=by
 obtain ⟨ob,h1,h2⟩:=I;exact h2 ▸ (PySem.W.Looks.ld h1).andThen .now
theorem zm2 {M:Model} {h:Heap} (Z:ExcK K D) (X:K.In h):PySem.W.Looks M h (Builtin.ObjectAttr.find (.ref x) (.ref D) "__class__") (.bind (.builtin "getset_descriptor.__get__") (.builtin "object.__class__")):=by
 have L1:=looks_findIn (M:=M) X Z.ca;have L2:=PySem.W.looks_specialIn (M:=M) X Z.gt;have L3:=PySem.W.looks_takesIn (M:=M) X Z.tk;refine L1.andThen (PySem.W.Looks.andThen (show PySem.W.Looks M h (Builtin.ObjectAttr.getOf (some (.builtin "object.__class__"))) (some (.builtin "getset_descriptor.__get__")) from L2) ?_);exact (show PySem.W.Looks M h (Builtin.ObjectAttr.dataDescriptor? (some (.builtin "object.__class__")) (some (.builtin "getset_descriptor.__get__"))) (some (.builtin "getset_descriptor.__get__",.builtin "object.__class__")) from L3.andThen .now).andThen (PySem.W.Looks.tag .now)
theorem ub3 {R:Result->Shared->Prop} {tp:Value} (Z:ExcK K D) (X:K.In s.heap) (I:ExcAt x D s.heap)
    (h:R (.ok (.ret (.ref D))) s):codeAny [5] A (.call (.builtin "getset_descriptor.__get__") ⟨[.builtin "object.__class__",.ref x,tp],[]⟩) R s:=by
 obtain ⟨ob,h1,h2⟩:=I;obtain ⟨hh,g,dr,t,os⟩:=s;have L0:=ExcAt.type (M:=model prog w) (x:=x) (D:=D) (h:=hh) ⟨ob,h1,h2⟩;have L1:=looks_mroIn (M:=model prog w) X Z.ob;refine codeAny_call_builtin PySem.W.KF.slot_gs.plain PySem.W.KF.entry_gs (PySem.W.KF.slot_gs.check _ _ _ _ _ _ _ _ PySem.W.KF.type_class (PySem.W.KF.args_gs _ _ _) ?_);unfold Builtin.«getset_descriptor.__get__» Builtin.Getset_descriptor.descrGet;rw [PySem.W.dga_obj];refine wpAny_bind [32];unfold Builtin.Getset_descriptor.descrGetter Builtin.Getset_descriptor.descrCheckInstance Builtin.Getset_descriptor.descrNameAndClass isInstance;simp only [PySem.W.KF.owner_class]
 repeat lk
 refine ⟨Code.quiet_builtin _ [12],codeAny_builtin PySem.W.KF.entry_class ?_⟩;unfold Builtin.«object.__class__» shownTypeOf
 repeat lk
 exact h
theorem xc2 {Q:Option Value->Shared->Prop} (Z:ExcK K D) (X:K.In s.heap) (I:ExcAt x D s.heap) (h:Q (some (.ref D)) { s with toks:=s.toks + 1 }):wpAny [5] A (getAttr? (.ref x) "__class__") Q E s:=by
 obtain ⟨hh,g,d,t,os⟩:=s;have L0:=I.type (M:=model prog w);have L1:=looks_findIn (M:=model prog w) X Z.ga;have L2:=looks_findIn (M:=model prog w) X Z.no;have L3:=zm2 (M:=model prog w) (x:=x) Z X;have L4:=looks_mroIn (M:=model prog w) X Z.be;unfold getAttr? getAttrBy? getAttrBy;refine wpAny_bind (wpAny_mkText (wpAny_bind (wpAny_attempt (wpAny_holding (wpAny_bind (L0.at (wpAny_bind (L1.at ?_))))))));have hx2:(Value.builtin "BaseException.__getattribute__" == Value.builtin "object.__getattribute__")=false:=by decide +kernel
 simp only [hx2,Bool.and_false,Bool.false_eq_true,if_false];unfold getAttrByItsOwn hookBefore;have hh1:onTheHeap (Value.ref D)=true:=rfl;simp only [hh1,if_true];refine wpAny_bind (L2.at (wpAny_bind (wpAny_attempt (wpAny_holding ?_))));unfold callGetattribute boundAndCalled;simp only [Bool.false_and,Bool.false_eq_true,if_false];have hb:bindSpecial (.builtin "BaseException.__getattribute__") (.ref x)=pure (.builtin "BaseException.__getattribute__",[.ref x]):=PySem.F.attr_ValueError.ga.bind _;rw [hb];refine wpAny_bind [32];refine wpAny_call (codeAny_call_builtin PySem.F.attr_ValueError.ga.plain F.entry_bexc_ga ?_);have hk:builtinKind "BaseException.__getattribute__" = some .slot:=by decide +kernel
 have hsplit:splitId "BaseException.__getattribute__" = some ("BaseException", "__getattribute__"):=by decide +kernel
 have ha:=F.args_bexc_ga (.ref x) (.str "__class__" t);simp only [checkBuiltinCall,hk,hsplit];refine wpAny_bind ?_
 ·unfold isInstance;refine wpAny_bind (L0.at (L4.at ?_));simp only [Bool.not_true,Bool.false_eq_true,if_false];obtain ⟨ob,I1,I2⟩:=id I;dsimp only at I1
  repeat (any_goals (first | assumption | (with_reducible refine wpAny_loadPart_at I1 ?_; rw [I2]) | with_reducible refine L3.at ?_ | wp_step))
  refine ub3 (s:=⟨hh,g,d,t + 1,os⟩) Z X I [32];exact PySem.W.handed_on rfl (wpAny_pure h)
theorem uk2 (Z:ExcK K D):PySem.W.KitX K (.ref x) (.ref D) (ExcAt x D) where
 ty:=λ _ _ _ I=>I.type
 it:=λ _ _ X _=>by
  obtain ⟨cdD,hcD⟩:=Option.isSome_iff_exists.mp Z.cd;unfold clsIn at hcD;split at hcD
  ·rename_i c' d' cd' sl' ho;intro A' Q' E' s' k q;unfold isType loadHead;exact wpAny_bind (wpAny_loadPart (k _ _ (X _ _ ho)) (wpAny_pure q))
  ·cases hcD
 ne:=λ h tp dd its n sl X htp=>by
  obtain ⟨cdD,hcD⟩:=Option.isSome_iff_exists.mp Z.cd;refine Bool.eq_false_iff.mpr λ q=>?_;have e:D=tp:=Value.ref.inj (beq_iff_eq.mp q);subst e;unfold clsIn at hcD;split at hcD
  ·rename_i c' d' cd' sl' ho;have z:=(X _ _ ho).symm.trans htp;cases z
  ·cases hcD
 ca:=λ X I k=>xc2 Z X I k
end
section
variable {X:Cx} {e:Expr} {te:TE3} {p p2 pos:Pos}
theorem xb3 {P:Program} {w:World} {H:Hp} {h:Heap} (hok:HOk P w H h) {a:Addr} {ob:Obj} {u:HO} (e:H a=some (.frz ob u)):h.get? a=some ob:=(show ObjOk P w H h a (.frz ob u) from hok a _ e).1
theorem zn2 {cV:V} {cv:Value} (rc:∀ u,RelV cV u->u=cv):CallR X (.builtin "isinstance") (λ xs H Q=>∃ a C ob u b,xs=[.ref a,cV] /\ H a=some (.frz ob u) /\ ob.cls=.ref C /\ ExcK X.K C /\ kitOne X.K (.ref C) cv=some b /\ Q (.bl b) H):=by
 intro pins s σ H xs us Q I r h;obtain ⟨a,C,ob,u,b,rfl,ha,h1,Z,hk,q⟩:=h;obtain ⟨u1,u2,rfl,r1,r2⟩:=vf3 r;cases r1;cases rc _ r2;have hg:=xb3 I.hok ha;have hi:ExcAt a C s.heap:=⟨ob,hg,h1⟩;exact PySem.W.kia_one (uk2 Z) I.kIn hi hk (λ z=>nomatch z) λ tk=>⟨.bl b,H,I.tok tk,rfl,q⟩
theorem sr0 {y:Str} {C:Addr} (hg:Gl X y) (hm:X.mg y=some (.ref C)) (hd:(y == ("__debug__" : Str))=false:=by decide):PE X (.Name y p2) (λ _ H Q=>Q (.ref C) H):=λ pins s σ H Q I h=>tj0 I hg hm ⟨.ref C,H,I,rfl,h⟩ hd
theorem so0 {y:Str} {cV:V} {cv:Value} {sub:Str->Option Bool} (he:RE X e te) (hc:PE X (.Name y p2) (λ _ H Q=>Q cV H)) (rc:∀ u,RelV cV u->u=cv)
    (hsub:∀ c C b,sub c=some b->nsIn X.K mainGlobals c=some (some (.ref C))->ExcK X.K C /\ kitOne X.K (.ref C) cv=some b)
    (hm:X.mg "isinstance" = none) (hg:Gl X "isinstance" := by rfl)
    (hs:starEach [e,.Name y p2] X.env=[29] :: starEach [.Name y p2] X.env:=by rfl) (hs2:starEach [.Name y p2] X.env=(false,eval (.Name y p2) X.env) :: starEach [] X.env:=by rfl)
    (hpl:(backTo pos (starEach [.Name y p2] X.env)).any (·.1)=false:=by rfl) :
    RE X (.Call (.Name "isinstance" p) [e,.Name y p2] [] pos) (isx3 te sub):=by
 obtain ⟨va,pa,ra⟩:=he;refine ⟨_,wk1 (zn2 rc) hg hm vz0 (zg1 pa (zg1 hc xq2 hs2) hs) [9] [9] hs hpl,λ σ H Q ρ μ Q3 s m h k=>ra σ H _ ρ μ _ s m h λ d μ1 v H1 h1 k1 r1 m1=>?_⟩;cases r1 with
 | exc a1 a2 a3 =>
  dsimp only at h1;split at h1
  ·next b eb =>
   obtain ⟨z1,z2⟩:=hsub _ _ b eb a3;exact ⟨_,_,_,_,b,rfl,a1,a2,z1,z2,k _ _ _ _ h1 k1 (.bl _) m1⟩
  ·exact h1.elim
 | _=>exact False.elim h1
end
section
variable {X:Cx} {pins:[8]} {σ:L2.St} {H H':Hp} {s s':[39]}
abbrev mark (X:Cx) (e:Value):Cx:={ X with A:=X.A.mark (some e),calm:=false,xe:=λ _ _=>False }
theorem wl1 (I:[7]) (e:Value):Inv (mark X e) pins σ H s :=
 ⟨⟨I.ok.mod,I.ok.kind,I.ok.glob,I.ok.blt,I.ok.above,I.ok.inj,I.ok.has,I.ok.cab,(λ z=>Bool.noConfusion z),I.ok.frames,I.ok.stk,I.ok.exf,I.ok.bs,I.ok.bsz,I.ok.noex,I.ok.exfs,I.ok.funs,I.ok.frf⟩,I.os,I.bare,I.base,I.loc,I.cell,I.free,I.freeC,I.pin,I.hok,I.len⟩
theorem wr1 {e:Value} (ok:X.Ok) (I:Inv (mark X e) pins σ H s):Inv X pins σ H s :=
 ⟨ok,I.os,I.bare,I.base,I.loc,I.cell,I.free,I.freeC,I.pin,I.hok,I.len⟩
theorem xe1 {B h5:Heap} {ea:Addr} {cls a0:Value} (u2:Un (frs X.stack) [] H H' s.heap s'.heap)
    (cov1:∀ b o,s'.heap.get? b=some o->b ∉ frs X.stack->(∃ o',s.heap.get? b=some o')->B.get? b=some o)
    (fl:Heap.FlyingW B X.stack ea cls a0 s'.heap) (st:∀ b o,B.get? b=some o->h5.get? b=some o) (up:s'.heap.UpToSlots h5):Un (frs X.stack) [] H H' s.heap h5:=by
 have frm:∀ b o,s'.heap.get? b=some o->b ∈ frs X.stack->∃ sl,h5.get? b=some { o with slots:=sl }:=λ b o q hb=>by
  obtain ⟨_,o',ho,hnf⟩:=fl.2.2.1.mem hb;rw [q] at ho; cases ho;exact up b o q hnf
 refine ⟨λ b o q n hb _=>?_,λ b o q n hb _=>?_,λ b o q n hx=>u2.free b o q n hx,λ b o q hx=>?_,u2.tups,u2.frzs,u2.tbls⟩
 ·exact st b o (cov1 b o (u2.keep b o q n hb [20]) hb ⟨o,q⟩)
 ·obtain ⟨sl,e1⟩:=u2.slot b o q n hb [20];obtain ⟨sl2,e2⟩:=frm b _ e1 hb;exact ⟨sl2,e2⟩
 ·obtain ⟨o1,e1⟩:=u2.there b o q hx;by_cases hb:b ∈ frs X.stack
  ·obtain ⟨sl,e2⟩:=frm b o1 e1 hb;exact ⟨_,e2⟩
  ·exact ⟨o1,st b o1 (cov1 b o1 e1 hb ⟨o,q⟩)⟩
theorem xt0 {B h5:Heap} {P:Program} {w:World} (hok:HOk P w H' s'.heap) (cov2:∀ b,H' b ≠ none->∃ o,s'.heap.get? b=some o /\ B.get? b=some o) (st:∀ b o,B.get? b=some o->h5.get? b=some o):HOk P w H' h5:=by
 refine λ a o e=>(hok a o e).stay (λ b u hb q=>?_) (λ _ h=>h) (λ _ _ h=>h)
 have hne:H' b ≠ none:=by
  rcases hb with rfl | hb
  ·rw [e]; simp
  ·rw [hb]; simp
 obtain ⟨o',e1,e2⟩:=cov2 b hne;rw [q] at e1; cases e1;exact st b _ e2
theorem uf3 {fs:List Addr} {h h5:Heap} {ea:Addr} {o:HO} (u:Un fs [] H H' h h5) (he:H' ea=none) (hn:h.get? ea=none):Un fs [] H (upd H' ea o) h h5:=by
 have ne:∀ {b ob},h.get? b=some ob->b ≠ ea:=λ {b ob} q z=>by subst z; rw [hn] at q; cases q
 have ne2:∀ {b u},H' b=some u->b ≠ ea:=λ {b u} q z=>by subst z; rw [he] at q; cases q
 refine ⟨u.keep,u.slot,λ b ob q n hx=>?_,u.there,λ b xs q=>?_,λ b ob v q=>?_,λ b ps q=>?_⟩
 ·rw [yc0 (ne q)]; exact u.free b ob q n hx
 ·have:=u.tups b xs q; rw [yc0 (ne2 this)]; exact this
 ·have:=u.frzs b ob v q; rw [yc0 (ne2 this)]; exact this
 ·obtain ⟨m,e⟩:=u.tbls b ps q; exact ⟨m,by rw [yc0 (ne2 e)]; exact e⟩
theorem xt2 {P:Program} {w:World} {h5:Heap} {ea:Addr} {oe:Obj} (hok:HOk P w H' h5) (he:H' ea=none) (hg:h5.get? ea=some oe):HOk P w (upd H' ea (.frz oe (.own 0))) h5:=by
 have ne2:∀ {b u},H' b=some u->b ≠ ea:=λ {b u} q z=>by subst z; rw [he] at q; cases q
 intro a o e;by_cases ha:a=ea
 ·subst ha;rw [sd0] at e;cases e;exact ⟨hg,⟨_,hg⟩⟩
 ·rw [yc0 ha] at e;exact (hok a o e).stay (λ b u hb q=>q) (λ b q=>by rw [yc0 (ne2 q)]; exact q) (λ b xs q=>by rw [yc0 (ne2 q)]; exact q)
theorem uh1 {M:Model} {A:Around} {E:[4]} {K:PySem.W.Frag} {ea C Pc:Addr} {ob:Obj} {Q:Bool->Shared->Prop} (Z:K.In s.heap) (h1:s.heap.get? ea=some ob) (h2:ob.cls=.ref C)
    (k1:kitCls K (.ref C) (.ref Pc)=some true) (k2:kitCls K (.ref Pc) (.type "BaseException")=some true) (k3:kitCls K (.type "type") (.type "tuple")=some false) (hq:Q true s):wpAny M A (excMatches (.ref ea) (.ref Pc)) Q E s:=by
 obtain ⟨a1,a2,a3⟩:=kit_cls (M:=M) Z k1;obtain ⟨b1,b2,b3⟩:=kit_cls (M:=M) Z k2;obtain ⟨c1,c2,c3⟩:=kit_cls (M:=M) Z k3;have L0:=ExcAt.type (M:=M) (x:=ea) (D:=C) (h:=s.heap) ⟨ob,h1,h2⟩;obtain ⟨hh,g,d,t,os⟩:=s;unfold excMatches isInstance;refine wpAny_bind (wpAny_bind (a1.at (c3.at ?_)));dsimp only;simp only [Bool.false_eq_true,if_false,pure_bind,List.forIn_cons,List.forIn_nil];unfold isExcClass
 repeat (any_goals (first | assumption | with_reducible refine L0.at ?_ | with_reducible refine a3.at ?_ | with_reducible refine b3.at ?_ | with_reducible refine a2.at ?_ | with_reducible refine a1.at ?_ | wp_step))
theorem yn2 {e:Value} {E':XK} {n x:Str} {i:Nat} {Pc:Addr} {b₀:Stmt} {suite:List Stmt} {np pos:Pos} {Q:Flow->Shared->Prop} {EE:[4]}
    (I:[7]) (hst:X.stack=X.env :: X.outer) (hfr:X.env.frame=some X.env.locals) (h:CXn X.prog X.w X.stack H s E' e s')
    (hN:X.N.Nodup) (hi:X.N[i]?=some n) (hloc:X.env.scope.names.lookup n=some .local) (hg:Gl X x) (hm:X.mg x=some (.ref Pc)) (hd:[25]=false)
    (hcls:∀ cls H',E' cls none H'->∃ C,cls=.ref C /\ kitCls X.K (.ref C) (.ref Pc)=some true) (k2:kitCls X.K (.ref Pc) (.type "BaseException")=some true) (k3:kitCls X.K (.type "type") (.type "tuple")=some false)
    (k:∀ ea C H' ob s6,Kp H H'->E' (.ref C) none H'->H' ea=none->ob.cls=.ref C->Inv (mark X (.ref ea)) pins (σ.set i (some (.ref ea))) (upd H' ea (.frz ob (.own 0))) s6 ->
     wpAny [10] (X.A.mark (some (.ref ea))) (execs (b₀ :: suite) X.env) (λ f s₄=>wpAny [10] X.A (do bindName X.env n .none; unbindBehindTheSuite X.env n pos) (λ _ s₅=>Q f s₅) EE s₄) (λ _ _=>False) s6) :
    wpAny [10] X.A (noteFrame e X.env) (λ _ s₂=>wpAny [10] X.A (setFlight e none) (λ _ s₃ =>
     wpAny [10] X.A (handleBy e X.env [.ExceptHandler (some (.Name x np)) (some n) (b₀ :: suite) pos]) Q EE s₃) EE s₂) EE s':=by
 obtain ⟨ea,cls,a0,H',B,rfl,os,bare,u2,hok,fl,hea,cov1,cov2,hE⟩:=h;obtain ⟨C,rfl,k1⟩:=hcls _ _ hE;have fl0:=fl;rw [hst] at fl;refine wpAny_looks_onW (by rw [<- hst]; exact I.ok.frames) hfr fl λ h4 held4 sm4=>?_;refine wpAny_landsW held4 λ h5 fl5 sm5=>?_;have I5:Inv X pins σ H' { s' with heap:=h5 }:=I.call' (s':={ s' with heap:=h5 }) (ch:=[]) os (xe1 u2 cov1 fl0 fl5.1 (sm4.trans sm5)) (xt0 hok cov2 fl5.1) bare (λ b z=>absurd z [20]);obtain ⟨ob5,hob5,hc5⟩:=fl5.there;refine wpAny_handleBy_cons (codeAny_handlers_test (tj0 (wl1 I5 (.ref ea)) hg hm ?_ hd)) (by intro q; cases q);refine uh1 I5.kIn hob5 hc5 k1 k2 k3 ?_;refine codeAny_handlers_suite_as ?_;refine lands_againW (s:={ s' with heap:=h5 }) fl5 λ h6 fl6 sm6=>?_;obtain ⟨oe,ws,hoe,hoec,hoed,hoe0⟩:=fl6.first
 have hsn:s.heap.get? ea=none:=by
  cases q:s.heap.get? ea with
  | none=>rfl
  | some o =>
   exfalso;obtain ⟨o1,e1⟩:=u2.there ea o q [20];by_cases hb:ea ∈ frs X.stack
   ·obtain ⟨_,o',ho,hnf⟩:=fl0.2.2.1.mem hb;obtain ⟨oe0,vs0,he0,_,hd0,_⟩:=fl0.first;rw [he0] at ho; cases ho;exact hnf _ hd0
   ·have:=cov1 ea o1 e1 hb ⟨o,q⟩;rw [fl0.2.1] at this; cases this
 have I7:Inv X pins σ (upd H' ea (.frz oe (.own 0))) { s' with heap:=h6 }:=I.call' (s':={ s' with heap:=h6 }) (ch:=[]) os (uf3 (xe1 u2 cov1 fl0 fl6.1 ((sm4.trans sm5).trans sm6)) hea hsn) (xt2 (xt0 hok cov2 fl6.1) hea hoe) bare (λ b z=>absurd z [20]);refine vv0 I7 hN hi (.inl hloc) (v:=.ref ea) (u:=.ref ea) rfl (λ s8 I8=>?_) (.inr hloc);exact wpAny_mono (k ea C H' oe s8 ⟨u2.tups,u2.frzs⟩ hE hea hoec (wl1 I8 (.ref ea))) (λ f s4 z=>z) (λ _ _ z=>z.elim)
theorem ua3 {M:Model} {A:Around} {E:[4]} {i:Nat} {n:Str} {pos:Pos} {Q:Unit->Shared->Prop} (I:[7]) (hN:X.N.Nodup) (hi:X.N[i]?=some n) (hk:X.env.scope.names.lookup n=some .local)
    (h:∀ s',Inv X pins (σ.set i none) H s'->Q () s'):wpAny M A (do bindName X.env n .none; unbindBehindTheSuite X.env n pos) Q E s:=by
 obtain ⟨m,hn,hl⟩:=id I.loc;have hcls:(X.env.scope.kind == .class || (X.env.scope.kind == .module && X.env.locals != X.env.globals))=false:=by rw [I.ok.kind]; rfl
 have hiσ:i < σ.length:=by rw [I.len]; exact (List.getElem?_eq_some_iff.mp hi).1
 have cne:=I.cne
 have tracked:∀ {a:Addr} {h':Heap},(∃ o,s.heap.get? a=some o /\ H a=none)->Heap.SameBut a s.heap h'->HOk X.prog X.w H h':=λ {a h'} ha hs b ob e=>by
  obtain ⟨_,_,hfree⟩:=ha;refine (I.hok b ob e).stay (λ c w' hc q=>(hs.2 c ?_).trans q) (λ _ q=>q) λ _ _ q=>q;rintro rfl;rcases hc with rfl | hc
  ·rw [hfree] at e; cases e
  ·rw [hfree] at hc; cases hc
 refine wpAny_nameGoes_keeps hk hn hcls λ h' v hn' hs=>?_;obtain ⟨oL,_,_,hoL,_⟩:=id hn;refine h _ ⟨I.ok,I.os,I.bare,⟨λ b o e n hb hx=>?_,λ b o e n hb hx=>?_,I.base.free,λ b o e hx=>?_,I.base.tups,I.base.frzs,I.base.tbls⟩,⟨_,hn',λ j y v' e1 e2 e3=>?_⟩,λ y c e=>?_,I.free,I.freeC,λ p hp=>?_,tracked ⟨oL,hoL,I.free⟩ hs,by simpa using I.len⟩
 ·exact [36].trans (I.base.keep b o e n hb hx)
 ·obtain ⟨sl,e1⟩:=I.base.slot b o e n hb hx;exact ⟨sl,[36].trans e1⟩
 ·obtain ⟨o',e1⟩:=I.base.there b o e hx;exact ⟨o',[36].trans e1⟩
 ·by_cases hj:j=i
  ·subst hj;rw [List.getElem?_set_self hiσ] at e2;cases e2
  ·rw [getElem?_set_ne (Ne.symm hj)] at e2;obtain ⟨u',r',q⟩:=hl j y v' e1 e2 e3;refine ⟨u',r',?_⟩;rcases q with ⟨k,e⟩ | ⟨k,c,e,z⟩
   ·refine .inl ⟨k,?_⟩;have:y ≠ n:=λ e=>hj (zx0 hN e1 (e ▸ hi));simp [this,e]
   ·exact .inr ⟨k,c,e,z.sameBut hs (cne y c e)⟩
 ·obtain ⟨w',z⟩:=I.cell y c e;exact ⟨w',z.sameBut hs (cne y c e)⟩
 ·obtain ⟨e,n,ne,nf,d⟩:=I.pin p hp;exact ⟨(hs.2 p.1 ne).trans e,n,ne,nf,d⟩
def tTry (K:Fg) (Pc:Addr) (i:Nat) (sp:Sp) (st:V->L2.St->L2.St) (ta:TA) (ts:Addr->TS):TS:=λ D σ H=>ta σ H λ vs H1=>sp vs H1 (λ v H2=>D.nx (st v σ) H2)
 (λ cls _ H2=>∃ C,cls=.ref C /\ kitCls K (.ref C) (.ref Pc)=some true /\ (Kp H1 H2->∀ ea ob,H2 ea=none->ob.cls=.ref C ->
  ts ea { nx:=λ σ' H'=>D.nx (σ'.set i none) H',rt:=λ _ _=>False,bk:=λ _ _=>False,ct:=λ _ _=>False } (σ.set i (some (.ref ea))) (upd H2 ea (.frz ob (.own 0)))))
variable {k:Nat} {f:Addr} {fd:FuncData} {ps:List Str} {sp:Sp} {fx n x:Str} {i:Nat} {Pc:Addr} {e:Expr} {es:List Expr} {b₀:Stmt} {suite:List Stmt} {p cpos np hpos pos epos:Pos} {ta:TA} {ts:Addr->TS}
theorem vf2 {st:V->L2.St->L2.St} {QV:[4]} {D:Ends} (F:FnOk X.prog X.w X.K X.mg X.base (CXn X.prog X.w) k f fd ps sp) (hr:Room k X.A) (hgf:Gl X fx) (hmf:X.mg fx=some (.ref f)) (hkf:keepIn X.K (.ref f)=true) (hb:Binds X.K fd ps []) (ha:PA X (e :: es) ta)
    (hsu:∀ ea,PSs (mark X (.ref ea)) (b₀ :: suite) (ts ea))
    (hN:X.N.Nodup) (hi:X.N[i]?=some n) (hloc:X.env.scope.names.lookup n=some .local) (hg:Gl X x) (hm:X.mg x=some (.ref Pc)) (hd:[25]=false)
    (k2:kitCls X.K (.ref Pc) (.type "BaseException")=some true) (k3:kitCls X.K (.type "type") (.type "tuple")=some false) (hst:X.stack=X.env :: X.outer) (hfr:X.env.frame=some X.env.locals)
    (hxe:∀ v s,X.xe v s->False)
    (hdb:(fx == ("__debug__" : Str))=false) (he:starEach (e :: es) X.env=[29] :: starEach es X.env) (hpl:(backTo cpos (starEach es X.env)).any (·.1)=false)
    (I:[7]) (h:tTry X.K Pc i sp st ta ts D σ H) (kv:∀ v u H2 s2,RelV v u->Inv X pins σ H2 s2->D.nx (st v σ) H2->QV u s2) :
    wpAny [10] X.A (eval (.Call (.Name fx p) (e :: es) [] cpos) X.env) QV
     (λ ex s₁=>wpAny [10] X.A (noteFrame ex X.env) (λ _ s₂=>wpAny [10] X.A (setFlight ex none) (λ _ s₃=>wpAny [10] X.A (handleBy ex X.env [.ExceptHandler (some (.Name x np)) (some n) (b₀ :: suite) hpos]) (SP X pins D) X.xe s₃) X.xe s₂) X.xe s₁) s:=by
 refine wpAny_Call_Name_kw (tj0 I hgf hmf ?_ hdb);refine callWith_K (h₀:=X.base) I.ok.mod.kin hkf (wpAny_mono (ha cpos pins s σ H _ I h) (λ us s1 ⟨vs,H1,I1,r,q⟩=>⟨I1.kIn,?_⟩) λ _ _ z=>(hxe _ _ z).elim) he hpl;have hl:(us ++ []).length=ps.length:=by rw [append_nil,<- r.length]; exact F.len _ _ _ _ q
 have hbb:=hb s1 us I1.kIn hl;rw [append_nil] at hbb;refine wpAny_call (codeAny_mono (F.run X.A X.stack s1 H1 ⟨us,[]⟩ us vs _ _ hr I1.env0 hbb r q) λ rr s' hq=>?_);cases rr with
 | error ex =>
  dsimp only [CR] at hq;refine yn2 I1 hst hfr hq hN hi hloc hg hm hd (λ cls H' hE=>?_) k2 k3 λ ea C H' ob s6 hkp hE hea hob I6=>?_
  ·obtain ⟨C,e1,e2,_⟩:=hE;exact ⟨C,e1,e2⟩
  ·obtain ⟨C',e1,e2,e3⟩:=hE;cases e1;refine wpAny_mono (hsu ea pins s6 _ _ _ I6 (e3 hkp ea ob hea hob)) (λ fl s4 z=>?_) λ _ _ z=>z;cases fl with
   | next =>
    obtain ⟨σ',H4,I4,q4⟩:=z;exact ua3 (wr1 I1.ok I4) hN hi hloc λ s5 I5=>⟨_,H4,I5,q4⟩
   | brk=>obtain ⟨_,_,_,z⟩:=z; exact z.elim
   | cont=>obtain ⟨_,_,_,z⟩:=z; exact z.elim
   | ret _=>obtain ⟨_,_,_,_,_,z⟩:=z; exact z.elim
 | ok fl =>
  cases fl with
  | ret u =>
   obtain ⟨v,H2,I2,rv,q2⟩:=I1.after hq;exact kv v u H2 _ rv I2 q2
  | next=>exact False.elim hq
  | brk=>exact False.elim hq
  | cont=>exact False.elim hq
theorem yx2 (F:FnOk X.prog X.w X.K X.mg X.base (CXn X.prog X.w) k f fd ps sp) (hr:Room k X.A) (hgf:Gl X fx) (hmf:X.mg fx=some (.ref f)) (hkf:keepIn X.K (.ref f)=true) (hb:Binds X.K fd ps []) (ha:PA X (e :: es) ta)
    (hsu:∀ ea,PSs (mark X (.ref ea)) (b₀ :: suite) (ts ea))
    (hN:X.N.Nodup) (hi:X.N[i]?=some n) (hloc:X.env.scope.names.lookup n=some .local) (hg:Gl X x) (hm:X.mg x=some (.ref Pc)) (hd:[25]=false)
    (k2:kitCls X.K (.ref Pc) (.type "BaseException")=some true) (k3:kitCls X.K (.type "type") (.type "tuple")=some false) (hst:X.stack=X.env :: X.outer) (hfr:X.env.frame=some X.env.locals)
    (hxe:∀ v s,X.xe v s->False)
    (hdb:(fx == ("__debug__" : Str))=false) (he:starEach (e :: es) X.env=[29] :: starEach es X.env) (hpl:(backTo cpos (starEach es X.env)).any (·.1)=false)
    (hs:swapsWith (.Call (.Name fx p) (e :: es) [] cpos) none epos.line X.env=pure false) :
    PS X (.Try [.Expr (.Call (.Name fx p) (e :: es) [] cpos) epos] [.ExceptHandler (some (.Name x np)) (some n) (b₀ :: suite) hpos] [] [] pos) (tTry X.K Pc i sp (λ _ σ=>σ) ta ts):=by
 intro pins s σ H D I h;refine wpAny_Try_except (wpAny_execs_cons (wpAny_Expr_any ?_ I.quiet hs));exact vf2 F hr hgf hmf hkf hb ha hsu hN hi hloc hg hm hd k2 k3 hst hfr hxe hdb he hpl I h (λ v u H2 s2 rv I2 q=>wpAny_execs_nil (wpAny_execs_nil ⟨σ,H2,I2,q⟩))
end
theorem RSt.unset {K:Fg} {H:Hp} {ρ:St3} {σ:L2.St} (i:Nat) (s:RSt K H ρ σ):RSt K H (ρ.set i none) (σ.set i none):=by
 refine ⟨by simp [s.len],λ j e h=>?_⟩;rw [sx0] at h;split at h
 ·cases h
 ·next c =>
  obtain ⟨v,h1,r⟩:=s.at' j e h;by_cases hj:i=j
  ·exfalso;apply c;refine ⟨hj,?_⟩;rw [s.len,hj];exact (List.getElem?_eq_some_iff.mp h1).1
  ·exact ⟨v,by rw [getElem?_set_ne hj]; exact h1,r⟩
theorem RelM.newF {K:Fg} {μ:Mu} {H:Hp} (m:RelM K μ H) {p:Addr} {o:HO} (h:H p=none):RelM K μ (upd H p o):=m.newT h
section
variable {X:Cx} {k:Nat} {ps:List Str} {spx:XE3->Sp3} {fx n x:Str} {i:Nat} {Pc:Addr} {e:Expr} {es:List Expr} {b₀:Stmt} {suite:List Stmt} {p cpos np hpos pos epos:Pos} {ta:TA3} {ts:TS3} {ok:Str->Bool}
theorem tp3 {f:Addr} {va:TA} {tv:Addr->TS} {st:V->L2.St->L2.St} {st3:D->St3->St3} (hstp:∀ {H:Hp} {ρ:St3} {σ:L2.St} {d:D} {v:V},RSt X.K H ρ σ->RelD X.K H d v->RSt X.K H (st3 d ρ) (st v σ))
    (ra:RdA X.K va ta) (rt:∀ ea,RdS X.K (tv ea) ts) (hok:∀ c,ok c=true->∃ C,nsIn X.K mainGlobals c=some (some (.ref C)) /\ X.mg c=some (.ref C) /\ kitCls X.K (.ref C) (.ref Pc)=some true) :
    RdS X.K (tTry X.K Pc i (tx3 X.K X.mg spx) st va tv) (try3 i spx st3 ok ta ts):=by
 intro σ H D ρ μ D3 s m h kd;refine ra σ H _ ρ μ _ s m h λ ds μ1 vs H1 h1 k1 r1 m1=>?_;refine ⟨ds,μ1,_,_,r1,m1,h1,λ d μ2 v H2 h2 k2 r2 m2=>?_,λ c C μ2 H2 hX hmc m2=>?_⟩
 ·exact kd.nx _ _ _ _ h2 (k1.trans k2) (hstp (s.mono (k1.trans k2)) r2) m2
 ·obtain ⟨o1,o2⟩:=hX;obtain ⟨C',z1,z2,z3⟩:=hok c o1;rw [hmc] at z2;cases z2;refine ⟨C,rfl,z3,λ kp ea ob hea hob=>?_⟩;have kn:Kp H2 (upd H2 ea (.frz ob (.own 0))):=Kp.new hea;refine rt ea _ _ _ _ _ _ ((((s.mono (k1.trans kp)).mono kn)).set i (.exc sd0 hob z1)) (m2.newF hea) o2 ⟨λ ρ' μ' σ' H' q k' s' m'=>?_,λ _ _ _ _ q=>False.elim q,λ _ _ _ _ q=>False.elim q,λ _ _ _ _ q=>False.elim q⟩;exact kd.nx _ _ _ _ q (k1.trans (kp.trans (kn.trans k'))) (s'.unset i) m'
theorem uv2 (c:CalX X.prog X.w X.K X.mg X.base k fx ps spx) (hr:Room k X.A) (ha:RA X (e :: es) ta) (hsu:∀ ea,RSs (mark X (.ref ea)) (b₀ :: suite) ts) (hN:X.N.Nodup)
    (hm:X.mg x=some (.ref Pc)) (k2:kitCls X.K (.ref Pc) (.type "BaseException")=some true) (k3:kitCls X.K (.type "type") (.type "tuple")=some false)
    (hok:∀ c,ok c=true->∃ C,nsIn X.K mainGlobals c=some (some (.ref C)) /\ X.mg c=some (.ref C) /\ kitCls X.K (.ref C) (.ref Pc)=some true)
    (hi:X.N[i]?=some n:=by rfl) (hloc:X.env.scope.names.lookup n=some .local:=by rfl) (hg:Gl X x:=by rfl) (hgf:Gl X fx:=by rfl) (hd:[25]=false:=by decide)
    (hst:X.stack=X.env :: X.outer:=by rfl) (hfr:X.env.frame=some X.env.locals:=by rfl) (hxe:∀ v s,X.xe v s->False:=by intro _ _ h; exact h)
    (hdb:(fx == ("__debug__" : Str))=false:=by decide) (he:starEach (e :: es) X.env=[29] :: starEach es X.env:=by rfl) (hpl:(backTo cpos (starEach es X.env)).any (·.1)=false:=by rfl)
    (hs:swapsWith (.Call (.Name fx p) (e :: es) [] cpos) none epos.line X.env=pure false:=by rfl) :
    RS X (.Try [.Expr (.Call (.Name fx p) (e :: es) [] cpos) epos] [.ExceptHandler (some (.Name x np)) (some n) (b₀ :: suite) hpos] [] [] pos) (try3 i spx uq2 ok ta ts):=by
 obtain ⟨f,fd,F,hmf,hkf,hb⟩:=c;obtain ⟨va,pa,ra⟩:=ha;exact ⟨_,yx2 F hr hgf hmf hkf hb pa (ts:=λ ea=>(hsu ea).choose) (λ ea=>(hsu ea).choose_spec.1) hN hi hloc hg hm hd k2 k3 hst hfr hxe hdb he hpl hs,tp3 (f:=f) (λ s _=>s) ra (λ ea=>(hsu ea).choose_spec.2) hok⟩
end
structure RoomM (k:Nat) (A:Around):Prop where
 dp:A.depth + 3 * k + 5 < recursionLimit
 un:A.units + 16 * k + 200 < cLine
theorem RoomM.mono {j k:Nat} {A:Around} (r:RoomM k A) (h:j<=k):RoomM j A:=⟨by have:=r.dp; omega,by have:=r.un; omega⟩
theorem RoomM.deeper {k:Nat} {A:Around} (r:RoomM (k + 1) A) (env:Env):RoomM k (A.deeper env) :=
 ⟨by have:=r.dp; show A.depth + 1 + 3 * k + 5 < _; omega,by have:=r.un; show A.units + 3 + 16 * k + 200 < _; omega⟩
theorem RoomM.of {k:Nat} {A:Around} (r:Room k A) (e:Option Value):RoomM k (A.mark e):=⟨r.dp,r.un⟩
structure FnOkM (P:Program) (w:World) (K:PySem.W.Frag) (mg:Str->Option Value) (base:Heap) (CX:CXT) (k:Nat) (f:Addr) (fd:FuncData) (ps:List Str) (sp:Sp):Prop where
 len:∀ vs H Q E,sp vs H Q E->vs.length=ps.length
 run:∀ (A:Around) (outer:List Env) (s:Shared) (H:Hp) (args:Args) (us:List Value) (vs:List V) (Q:VK) (E:XK),RoomM k A->Env0 P w K mg base A outer s H->BindsTo s fd args (ps.zip us)->Vals vs us->sp vs H Q E ->
  codeAny (model P w) A (.call (.ref f) args) (CR CX outer P w H s Q E) s
abbrev cxM (CX:CXT) (P:Program) (w:World) (K:PySem.W.Frag) (mg:[23]) (base:Heap) (N:List Str) (qual:Str) (scope:Scope) (f:Addr) (cd:Value) (A:Around) (outer:List Env) (s:[39]) (H:Hp) (E:XK):Cx :=
 { cxOf CX P w K mg base N qual scope f cd A outer s H E with calm:=false }
theorem vr1 {CX:CXT} {P:Program} {w:World} {K:PySem.W.Frag} {mg:[23]} {base:Heap} {N ps:List Str} {qual:Str} {scope:Scope} {f:Addr} {cd:Value} {A:Around} {outer:List Env} {s s1:[39]} {H:Hp} {E:XK} {us:[22]} {vs:List V}
    (S:FnScope N ps scope) (e0:Env0 P w K mg base A outer s H) (hl:vs.length=ps.length) (r:Vals vs us)
    (x:InCallC s s.heap.objs.size (bindL (envOfC qual scope s.heap.objs.size f cd).kindOf (ps.zip us) λ _=>none) (cellsFrom (s.heap.objs.size + 1) scope.names []) (bindC (envOfC qual scope s.heap.objs.size f cd).kindOf (ps.zip us) λ _=>none) s1) :
    Inv (cxM CX P w K mg base N qual scope f cd A outer s H E) [] (start N vs) H s1:=by
 have I:=tc1 (CX:=CX) (P:=P) (w:=w) (K:=K) (mg:=mg) (base:=base) (E:=E) (A:={ A with handled:=none }) (outer:=outer) S rfl ⟨e0.frames,e0.mod,e0.bs,e0.bsz,e0.funs,e0.frf,e0.hok,e0.bare⟩ hl r x;exact ⟨⟨I.ok.mod,I.ok.kind,I.ok.glob,I.ok.blt,I.ok.above,I.ok.inj,I.ok.has,I.ok.cab,(λ z=>Bool.noConfusion z),Around.frames_deeper e0.frames,I.ok.stk,I.ok.exf,I.ok.bs,I.ok.bsz,I.ok.noex,I.ok.exfs,I.ok.funs,I.ok.frf⟩,I.os,I.bare,I.base,I.loc,I.cell,I.free,I.freeC,I.pin,I.hok,I.len⟩
theorem zz3 {CX:CXT} {P:Program} {w:World} {K:PySem.W.Frag} {mg:[23]} {base:Heap} {k:Nat} {f:Addr} {name qual:Str} {params:Arguments} {body:List Stmt} {scope:Scope} {dV kV doc pm cdv ct oc:Value} {an od:Option Addr}
    {osl:Array (Option Value)} {N ps:List Str} {sp:Sp} (lk:K.lookup f=some ⟨oc,od,.func (fnOf name qual params body scope dV kV doc pm an cdv ct),osl⟩) (hcd:codeIn K cdv qual=true) (S:FnScope N ps scope)
    (len:∀ vs H Q E,sp vs H Q E->vs.length=ps.length)
    (hbody:∀ (A:Around) (outer:List Env) (s:[39]) (H:Hp) (vs:List V) (Q:VK) (E:XK),RoomM k (A.deeper (envOfC qual scope s.heap.objs.size f cdv))->sp vs H Q E ->
     ∃ t,PSs (cxM CX P w K mg base N qual scope f cdv A outer s H E) body t /\ t { nx:=λ _ H'=>Q .non H',rt:=Q } (start N vs) H) :
    FnOkM P w K mg base CX (k + 1) f (fnOf name qual params body scope dV kV doc pm an cdv ct) ps sp:=by
 refine ⟨len,λ A outer s H args us vs Q E hr e0 hb r hsp=>?_⟩;have hl:=len _ _ _ _ hsp;have KX:K.In s.heap:=e0.mod.kin.keeps λ b o e=>(e0.bs b o e).1;have lim:s.heap.NoLimit:=e0.mod.nolimit.keeps λ b o e=>(e0.bs b o e).1
 have hkind:∀ y ∈ ps.zip us,scope.names.lookup y.1=some .local \/ (scope.names.lookup y.1=some .cell /\ ((cellsFrom (s.heap.objs.size + 1) scope.names []).lookup y.1).isSome=true):=λ ⟨n,v⟩ hy=>by
  rcases S.par n (of_mem_zip hy).1 with q | q
  ·exact .inl q
  ·exact .inr ⟨q,cellsFrom_some _ _ _ (.inl q)⟩
 have hdep:A.depth < recursionLimit:=by have:=hr.dp; omega
 refine codeAny_call_function hdep (KX _ _ lk) rfl S.co S.gen rfl (codeRec_of KX hcd) (hb _ _ _ _ ?_);refine wpAny_newFunctionEnv_cells S.kind hkind λ env he s1 x=>?_;subst he;refine ⟨lim.keeps x.toInCall.keep,codeAny_func ?_⟩;obtain ⟨t,ht,hq⟩:=hbody A outer s H vs Q E (hr.deeper _) hsp;have I:Inv (cxM CX P w K mg base N qual scope f cdv A outer s H E) [] (start N vs) H s1:=vr1 S e0 hl r x;refine wpAny_mono (ht [] s1 (start N vs) H _ I hq) (λ fl s' hs=>?_) λ e s' hs=>hs
 have fin:∀ {σ':L2.St} {H':Hp} {v:V} {u:Value},Inv (cxM CX P w K mg base N qual scope f cdv A outer s H E) [] σ' H' s'->RelV v u->Q v H'->CE outer P w H s Q u s' :=
  λ {σ' H' v u} J rv q=>⟨v,H',J.os,J.bare,J.base,J.hok,rv,q⟩
 cases fl with
 | ret u =>
  obtain ⟨v,σ',H',J,rv,q⟩:=hs;exact fin J rv q
 | next =>
  obtain ⟨σ',H',J,q⟩:=hs;exact fin (v:=V.non) (u:=Value.none) J rfl q
 | brk =>
  obtain ⟨_,_,_,q⟩:=hs;exact False.elim q
 | cont =>
  obtain ⟨_,_,_,q⟩:=hs;exact False.elim q
def CalM (P:Program) (w:World) (K:Fg) (mg:[23]) (base:Heap) (k:Nat) (x:Str) (ps:List Str) (sp:Sp3):Prop :=
 ∃ f fd,FnOkM P w K mg base CX0 k f fd ps (lift K sp) /\ mg x=some (.ref f) /\ keepIn K (.ref f)=true /\ Binds K fd ps []
theorem CalM.mono {P:Program} {w:World} {K:Fg} {mg:[23]} {base:Heap} {j k:Nat} {x:Str} {ps:List Str} {sp:Sp3} (c:CalM P w K mg base j x ps sp) (h:j<=k):CalM P w K mg base k x ps sp:=by
 obtain ⟨f,fd,F,r⟩:=c;exact ⟨f,fd,⟨F.len,λ A outer s H args us vs Q E hr=>F.run A outer s H args us vs Q E (hr.mono h)⟩,r⟩
section
variable {X:Cx} {x:Str} {e:Expr} {es:List Expr} {p pos:Pos} {t:TA3}
theorem zi2 {k:Nat} {ps:List Str} {sp:Sp3} (c:CalM X.prog X.w X.K X.mg X.base k x ps sp) (hr:RoomM k X.A) (ha:RA X (e :: es) t) (hg:Gl X x:=by rfl) (hdb:[25]=false:=by decide)
    (he:starEach (e :: es) X.env=[29] :: starEach es X.env:=by rfl) (hpl:(backTo pos (starEach es X.env)).any (·.1)=false:=by rfl):RE X (.Call (.Name x p) (e :: es) [] pos) (call3 sp t):=by
 obtain ⟨f,fd,F,hm,hk,hb⟩:=c;obtain ⟨va,pa,ra⟩:=ha;refine ⟨xj3 (lift X.K sp) [] E0 va,λ pins s σ H Q I h=>?_,λ σ H Q ρ μ Q3 s m h k=>ra σ H _ ρ μ _ s m h λ ds μ1 vs H1 h1 k1 r1 m1=>?_⟩
 ·refine wpAny_Call_Name_kw (tj0 I hg hm ?_ hdb);refine callWith_K (h₀:=X.base) I.ok.mod.kin hk (thn (pa pos pins s σ H _ I h) λ us s1 ⟨vs,H1,I1,r,q⟩=>⟨I1.kIn,?_⟩) he hpl;dsimp only at q;rw [append_nil] at q;have hl:(us ++ []).length=ps.length:=by rw [append_nil,<- r.length]; exact F.len _ _ _ _ q
  have hbb:=hb s1 us I1.kIn hl;rw [append_nil] at hbb;refine wpAny_call (codeAny_mono (F.run X.A X.stack s1 H1 ⟨us,[]⟩ us vs Q E0 hr I1.env0 hbb r q) λ rr s' hq=>?_);cases rr with
  | error ex=>exact False.elim hq
  | ok fl =>
   cases fl with
   | ret u=>exact I1.after hq
   | next=>exact False.elim hq
   | brk=>exact False.elim hq
   | cont=>exact False.elim hq
 ·rw [append_nil];exact ⟨ds,μ1,Q3,r1,m1,h1,k.after k1⟩
end
section
variable {P:Program} {w:World} {K:Fg} {mg:[23]} {base:Heap}
theorem uc3 {x:Str} {st:Stmt} {f:Addr} {fd:FuncData} {N ps:List Str} {k:Nat} {sp:Sp3} {t:TS3} (F:Fun K x x st f fd) (hm:mg x=some (.ref f)) (hb:Binds K fd ps []) (S:FnScope N ps (va0 st))
    (len:∀ ds μ Q,sp ds μ Q->ds.length=ps.length)
    (body:∀ (cdv:Value) (A:Around) (outer:List Env) (s:[39]) (H:Hp) (E:XK),RoomM k (A.deeper (envOfC x (va0 st) s.heap.objs.size f cdv))->RSs (cxM CX0 P w K mg base N x (va0 st) f cdv A outer s H E).nox (vb0 st) t)
    (rd:∀ ds μ Q,sp ds μ Q->t { nx:=λ _ μ'=>Q .non μ',rt:=Q } (start3 N ds) μ):CalM P w K mg base (k + 1) x ps sp:=by
 refine ⟨f,fd,?_,hm,F.kp,hb⟩;obtain ⟨oc,od,kV,doc,pm,an,cdv,ct,osl,rfl,lk,hcd⟩:=F.ex;refine zz3 lk hcd S (λ vs H Q E h=>?_) λ A outer s H vs Q E hr h=>?_
 ·obtain ⟨ds,μ,Q3,r,m,q,ks⟩:=h;rw [<- r.length]; exact len _ _ _ q
 ·obtain ⟨ds,μ,Q3,r,m,q,ks⟩:=h;obtain ⟨tv,p,rt⟩:=body cdv A outer s H E hr;exact ⟨tv,p.nox,rt _ H _ _ μ _ (RSt.start N r) m (rd ds μ Q3 q) ⟨λ ρ μ' σ H' h' k' s' m'=>ks _ _ _ _ h' k' .non m',λ ρ μ' σ H' h'=>False.elim h',λ ρ μ' σ H' h'=>False.elim h',ks⟩⟩
end
theorem yq2 {K:Fg} {h:Heap} {mg:[23]} {x:Str} {C:Addr} {bs:[22]} {ni:String} (Z:K.In h) (G:h.Ns mainGlobals mg) (e:nsIn K mainGlobals x=some (some (.ref C))) (w:excIn K C bs ni=true):OwnCls x C bs ni mg h:=by
 refine ⟨mg_of Z G e,?_⟩;unfold excIn at w;split at w
 case h_2=>cases w
 case h_1 d1 c1 s1 ho =>
  split at w
  case h_2=>cases w
  case h_1 C2 b1 z0 z1 z2 z3 id z5 hm hs =>
   simp only [Bool.and_eq_true,beq_iff_eq,Bool.not_eq_true'] at w;obtain ⟨⟨⟨⟨⟨w1,w2⟩,w3⟩,w4⟩,w5⟩,w6⟩:=w;subst w1 w2;cases c1;dsimp only at hm w3 w5 w6;subst hm w3;have es:s1 = #[z0,z1,z2,z3,some (.builtin id),z5]:=by cases s1; simp only at hs; rw [hs]
   rw [es] at ho;exact ⟨b1,_,_,_,_,_,_,_,_,_,d1,z0,z1,z2,z3,z5,_,Z _ _ ho,.of_isNs (PySem.W.isNs_of_in Z w5),PySem.W.nsMap_none_of_in Z w5 w6,PySem.W.tail_of_in Z w4⟩
section
variable {K:Fg} {C:Addr} {cd:ClassData} {t c:Value} {b:Bool} {T:String}
theorem se0 (cl:clsIn K C=some cd) (tc:typeIn K (.ref C)=some (.type "type")) (sb:subIn K t (.ref C)=some b):kitCls K t (.ref C)=some b:=by
 unfold kitCls;dsimp only;rw [cl,tc,if_pos [20],sb]
theorem ux0 (hm:PySem.W.kitMeta T=true) (sb:subIn K t (.type T)=some b):kitCls K t (.type T)=some b:=by
 unfold kitCls;dsimp only;rw [if_pos hm,sb]
theorem tf0 (ne:(t == c)=false) (h:kitCls K t c=some b):kitOne K t c=some b:=by
 unfold kitOne;rw [if_neg (by rw [ne]; decide),h]
theorem wc1:kitOne K t t=some true:=by
 unfold kitOne;rw [if_pos [20]]
end
theorem uz0:bootBuiltins "ValueError" = some (.type "ValueError"):=by decide +kernel
end Pv
namespace Pv
open PySem PySem.Spec PyProof.Rows L2
open PySem.AutoSeq1 (wpAny_loadPart')
section
variable {X:Cx}
def uq1:C3:=λ ds μ Q=>match ds with
 | [.ref p]=>match μ p with
  | some (.lst l)=>match ints? l with
   | some ns=>0 < ns.length /\ ∀ m,m ∈ ns->(∀ a,a ∈ ns->m<=a)->Q (.int m) μ
   | none=>False
  | _=>False
 | _=>False
def tq1:C3:=λ ds μ Q=>match ds with
 | [.ref p]=>match μ p with
  | some (.lst l)=>match ints? l with
   | some ns=>0 < ns.length /\ ∀ m,m ∈ ns->(∀ a,a ∈ ns->a<=m)->Q (.int m) μ
   | none=>False
  | _=>False
 | _=>False
theorem sd2 (hc:X.calm=true):CallR X (.builtin "min") (λ xs H Q=>∃ (p:Addr) (ns:List Int),xs=[.ref p] /\ SqL X.K H p (ns.map V.int) /\ 0 < ns.length /\ ∀ m,m ∈ ns->(∀ a,a ∈ ns->m<=a)->Q (.int m) H):=by
 intro pins s σ H xs us Q I r h;obtain ⟨p,ns,rfl,hq,hne,q⟩:=h;obtain ⟨u,rfl,rx⟩:=us1 r;cases rx;obtain ⟨its,r',pl,hz⟩:=I.list hq;have hi:=ys0 r';obtain ⟨ys,e⟩:=hi.allInts.items;have hl:=pl.isList;rw [e] at hl;have hns:ns=ys.toList.map (·.1):=by rw [<- hi.numsOf,<- nums_intItems,<- e]
 have hsz:0 < ys.size:=by
  have h3:=hne; rw [hns,length_map,length_toList] at h3; exact h3
 refine min_intList (I.ok.hd hc) hl hsz λ v h' tk hv hk=>?_;obtain ⟨t,rfl⟩:=intItems_at hv;obtain ⟨h1,h2⟩:=argBest_lt (numAt ys) (ys.size - 1);refine ⟨.int _,H,I.kept (t':=tk) hk,⟨t,rfl⟩,q _ ?_ λ a ha=>?_⟩
 ·rw [hns,numAt_eq]; exact getD_mem (by rw [length_map,length_toList]; omega)
 ·rw [hns] at ha;obtain ⟨j,hj,rfl⟩:=mem_getD ha;rw [length_map,length_toList] at hj;rw [<- numAt_eq]; exact h2 j [1]
theorem xe2 (hc:X.calm=true):CallR X (.builtin "max") (λ xs H Q=>∃ (p:Addr) (ns:List Int),xs=[.ref p] /\ SqL X.K H p (ns.map V.int) /\ 0 < ns.length /\ ∀ m,m ∈ ns->(∀ a,a ∈ ns->a<=m)->Q (.int m) H):=by
 intro pins s σ H xs us Q I r h;obtain ⟨p,ns,rfl,hq,hne,q⟩:=h;obtain ⟨u,rfl,rx⟩:=us1 r;cases rx;obtain ⟨its,r',pl,hz⟩:=I.list hq;have hi:=ys0 r';obtain ⟨ys,e⟩:=hi.allInts.items;have hl:=pl.isList;rw [e] at hl;have hns:ns=ys.toList.map (·.1):=by rw [<- hi.numsOf,<- nums_intItems,<- e]
 have hsz:0 < ys.size:=by
  have h3:=hne; rw [hns,length_map,length_toList] at h3; exact h3
 refine max_intList (I.ok.hd hc) hl hsz λ v h' tk hv hk=>?_;obtain ⟨t,rfl⟩:=intItems_at hv;obtain ⟨h1,h2⟩:=argBest_gt (numAt ys) (ys.size - 1);refine ⟨.int _,H,I.kept (t':=tk) hk,⟨t,rfl⟩,q _ ?_ λ a ha=>?_⟩
 ·rw [hns,numAt_eq]; exact getD_mem (by rw [length_map,length_toList]; omega)
 ·rw [hns] at ha;obtain ⟨j,hj,rfl⟩:=mem_getD ha;rw [length_map,length_toList] at hj;rw [<- numAt_eq]; exact h2 j [1]
theorem wp2 (hc:X.calm=true):RC X (.builtin "min") uq1:=by
 refine ⟨_,sd2 hc,λ xs vs H Q μ Q3 m r h k=>?_⟩;unfold uq1 at h;split at h
 ·next p =>
  cases r with
  | cons r1 r2 =>
   cases r2;cases r1;split at h
   ·next l e =>
    split at h
    ·next ns e1 =>
     obtain ⟨vs,hv,rs⟩:=m p l e;have ev:=tx0 rs e1;subst ev;exact ⟨p,ns,rfl,SqL.of hv,h.1,λ a h1 h2=>k _ _ _ _ (h.2 a h1 h2) (Kp.refl _) (.int _) m⟩
    ·exact h.elim
   ·exact h.elim
 ·exact h.elim
theorem vp2 (hc:X.calm=true):RC X (.builtin "max") tq1:=by
 refine ⟨_,xe2 hc,λ xs vs H Q μ Q3 m r h k=>?_⟩;unfold tq1 at h;split at h
 ·next p =>
  cases r with
  | cons r1 r2 =>
   cases r2;cases r1;split at h
   ·next l e =>
    split at h
    ·next ns e1 =>
     obtain ⟨vs,hv,rs⟩:=m p l e;have ev:=tx0 rs e1;subst ev;exact ⟨p,ns,rfl,SqL.of hv,h.1,λ a h1 h2=>k _ _ _ _ (h.2 a h1 h2) (Kp.refl _) (.int _) m⟩
    ·exact h.elim
   ·exact h.elim
 ·exact h.elim
end
open PySem.AutoSeq1 (wpAny_loadPart')
theorem ndlt (x y:Int):(!decide (x < y))=decide (y<=x):=by
 by_cases h:x < y
 ·rw [decide_eq_true h,decide_eq_false [1]]; rfl
 ·rw [decide_eq_false h,decide_eq_true [1]]; rfl
theorem ta3 (p q:Addr) (a b:T3) (t1 t2 t3 u1 u2 u3:Tok) (n m:Nat) (dd dd2:Option Addr) (sl sl2:Array (Option Value)) :
    Meets (Builtin.«tuple.__ge__» ⟨[.ref p,.ref q],[]⟩) (λ A R s=>s.heap.get? p=some { cls:=.type "tuple",dict:=dd,data:=.seq #[.int a.1 t1,.int a.2.1 t2,.int a.2.2 t3] n,slots:=sl } /\ s.heap.get? q=some { cls:=.type "tuple",dict:=dd2,data:=.seq #[.int b.1 u1,.int b.2.1 u2,.int b.2.2 u3] m,slots:=sl2 } ∧
     R (.ok (.ret (.bool (!lt3 a b)))) s) :=
 .of_wp λ prog w A R s h=>by
  obtain ⟨hp,g,dr,tk,os⟩:=s; obtain ⟨hl,hb,h⟩:=h;obtain ⟨a1,a2,a3⟩:=a;obtain ⟨b1,b2,b3⟩:=b;have f2:=AutoSeq1.sub_tuple_tuple;have ge:∀ (x y:Int) (tx ty:Tok) {Q:[4]} {E:[4]} {A:Around} {s:[39]},Q (.bool (decide (y<=x))) s->wpAny [5] A (richCompare .GtE (.int x tx) (.int y ty)) Q E s:=λ x y tx ty Q E A s hq=>ge_int hq;have eqb:∀ (x y:Int) (tx ty:Tok) {Q:Bool->Shared->Prop} {E:[4]} {A:Around} {s:[39]},Q (x == y) s->wpAny [5] A (eqBool (.int x tx) (.int y ty)) Q E s:=λ x y tx ty Q E A s hq=>wpAny_eqBool_int hq
  wp_walk using wpAny_loadPart' hl,wpAny_loadPart' hb,eqb a1 b1 t1 u1
  by_cases h1:a1=b1
  ·rw [show (a1 == b1)=true by simpa using h1]
   wp_walk using eqb a2 b2 t2 u2
   by_cases h2:a2=b2
   ·rw [show (a2 == b2)=true by simpa using h2]
    wp_walk using eqb a3 b3 t3 u3
    by_cases h3:a3=b3
    ·rw [show (a3 == b3)=true by simpa using h3]
     wp_walk
     have h':R (.ok (.ret (.bool true))) ⟨hp,g,dr,tk,os⟩:=by simpa [lt3,h1,h2,h3] using h
     exact ⟨_,rfl,h'⟩
    ·rw [show (a3 == b3)=false by simpa using h3]
     wp_walk using ge a3 b3 t3 u3
     have e:(!lt3 (a1,a2,a3) (b1,b2,b3))=decide (b3<=a3):=by rw [show lt3 (a1,a2,a3) (b1,b2,b3)=decide (a3 < b3) by subst h1 h2; simp [lt3],ndlt]
     rw [e] at h;exact ⟨_,rfl,by simpa using h⟩
   ·rw [show (a2 == b2)=false by simpa using h2]
    wp_walk using ge a2 b2 t2 u2
    have e:(!lt3 (a1,a2,a3) (b1,b2,b3))=decide (b2<=a2):=by rw [show lt3 (a1,a2,a3) (b1,b2,b3)=decide (a2 < b2) by subst h1; simp [lt3,h2],ndlt]
    rw [e] at h;exact ⟨_,rfl,by simpa using h⟩
  ·rw [show (a1 == b1)=false by simpa using h1]
   wp_walk using ge a1 b1 t1 u1
   have e:(!lt3 (a1,a2,a3) (b1,b2,b3))=decide (b1<=a1):=by rw [show lt3 (a1,a2,a3) (b1,b2,b3)=decide (a1 < b1) by simp [lt3,h1],ndlt]
   rw [e] at h;exact ⟨_,rfl,by simpa using h⟩
section
variable {X:Cx}
def ge3R:R3:=λ x y μ Q=>match x,y with
 | .int i,.int j=>Q (.bl (decide (j<=i))) μ
 | .tup [.int a,.int b,.int c],.tup [.int d,.int e,.int f]=>Q (.bl (!lt3 (a,b,c) (d,e,f))) μ
 | _,_=>False
def rGe3 (K:Fg):R2:=λ x y H Q=>∃ p q a b,x=.ref p /\ y=.ref q /\ SqT K H p [.int a.1,.int a.2.1,.int a.2.2] /\ SqT K H q [.int b.1,.int b.2.1,.int b.2.2] /\ Q (.bl (!lt3 a b)) H
theorem wf3 {x y z:V} {us:[22]} (r:Vals [x,y,z] us):∃ a b c,us=[a,b,c] /\ RelV x a /\ RelV y b /\ RelV z c:=by
 cases r with
 | cons r1 r =>
  cases r with
  | cons r2 r =>
   cases r with
   | cons r3 r=>cases r; exact ⟨_,_,_,rfl,r1,r2,r3⟩
theorem zw3 (hu:X.A.units < cLine):OpR X (compareOp .GtE) (rGe3 X.K):=by
 intro pins s σ H x y v u Q I rx ry h;obtain ⟨p,q,a,b,rfl,rfl,ha,hb,k⟩:=h;cases rx;cases ry;obtain ⟨its,r1,⟨⟨c1,d1,e1,l1⟩,o1,o2,n1,o3⟩,_⟩:=I.tuple ha;obtain ⟨its2,r2,⟨⟨c2,d2,e2,l2⟩,o4,o5,n2,o6⟩,_⟩:=I.tuple hb;obtain ⟨_,_,_,rfl,⟨t1,rfl⟩,⟨t2,rfl⟩,⟨t3,rfl⟩⟩:=wf3 r1;obtain ⟨_,_,_,rfl,⟨u1,rfl⟩,⟨u2,rfl⟩,⟨u3,rfl⟩⟩:=wf3 r2;dsimp only at o2 o3 o5 o6;subst o2 o3 o5 o6;exact richCompare_meets_room (op:=.GtE) (T := "tuple") ⟨_,o1,rfl⟩ ⟨_,o4,rfl⟩ PySem.F.slot_tuple_ge PySem.F.entry_tuple_ge (PySem.F.args_tuple_ge_2 _ _) (ta3 p q a b t1 t2 t3 u1 u2 u3 n1 n2 d1 d2 l1 l2) ⟨o1,o4,by simp,⟨.bl (!lt3 a b),H,I,rfl,k⟩⟩ hu
theorem vi4 (hu:X.A.units + 64 < cLine):RO X (compareOp .GtE) ge3R:=by
 refine ⟨_,op_ge.or (zw3 [1]),λ x y v u H Q μ Q3 m rx ry h k=>?_⟩;unfold ge3R at h;split at h
 ·cases rx;cases ry;exact .inl ⟨_,_,rfl,rfl,k _ _ _ _ h (Kp.refl _) (.bl _) m⟩
 ·next a b c d e f =>
  cases rx with
  | tup hq rs =>
   cases ry with
   | tup hq2 rs2 =>
    cases rs with
    | cons x1 rs =>
     cases rs with
     | cons x2 rs =>
      cases rs with
      | cons x3 rs =>
       cases rs;cases rs2 with
       | cons y1 rs2 =>
        cases rs2 with
        | cons y2 rs2 =>
         cases rs2 with
         | cons y3 rs2 =>
          cases rs2;cases x1; cases x2; cases x3; cases y1; cases y2; cases y3;exact .inr ⟨_,_,(a,b,c),(d,e,f),rfl,rfl,(SqT.of hq),(SqT.of hq2),k _ _ _ _ h (Kp.refl _) (.bl _) m⟩
 ·exact h.elim
end
def tl0 (cells:List (Str × Addr)):List (Str × NameKind)->List (Str × Addr)->List (Str × Addr)
 | [],acc=>acc
 | (n,k) :: r,acc=>if k == .free then tl0 cells r ((n,(cells.lookup n).getD 0) :: acc) else tl0 cells r acc
theorem zz0 {scope:Scope} {env:Env} (h:∀ y ∈ scope.names,y.2=.free->(env.cells.lookup y.1).isSome=true):closureFor scope env=pure (tl0 env.cells scope.names []):=by
 unfold closureFor
 have key:∀ (l:List (Str × NameKind)) (acc:List (Str × Addr)),(∀ y ∈ l,y.2=.free->(env.cells.lookup y.1).isSome=true) ->
     (forIn l acc (λ x r=>if (x.2 == NameKind.free)=true then do let c <- cellOf env x.1; pure (ForInStep.yield ((x.1,c) :: r)) else pure (ForInStep.yield r)):Sem (List (Str × Addr)))=pure (tl0 env.cells l acc):=by
  intro l
  induction l with
  | nil=>intro acc _; rfl
  | cons y r ih =>
   intro acc hl;obtain ⟨n,k⟩:=y;rw [List.forIn_cons];have ih':=λ a=>ih a λ z hz=>hl z (mem_cons_of_mem _ hz);by_cases hk:k=.free
   ·subst hk;have hs:=hl (n,.free) (mem_cons_self ..) rfl;obtain ⟨c,hc⟩:=Option.isSome_iff_exists.mp hs;have ec:cellOf env n=pure c:=by unfold cellOf; rw [hc]
    simp only [tl0,ec,pure_bind,beq_self_eq_true,if_true,hc,Option.getD_some];exact ih' _
   ·have hk':(k == NameKind.free)=false:=by simpa using hk
    simp only [tl0,hk',Bool.false_eq_true,if_false,pure_bind];exact ih' _
 have:=key scope.names [] h;refine Eq.trans ?_ this;refine Eq.trans (bind_pure (forIn scope.names ([]:List (Str × Addr)) _:Sem (List (Str × Addr)))) ?_;congr 1
theorem yq0 {cells:List (Str × Addr)} {x:Str} {c:Addr}:∀ (l:List (Str × NameKind)) (acc:List (Str × Addr)),(∀ y ∈ l,y.2=.free->(cells.lookup y.1).isSome=true)->(acc.lookup x=some c->cells.lookup x=some c) ->
    (tl0 cells l acc).lookup x=some c->cells.lookup x=some c
 | [],acc,_,ha,h=>ha h
 | (n,k) :: r,acc,hl,ha,h=>by
  unfold tl0 at h;split at h
  ·next hk =>
   refine yq0 r _ (λ z hz=>hl z (mem_cons_of_mem _ hz)) (λ h2=>?_) h;rw [lookup_cons] at h2;split at h2
   ·next e =>
    have e':x=n:=eq_of_beq e;subst e';obtain ⟨c',hc⟩:=Option.isSome_iff_exists.mp (hl (x,k) (mem_cons_self ..) (eq_of_beq hk));rw [hc] at h2;simp only [Option.getD_some,Option.some.injEq] at h2;rw [hc,h2]
   ·exact ha h2
  ·exact yq0 r acc (λ z hz=>hl z (mem_cons_of_mem _ hz)) ha h
theorem zq0 {cells:List (Str × Addr)} {x:Str}:∀ (l:List (Str × NameKind)) (acc:List (Str × Addr)),((∃ c,acc.lookup x=some c) \/ (x,NameKind.free) ∈ l)->∃ c,(tl0 cells l acc).lookup x=some c
 | [],acc,h=>by
  rcases h with h | h
  ·exact h
  ·cases h
 | (n,k) :: r,acc,h=>by
  unfold tl0;split
  ·next hk =>
   refine zq0 r _ ?_;by_cases e:x=n
   ·subst e;left;exact ⟨(cells.lookup x).getD 0,by rw [lookup_cons]; simp⟩
   ·rcases h with ⟨c,h⟩ | h
    ·left;refine ⟨c,?_⟩;rw [lookup_cons];have:(x == n)=false:=by simpa using e
     rw [this]; exact h
    ·right;rcases List.mem_cons.mp h with h | h
     ·exact absurd (congrArg Prod.fst h) e
     ·exact h
  ·next hk =>
   refine zq0 r acc ?_;rcases h with h | h
   ·exact .inl h
   ·rcases List.mem_cons.mp h with h | h
    ·cases h; exact absurd rfl hk
    ·exact .inr h
theorem CompSc.free {X:Cx} {NN:List Str} {scope:Scope} {js:List [34]} (hcell:∀ y ∈ scope.names,y.2 ≠ .cell) (hk:scope.kind=.function) (hfn:X.env.scope.kind=.function)
    (hn:∀ y ∈ scope.names,y.2=.local->scope.names.lookup y.1=some .local) (hfree:∀ y ∈ scope.names,y.2=.free->X.env.scope.names.lookup y.1=some .cell) (hlook:∀ y ∈ scope.names,y.2=.free->scope.names.lookup y.1=some .free)
    (hcl:∀ x,X.env.scope.names.lookup x=some .cell->(X.env.cells.lookup x).isSome=true) (len:js.length=NN.length)
    (hout:∀ i ∈ List.range js.length,∀ j,js.getD i none=some j->∃ x,NN[i]?=some x /\ X.N[j]?=some x /\ scope.names.lookup x=some .free) :
    CompSc X NN scope (tl0 X.env.cells scope.names []) js where
 clos:=zz0 λ y hy e=>hcl _ (hfree y hy e)
 cell:=hcell
 kind:=hk
 names:=hn
 sub:=λ x c h=>yq0 scope.names [] (λ y hy e=>hcl _ (hfree y hy e)) (λ h=>by simp at h) h
 has:=λ x h=>by
  refine zq0 scope.names [] (.inr ?_)
  have hm:∃ k,(x,k) ∈ scope.names /\ (k=.free \/ k=.cell):=by
   have key:∀ kk,(relabel scope X.env).names.lookup x=some kk->(kk=.cell \/ kk=.free)->∃ k,(x,k) ∈ scope.names /\ (k=.free \/ k=.cell):=λ kk hkk hc=>by
    have hmem:=wh0 hkk;obtain ⟨⟨n,k⟩,hy,e⟩:=List.mem_map.mp hmem;dsimp only at e;split at e
    ·next hq =>
     cases e;simp only [Bool.and_eq_true] at hq;exact ⟨k,hy,.inl (by simpa using hq.1.1)⟩
    ·cases e;exact ⟨kk,hy,hc.symm⟩
   rcases h with h | h
   ·exact key _ h (.inl rfl)
   ·exact key _ h (.inr rfl)
  obtain ⟨k,hk1,hk2⟩:=hm;rcases hk2 with rfl | rfl
  ·exact hk1
  ·exact absurd rfl (hcell _ hk1)
 len:=len
 out:=λ i j h=>by
  have hi:i < js.length:=by
   rcases Nat.lt_or_ge i js.length with z | z
   ·exact z
   ·rw [List.getElem?_eq_none z] at h; cases h
  obtain ⟨x,e1,e2,e3⟩:=hout i (List.mem_range.mpr hi) j (by rw [getD_eq_getElem?_getD,h]; rfl);have hf:=hfree (x,.free) (wh0 e3) rfl;refine ⟨x,e1,e2,.inr (.inl hf),by rw [hf]; simp,?_⟩;left
  have key:∀ (l:List (Str × NameKind)),l.lookup x=some .free->(l.map λ (n,k)=>if (k == NameKind.free && X.env.scope.kind == .function && X.env.kindOf n == some .cell) then (n,NameKind.cell) else (n,k)).lookup x=some .cell:=λ l=>by
   induction l with
   | nil=>intro h; simp at h
   | cons y r ih =>
    obtain ⟨n,k⟩:=y;intro h;rw [lookup_cons] at h;rw [map_cons,lookup_cons];by_cases e:x=n
    ·subst e;simp only [beq_self_eq_true,Option.some.injEq] at h;subst h
     have hkind:(X.env.kindOf x == some NameKind.cell)=true:=by
      show (X.env.scope.names.lookup x == some NameKind.cell)=true;rw [hf]; rfl
     simp [hfn,hkind]
    ·have e':(x == n)=false:=by simpa using e
     rw [e'] at h;have ih':=ih h;by_cases hq:(k == NameKind.free && X.env.scope.kind == ScopeKind.function && X.env.kindOf n == some NameKind.cell)=true
     ·simp only [hq,if_true,e']; exact ih'
     ·simp only [hq,Bool.false_eq_true,if_false,e']; exact ih'
  exact key _ e3
theorem yz0 {CX:CXT} {P:Program} {w:World} {K:Fg} {mg:[23]} {base:Heap} {N:List Str} {qual:Str} {sc:Scope} {f:Addr} {cdv:Value} {A:Around} {outer:List Env} {s:[39]} {H:Hp} {E:XK} {NN:List Str} {scope:Scope} {js:List [34]}
    (hcell:∀ y ∈ scope.names,y.2 ≠ .cell:=by decide +kernel) (hk:scope.kind=.function:=by rfl) (hfn:sc.kind=.function:=by rfl)
    (hn:∀ y ∈ scope.names,y.2=.local->scope.names.lookup y.1=some .local:=by decide +kernel) (hfree:∀ y ∈ scope.names,y.2=.free->sc.names.lookup y.1=some .cell:=by decide +kernel)
    (hlook:∀ y ∈ scope.names,y.2=.free->scope.names.lookup y.1=some .free:=by decide +kernel) (len:js.length=NN.length:=by rfl)
    (hout:∀ i ∈ List.range js.length,∀ j ∈ (js.getD i none).toList,∃ x ∈ NN[i]?.toList,N[j]?=some x /\ scope.names.lookup x=some .free:=by decide +kernel) :
    CompSc (cxOf CX P w K mg base N qual sc f cdv A outer s H E).nox NN scope (tl0 (cxOf CX P w K mg base N qual sc f cdv A outer s H E).nox.env.cells scope.names []) js :=
 CompSc.free (X:=(cxOf CX P w K mg base N qual sc f cdv A outer s H E).nox) hcell hk hfn hn hfree hlook (λ x h=>by
  obtain ⟨c,hc⟩:=wn0 (n:=_) h
  exact Option.isSome_iff_exists.mpr ⟨c,hc⟩) len λ i hi j hj=>by
   obtain ⟨x,h1,h2,h3⟩:=hout i hi j (by rw [hj]; simp);exact ⟨x,by simpa using h1,h2,h3⟩
section
variable {X:Cx} {NN:List Str} {scope:Scope} {cl:List (Str × Addr)} {js:List [34]}
theorem zc3 {elt target iter:Expr} {ifs:List Expr} {pos:Pos} {wi:TI} {g:TG} {tc:TT} {te:TE} (hc:X.calm=true) (S:CompSc X NN scope cl js) (hi:PI X target iter wi)
    (hg:∀ C fp s₀ H₀ pn,PG [13] target g) (ht:∀ C fp s₀ H₀ pn,PTs [13] ifs tc) (he:∀ C fp s₀ H₀ pn,PE [13] elt te)
    (hs:∀ x,foldedSetIterable iter X.env x=pure x) {use:Option (Value->Sem Unit)} {Q':[4]} {pins:[8]} {s:[39]} {σ:L2.St} {H:Hp} {Q:VK} (I:[7]) (h:ut1 js wi g tc te σ H Q)
    (hu:∀ (p0 C:Addr) (H':Hp) (s':[39]) (m':[23]),Inv X pins σ H' s'->s'.heap.Ns C m'->H' C=none->C ≠ X.env.locals->X.s₀.heap.objs.size<=C->(∀ x c,X.env.cells.lookup x=some c->c ≠ C)->(∀ p ∈ X.pn ++ pins,p.1 ≠ C)->Q (.ref p0) H' ->
     compPost [10] X.A X.xe use Q' (.ref p0) C (.ok .next) s') :
    wpAny [10] X.A (comprehension [14] scope X.env (firstIterPos [⟨target,iter,ifs,0⟩] pos) (newList []) (firstAsync [⟨target,iter,ifs,0⟩]) (firstIter [⟨target,iter,ifs,0⟩] X.env) use) Q' X.xe s:=by
 refine wpAny_comprehension_free (use:=use) rfl hs S.clos S.kind S.names (thn (hi pins s σ H _ I h) λ xv s1 h1=>thn h1 λ itv s2 h2=>?_);obtain ⟨it,fp,tn,J,H2,rfl,I2,T,st2,f2,hW⟩:=h2;refine wpAny_newObj_type (wpAny_newFunctionEnv S.cell (by intro y hy; simp at hy) (λ h₁ hns₁ hsb₁=>?_) S.kind);dsimp only at hns₁ hsb₁ ⊢;have hD:H2 s2.heap.objs.size=none:=I2.hok.fresh [26]
 have I3:Inv X pins σ (upd H2 s2.heap.objs.size (.lst [])) { s2 with heap:=s2.heap.push { cls:=.type "list",dict:=none,data:=.seq ([]:List Value).toArray } } :=
  I2.lnew (t':=s2.toks) (its:=[]) .nil (by rw [sizeLine_eq]; decide)
 generalize hsD:({ s2 with heap:=s2.heap.push { cls:=.type "list",dict:=none,data:=.seq ([]:List Value).toArray } }:Shared)=sD at I3;have eh:sD.heap=s2.heap.push { cls:=.type "list",dict:=none,data:=.seq ([]:List Value).toArray }:=by rw [<- hsD]
 have es:∀ (h:Heap) (tk:Nat),({ s2 with heap:=h,toks:=tk }:Shared)={ sD with heap:=h,toks:=tk }:=λ h tk=>by rw [<- hsD]
 have hsz:s2.heap.objs.size < sD.heap.objs.size:=by rw [eh,Heap.size_push]; exact Nat.lt_succ_self _
 rw [<- eh] at hns₁ hsb₁ ⊢;generalize hp0:s2.heap.objs.size=p0 at *;have up:∀ b u,s2.heap.get? b=some u->sD.heap.get? b=some u:=λ b u e=>by rw [eh]; exact Heap.get?_push_of_some _ e
 have k:∀ b u,sD.heap.get? b=some u->h₁.get? b=some u:=λ b u e=>hsb₁.extBut b u (Nat.ne_of_lt (Heap.lt_size e)) (Heap.get?_push_of_some _ e)
 have f3:∀ b ∈ fp,FpOk X pins (upd H2 p0 (.lst [])) b /\ b < sD.heap.objs.size:=λ b hb=>by
  obtain ⟨o,ho,_⟩:=T.obj 0 _ st2 b hb;have hlt:b < p0:=by rw [<- hp0]; exact Heap.lt_size ho
  refine ⟨⟨?_,(f2 b hb).2⟩,Nat.lt_trans hlt hsz⟩;rw [yc0 (Nat.ne_of_lt hlt)]; exact (f2 b hb).1
 obtain ⟨W,⟨m0,w0⟩,turn⟩:=hW p0 hD;have I4:=sd1 (tk:=s2.toks + ([]:List (Str × Value)).length) hc S I3 f3 hns₁ k;have st4:tn 0 h₁:=T.keep 0 _ _ st2 λ b _ o e=>k b o (up b o e);rw [es];generalize hX':yd0 X NN scope cl sD.heap.objs.size fp sD (upd H2 p0 (.lst [])) (X.pn ++ pins)=X' at I4;have a1:X'.env=compEnvC scope cl sD.heap.objs.size X.env:=by rw [<- hX']
 have a2:X'.prog=X.prog:=by rw [<- hX']
 have a3:X'.w=X.w:=by rw [<- hX']
 have a4:X'.A=X.A:=by rw [<- hX']
 have a5:X'.K=X.K:=by rw [<- hX']
 have a6:X'.calm=true:=by rw [<- hX']; exact hc
 have a7:X'.xe=λ _ _=>False:=by rw [<- hX']
 have a8:X'.ex=fp:=by rw [<- hX']
 have T':Turn X'.prog X'.w X'.K target J fp it tn:=by rw [a2,a3,a5]; exact T
 have hg':PG X' target g:=by rw [<- hX']; exact hg _ _ _ _ _
 have ht':PTs X' ifs tc:=by rw [<- hX']; exact ht _ _ _ _ _
 have he':PE X' elt te:=by rw [<- hX']; exact he _ _ _ _ _
 have fin:∀ {σ':L2.St} {H':Hp} {s':[39]},Inv X' [] σ' H' s'->Q (.ref p0) H'->compPost [10] X.A X.xe use Q' (.ref p0) sD.heap.objs.size (.ok .next) s':=λ {σ' H' s'} I' q=>by
  obtain ⟨m',hn',_⟩:=I'.loc;rw [a1] at hn'
  have u:Un (frs X.stack) fp (upd H2 p0 (.lst [])) H' sD.heap s'.heap:=by
   have:=I'.base;rw [<- hX'] at this;exact this
  have hch:∀ b ∈ fp,(b ∈ X.ex \/ X.s₀.heap.objs.size<=b) /\ b ≠ X.env.locals /\ (∀ x c,X.env.cells.lookup x=some c->c ≠ b) /\ ∀ p ∈ X.pn ++ pins,p.1 ≠ b:=λ b hb=>by
   obtain ⟨_,z1,_,z3,z4,z5⟩:=(f3 b hb).1;exact ⟨z3,z1,z4,z5⟩
  have os':s'.os=sD.os:=by
   have:=I'.os;rw [<- hX'] at this;exact this
  have hok':HOk X.prog X.w H' s'.heap:=by
   have:=I'.hok;rw [<- hX'] at this;exact this
  have I5:Inv X pins σ H' s':=I3.call' os' u hok' I'.bare hch
  have hC:H' sD.heap.objs.size=none:=by
   have:=I'.free;rw [a1] at this;exact this
  refine hu p0 _ H' s' m' I5 hn' hC (Nat.ne_of_gt I3.lt) I3.sz (λ x c e=>?_) (λ p hp=>?_) q
  ·obtain ⟨v,o,ho,_⟩:=I3.cell x c e;exact Nat.ne_of_lt (Heap.lt_size ho)
  ·exact Nat.ne_of_lt (Heap.lt_size (I3.pin p hp).1)
 have fp4:∀ {H':Hp},(∀ b ∈ fp,H' b=none)->∀ b ∈ fp,FpOk X' [] H' b:=λ hn b hb=>by
  obtain ⟨_,z1,z2,z3,z4,z5⟩:=(f3 b hb).1;rw [<- hX'];refine ⟨hn b hb,Nat.ne_of_lt (f3 b hb).2,λ z=>?_,.inl hb,λ x c e=>z4 x c (S.sub x c e),λ p hp=>z5 p (by simpa using hp)⟩;rcases List.mem_cons.mp (I3.stkSub _ z) with z | z
  ·exact z1 z
  ·exact z2 z
 have loop:∀ s₃:Shared,Inv X' [] (ul0 js σ) (upd H2 p0 (.lst [])) s₃->tn 0 s₃.heap ->
     codeAny [10] X.A (.compLoop [14] 0 (.ref it) (.ref p0) (compEnvC scope cl sD.heap.objs.size X.env)) (compPost [10] X.A X.xe use Q' (.ref p0) sD.heap.objs.size) s₃:=by
  intro s₃ I₃ st₃;refine codeAny_loop rfl (λ n s'=>∃ i σ' H',Inv X' [] σ' H' s' /\ tn i s'.heap /\ (∀ b ∈ fp,H' b=none) /\ W i n σ' H') (λ n s' hI=>?_) m0 ⟨0,ul0 js σ,_,I₃,st₃,λ b hb=>(f3 b hb).1.1,w0⟩;obtain ⟨i,σ3,H3,J3,st3,fr3,w3⟩:=hI;have tr:=turn i n σ3 H3 w3;show wpAny _ X.A ((compTurn [14] 0 (.ref it) (.ref p0) (compEnvC scope cl sD.heap.objs.size X.env)).onRaise (λ x=>do noteFrame x (compEnvC scope cl sD.heap.objs.size X.env); theTreesLotGoes x)) _ _ s';refine wpAny_noted ?_;rw [compTurn_list,<- a1,<- a2,<- a3,<- a4];have nof:∀ {α:Type} {t:Sem α} {Q':α->Shared->Prop} {s'':[39]} {E:[4]},wpAny (model X'.prog X'.w) X'.A t Q' X'.xe s''->wpAny (model X'.prog X'.w) X'.A t Q' E s'':=λ h=>wpAny_mono h (λ _ _ q=>q) λ _ _ z=>by rw [a7] at z; exact z.elim
  rcases tr with ⟨stop,qn⟩ | ⟨go,step⟩
  ·refine wpAny_bind (wpAny_standAt (wpAny_bind (nof (thn (T'.done X' rfl rfl rfl a6 i [] s' σ3 H3 X'.xe J3 (fp4 fr3) st3 stop) λ r s4 ⟨hr,J4⟩=>?_))));subst hr;refine wpAny_pure ?_;show compPost (model X'.prog X'.w) X'.A X.xe use Q' (.ref p0) sD.heap.objs.size (.ok .next) s4;rw [a2,a3,a4];exact fin J4 qn
  ·refine wpAny_bind (wpAny_standAt (wpAny_bind (nof (thn (T'.item X' rfl rfl rfl a6 i [] s' σ3 H3 X'.xe J3 (fp4 fr3) st3 go) λ r s4 ⟨u,hr,h4⟩=>?_))));subst hr;refine wpAny_bind (nof (thn h4 λ _ s5 ⟨x,H5,I5,r5,y5,st5,fr5⟩=>?_));have I5':=I5.pinned (fp4 fr5) (T.obj _ _ st5);refine wpAny_bind (nof (thn (hg' _ s5 σ3 H5 x u _ I5' r5 (step x H5 y5)) λ _ s6 ⟨σ6,H6,I6,q6⟩=>?_));refine wpAny_bind (nof (thn (ht' _ s6 σ6 H6 _ I6 q6) λ ok s7 ⟨H7,I7,q7⟩=>?_))
   have again:∀ {s8:[39]} {σ8:L2.St} {H8:Hp},Inv X' ([] ++ tr0 fp s5.heap) σ8 H8 s8->(∃ m',m' < n /\ W (i + 1) m' σ8 H8)->∃ m,m < n /\ ∃ i σ' H',Inv X' [] σ' H' s8 /\ tn i s8.heap /\ (∀ b ∈ fp,H' b=none) /\ W i m σ' H':=λ {s8 σ8 H8} I8 ⟨m',hm,w8⟩=>by
    refine ⟨m',hm,i + 1,σ8,H8,I8.unpinned,T.keep _ _ _ st5 λ b hb o e=>(I8.pin (b,o) (mem_append_right _ (mem_append_right _ (zg0 hb e)))).1,λ b hb=>?_,w8⟩;obtain ⟨o,e,d⟩:=T.obj _ _ st5 b hb;exact (I8.pin (b,o) (mem_append_right _ (mem_append_right _ (zg0 hb e)))).2.1
   cases ok with
   | false=>exact wpAny_pure ⟨rfl,again I7 q7⟩
   | true =>
    refine wpAny_bind (wpAny_bind (nof (thn (he' _ s7 σ6 H7 _ I7 q7) λ xv s8 ⟨y,H8,I8,r8,ys,q8,hlen,q9⟩=>wpAny_bind (nof ?_))));refine thn (zp0 (X:=X') _ s8 σ6 H8 (.ref p0) [y] (.ref p0) [xv] (λ v H9=>v=.non /\ H9=upd H8 p0 (.lst (ys ++ [y]))) I8 rfl (.cons r8 .nil) ⟨p0,ys,y,rfl,rfl,q8,hlen,rfl,rfl⟩) λ rv s9 ⟨v9,H9,I9,_,_,e9⟩=>?_;subst e9;exact wpAny_pure (wpAny_pure ⟨rfl,again I9 q9⟩)
 exact codeAny_compStart_list (loop _ I4 st4) (T.self X.A 0 _ _ _ st4 (loop _ I4 st4))
theorem zx2 {i:Nat} {x:Str} {px apos:Pos} {elt target iter:Expr} {ifs:List Expr} {pos:Pos} {wi:TI} {g:TG} {tc:TT} {te:TE} (hN:X.N.Nodup) (hi':X.N[i]?=some x) (hl:X.env.scope.names.lookup x=some .local) (hc:X.calm=true) (S:CompSc X NN scope cl js) (hi:PI X target iter wi)
    (hg:∀ C fp s₀ H₀ pn,PG [13] target g) (ht:∀ C fp s₀ H₀ pn,PTs [13] ifs tc) (he:∀ C fp s₀ H₀ pn,PE [13] elt te)
    (hs:∀ x,foldedSetIterable iter X.env x=pure x) (hw:swapsWith [14] (some (.Name x px)) apos.line X.env=pure true) :
    PS X (.Assign [.Name x px] [14] apos) (tAsg (ut1 js wi g tc te) (sa3 i)):=by
 intro pins s σ H D I h;rw [exec_Assign_Name_used _ _ _ _ hw];refine wpAny_bind (wpAny_standAt (wpAny_bind ?_));show wpAny _ _ (comprehension [14] scope X.env (firstIterPos [⟨target,iter,ifs,0⟩] pos) (newList []) (firstAsync [⟨target,iter,ifs,0⟩]) (firstIter [⟨target,iter,ifs,0⟩] X.env) (some (assign (.Name x px) X.env)) >>= λ _=>pure ()) _ _ s;refine wpAny_bind (wpAny_mono (zc3 (use:=some (assign (.Name x px) X.env)) (Q':=λ _ s'=>SP X pins D .next s') hc S hi hg ht he hs I h λ p0 C H' s' m' I5 hn hC n1 n2 n3 n4 q=>?_) (λ _ s' hq=>wpAny_pure (wpAny_pure hq)) λ _ _ e=>e);show wpAny _ _ (assign (.Name x px) X.env (.ref p0)) _ _ s';refine wpAny_assign_Name (ya1 I5 hN hi' (.inl hl) (v:=.ref p0) rfl (λ s2 I6 ⟨b,sb,hb⟩=>?_) (.inr hl))
 have nb:C ≠ b:=by
  rcases hb with hb | hb
  ·rw [hb]; exact n1
  ·exact Ne.symm (n3 x b hb)
 exact ⟨m',hn.sameBut sb nb,λ h' sb'=>⟨_,H',I6.turned (t':=s2.toks) (λ b o hb e=>sb'.extBut b o hb e) hC n1 (.inr n2) n3 n4,q⟩⟩
end
section
variable {X:Cx} {elt target iter:Expr} {ifs:List Expr} {pos:Pos} {ti:TI3} {g:TG3} {tc:TT3} {te:TE3} {NN:List Str} {scope:Scope} {cl:List (Str × Addr)} {js:List [34]}
theorem yw0 {i:Nat} {x:Str} {px apos:Pos} (hN:X.N.Nodup) (hc:X.calm=true) (S:CompSc X NN scope cl js) (hi:RI X target iter ti) (hg:∀ C fp s₀ H₀ pn,RG [13] target g)
    (ht:∀ C fp s₀ H₀ pn,RTs [13] ifs tc) (he:∀ C fp s₀ H₀ pn,RE [13] elt te)
    (hs:∀ x,foldedSetIterable iter X.env x=pure x) (hi':X.N[i]?=some x:=by rfl) (hl:X.env.scope.names.lookup x=some .local:=by rfl)
    (hw:swapsWith [14] (some (.Name x px)) apos.line X.env=pure true:=by rfl):RS X (.Assign [.Name x px] [14] apos) (set3 i (comp3 js ti g tc te)):=by
 obtain ⟨wi,pi,ri⟩:=hi
 let gU:TG:=λ v σ H Q=>∀ (r:TG3),r=g->∃ d ρ μ Q3,RSt X.K H ρ σ /\ RelM X.K μ H /\ RelD X.K H d v /\ g d ρ μ Q3 /\ (∀ ρ' μ' σ' H',Q3 ρ' μ'->Kp H H'->RSt X.K H' ρ' σ'->RelM X.K μ' H'->Q σ' H')
 let tU:TT:=λ σ H Q=>∃ ρ μ Q3,RSt X.K H ρ σ /\ RelM X.K μ H /\ tc ρ μ Q3 /\ (∀ b μ' H',Q3 b μ'->Kp H H'->RelM X.K μ' H'->Q b H')
 let eU:TE:=λ σ H Q=>∃ ρ μ Q3,RSt X.K H ρ σ /\ RelM X.K μ H /\ te ρ μ Q3 /\ Ks X.K H Q3 Q
 have hg':∀ C fp s₀ H₀ pn,PG [13] target gU:=λ C fp s₀ H₀ pn=>by
  obtain ⟨tv,p,r⟩:=hg C fp s₀ H₀ pn;intro pins s σ H v u Q I rv h;obtain ⟨d,ρ,μ,Q3,a1,a2,a3,a4,a5⟩:=h g rfl;exact p pins s σ H v u Q I rv (r v d σ H Q ρ μ Q3 a1 a2 a3 a4 a5)
 have ht':∀ C fp s₀ H₀ pn,PTs [13] ifs tU:=λ C fp s₀ H₀ pn=>by
  obtain ⟨tv,p,r⟩:=ht C fp s₀ H₀ pn;intro pins s σ H Q I h;obtain ⟨ρ,μ,Q3,a1,a2,a3,a4⟩:=h;exact p pins s σ H Q I (r σ H Q ρ μ Q3 a1 a2 a3 a4)
 have he':∀ C fp s₀ H₀ pn,PE [13] elt eU:=λ C fp s₀ H₀ pn=>by
  obtain ⟨tv,p,r⟩:=he C fp s₀ H₀ pn;intro pins s σ H Q I h;obtain ⟨ρ,μ,Q3,a1,a2,a3,a4⟩:=h;exact p pins s σ H Q I (r σ H Q ρ μ Q3 a1 a2 a3 a4)
 have rd:RdE X.K (ut1 js wi gU tU eU) (comp3 js ti g tc te):=RdE.comp ri (λ v d σ H Q ρ μ Q3 a1 a2 a3 a4 a5 _ _=>⟨d,ρ,μ,Q3,a1,a2,a3,a4,a5⟩) (λ σ H Q ρ μ Q3 a1 a2 a3 a4=>⟨ρ,μ,Q3,a1,a2,a3,a4⟩) (λ σ H Q ρ μ Q3 a1 a2 a3 a4=>⟨ρ,μ,Q3,a1,a2,a3,a4⟩);exact ⟨_,zx2 hN hi' hl hc S pi hg' ht' he' hs hw,λ σ H D ρ μ D3 s m h k=>rd σ H _ ρ μ _ s m h λ d μ1 v H1 h1 k1 r1 m1=>k.nx _ _ _ _ h1 k1 ((s.mono k1).set i r1) m1⟩
theorem zw0 {i:Nat} {x:Str} {px apos:Pos} (hN:X.N.Nodup) (hf:∀ y ∈ scope.names,y.2 ≠ .free) (hcl:∀ y ∈ scope.names,y.2 ≠ .cell) (hn:∀ y ∈ scope.names,y.2=.local->scope.names.lookup y.1=some .local) (hi:RI X target iter ti) (hg:∀ C fp s₀ H₀ pn,RG (yd0 X NN scope [] C fp s₀ H₀ pn) target g)
    (ht:∀ C fp s₀ H₀ pn,RTs (yd0 X NN scope [] C fp s₀ H₀ pn) ifs tc) (he:∀ C fp s₀ H₀ pn,RE (yd0 X NN scope [] C fp s₀ H₀ pn) elt te) (hc:X.calm=true:=by rfl) (hk:scope.kind=.function:=by rfl)
    (hs:∀ x,foldedSetIterable iter X.env x=pure x:=by intro _; rfl) (hi':X.N[i]?=some x:=by rfl) (hl:X.env.scope.names.lookup x=some .local:=by rfl)
    (hw:swapsWith [14] (some (.Name x px)) apos.line X.env=pure true:=by rfl):RS X (.Assign [.Name x px] [14] apos) (set3 i (comp3 (NN.map λ _=>none) ti g tc te)) :=
 yw0 hN hc (CompSc.closed hf hcl hk hn) hi hg ht he hs hi' hl hw
end
theorem tm2 {CX:CXT} {P:Program} {w:World} {K:Fg} {mg:[23]} {base:Heap} {N:List Str} {qual:Str} {sc:Scope} {f:Addr} {cdv:Value} {A:Around} {outer:List Env} {s:[39]} {H:Hp} {E:XK} {NN:List Str} {scope:Scope} {js:List [34]}
    (hcell:∀ y ∈ scope.names,y.2 ≠ .cell:=by decide +kernel) (hk:scope.kind=.function:=by rfl) (hfn:sc.kind=.function:=by rfl)
    (hn:∀ y ∈ scope.names,y.2=.local->scope.names.lookup y.1=some .local:=by decide +kernel) (hfree:∀ y ∈ scope.names,y.2=.free->sc.names.lookup y.1=some .cell:=by decide +kernel)
    (hlook:∀ y ∈ scope.names,y.2=.free->scope.names.lookup y.1=some .free:=by decide +kernel) (len:js.length=NN.length:=by rfl)
    (hout:∀ i ∈ List.range js.length,∀ j ∈ (js.getD i none).toList,∃ x ∈ NN[i]?.toList,N[j]?=some x /\ scope.names.lookup x=some .free:=by decide +kernel) :
    CompSc (cxOf CX P w K mg base N qual sc f cdv A outer s H E) NN scope (tl0 (cxOf CX P w K mg base N qual sc f cdv A outer s H E).env.cells scope.names []) js :=
 CompSc.free (X:=cxOf CX P w K mg base N qual sc f cdv A outer s H E) hcell hk hfn hn hfree hlook (λ x h=>by
  obtain ⟨c,hc⟩:=wn0 (n:=_) h
  exact Option.isSome_iff_exists.mpr ⟨c,hc⟩) len λ i hi j hj=>by
   obtain ⟨x,h1,h2,h3⟩:=hout i hi j (by rw [hj]; simp);exact ⟨x,by simpa using h1,h2,h3⟩
end Pv
namespace Pv
open PySem
abbrev Rise (xs:Array Nat):Prop:=xs.toList.Pairwise (· < ·)
theorem yl0 {xs:Array Nat} (h:Rise xs) {i j a b:Nat} (hi:xs[i]?=some a) (hj:xs[j]?=some b) (l:i < j):a < b:=by
 have h':=List.pairwise_iff_getElem.mp h;rw [<- getElem?_toList] at hi hj;obtain ⟨hi1,hi2⟩:=List.getElem?_eq_some_iff.mp hi;obtain ⟨hj1,hj2⟩:=List.getElem?_eq_some_iff.mp hj;rw [<- hi2,<- hj2];exact h' i j hi1 hj1 l
theorem un0 (xs:Array Nat) (j:Nat) (h:Rise xs):∀ (fuel lo hi:Nat),hi - lo<=fuel->lo<=hi->hi<=xs.size->(∀ i a,i < lo->xs[i]?=some a->a < j)->(∀ i a,hi<=i->xs[i]?=some a->j<=a) ->
    (∀ i a,xs[i]?=some a->(i < SetTable.below.go xs j fuel lo hi ↔ a < j)) /\ SetTable.below.go xs j fuel lo hi<=xs.size
 | 0,lo,hi,f,l1,l2,a1,a2=>by
  have e:lo=hi:=by omega
  subst e;unfold SetTable.below.go;refine ⟨λ i a q=>⟨λ c=>a1 i a c q,λ c=>?_⟩,l2⟩;by_cases z:i < lo
  ·exact z
  ·have:=a2 i a [1] q; omega
 | fuel + 1,lo,hi,f,l1,l2,a1,a2=>by
  unfold SetTable.below.go;split
  ·next c =>
   have m1:(lo + hi) / 2 < hi:=by omega
   have m2:lo<=(lo + hi) / 2:=by omega
   have hm:xs[(lo + hi) / 2]?=some (xs.getD ((lo + hi) / 2) j):=by
    have:(lo + hi) / 2 < xs.size:=by omega
    simp [Array.getD,this]
   dsimp only;split
   ·next c2 =>
    refine un0 xs j h fuel _ _ [1] [1] l2 (λ i a z q=>?_) a2;by_cases y:i=(lo + hi) / 2
    ·subst y; rw [hm] at q; cases q; exact c2
    ·exact Nat.lt_trans (yl0 h q hm [1]) c2
   ·next c2 =>
    refine un0 xs j h fuel _ _ [1] [1] [1] a1 (λ i a z q=>?_);by_cases y:i=(lo + hi) / 2
    ·subst y; rw [hm] at q; cases q; omega
    ·have:=yl0 h hm q [1]; omega
  ·next c =>
   have e:lo=hi:=by omega
   subst e;refine ⟨λ i a q=>⟨λ c=>a1 i a c q,λ c=>?_⟩,l2⟩;by_cases z:i < lo
   ·exact z
   ·have:=a2 i a [1] q; omega
theorem xj0 {xs:Array Nat} (h:Rise xs) (j:Nat) {i a:Nat} (q:xs[i]?=some a):i < SetTable.below xs j ↔ a < j :=
 (un0 xs j h xs.size 0 xs.size [1] [1] [26] (λ _ _ z=>absurd z (Nat.not_lt_zero _)) (λ i a z q=>by rw [getElem?_eq_none z] at q; cases q)).1 i a q
theorem sk0 {xs:Array Nat} (h:Rise xs) (j:Nat):SetTable.below xs j<=xs.size :=
 (un0 xs j h xs.size 0 xs.size [1] [1] [26] (λ _ _ z=>absurd z (Nat.not_lt_zero _)) (λ i a z q=>by rw [getElem?_eq_none z] at q; cases q)).2
theorem xl0 {xs:Array Nat} (h:Rise xs) {i j:Nat} (q:xs[i]?=some j):SetTable.below xs j=i:=by
 have h1:=xj0 h j q;have h2:=sk0 h j;by_cases c:SetTable.below xs j < i
 ·have hi:=(Array.getElem?_eq_some_iff.mp q).1;obtain ⟨a,ha⟩:∃ a,xs[SetTable.below xs j]?=some a:=⟨_,Array.getElem?_eq_getElem [1]⟩;have h3:=xj0 h j ha;have h4:=yl0 h ha q c;omega
 ·omega
theorem xc1 {xs:Array Nat} {j:Nat} (h:j ∈ xs.toList):∃ i:Nat,xs[i]?=some j:=by
 obtain ⟨i,hi⟩:=List.mem_iff_getElem?.mp h;exact ⟨i,by rw [<- getElem?_toList]; exact hi⟩
theorem yt0 {xs:Array Nat} {i j:Nat} (h:xs[i]?=some j):j ∈ xs.toList:=List.mem_iff_getElem?.mpr ⟨i,by rw [getElem?_toList]; exact h⟩
theorem sj0 {xs:Array Nat} (h:Rise xs) (j:Nat):SetTable.has xs j=true ↔ j ∈ xs.toList:=by
 unfold SetTable.has;constructor
 ·intro z; exact yt0 (eq_of_beq z)
 ·intro z;obtain ⟨i,hi⟩:=xc1 z;rw [xl0 h hi,hi];exact beq_self_eq_true _
theorem ta1 {t:SetTable} (h:Rise t.place) {i j:Nat}:t.slot j=.live i ↔ t.place[i]?=some j:=by
 unfold SetTable.slot;dsimp only;constructor
 ·intro z;split at z
  ·next c=>cases z; exact eq_of_beq c
  ·split at z <;> cases z
 ·intro z;rw [xl0 h z,z];simp
theorem wr0 {t:SetTable} (h:Rise t.place) (hd:Rise t.dummies) {j:Nat} (dj:j ∈ t.dummies.toList->j ∉ t.place.toList):t.slot j=.dummy ↔ j ∈ t.dummies.toList:=by
 unfold SetTable.slot;dsimp only;constructor
 ·intro z;split at z
  ·cases z
  ·split at z
   ·next c=>exact (sj0 hd j).mp c
   ·cases z
 ·intro z;rw [if_neg,if_pos ((sj0 hd j).mpr z)];intro c;exact dj z (yt0 (eq_of_beq c))
theorem zr0 {t:SetTable} (h:Rise t.place) (hd:Rise t.dummies) {j:Nat}:t.slot j=.empty ↔ j ∉ t.place.toList /\ j ∉ t.dummies.toList:=by
 unfold SetTable.slot;dsimp only;constructor
 ·intro z;split at z
  ·cases z
  ·next c =>
   split at z
   ·cases z
   ·next c2 =>
    refine ⟨λ m=>c ?_,λ m=>c2 ((sj0 hd j).mpr m)⟩;obtain ⟨i,hi⟩:=xc1 m;rw [xl0 h hi,hi];exact beq_self_eq_true _
 ·rintro ⟨z1,z2⟩;rw [if_neg (λ c=>z1 (yt0 (eq_of_beq c))),if_neg (λ c=>z2 ((sj0 hd j).mp c))]
def mkT (mask:Nat):SetTable:={ SetTable.fresh 0 0 false with mask:=mask }
def trS (mask:Nat) (h:Int):Nat->SetTable.Probe
 | 0=>(mkT mask).probeStart h
 | n + 1=>(mkT mask).advance (trS mask h n)
abbrev tr (mask:Nat) (h:Int) (n:Nat):Nat:=(trS mask h n).j
theorem se1 (t:SetTable) (p:SetTable.Probe) (d:Option Nat):t.advance { p with dummy:=d }={ t.advance p with dummy:=d }:=by
 unfold SetTable.advance;dsimp only;split <;> rfl
def seg (mask i perturb:Nat):SetTable.Probe:={ j:=i,more:=SetTable.runEnd mask i - i,i:=i,perturb:=perturb,dummy:=none }
theorem run9 (mask i:Nat):SetTable.runEnd mask i - i<=9:=by unfold SetTable.runEnd; split <;> omega
theorem wm3 (mask i:Nat):i<=SetTable.runEnd mask i:=by unfold SetTable.runEnd; split <;> omega
theorem vm3 (mask i:Nat) (h:i<=mask):SetTable.runEnd mask i<=mask:=by unfold SetTable.runEnd; split <;> omega
theorem xw0 {mask:Nat} {h:Int} {n i p:Nat} (e:trS mask h n=seg mask i p):∀ k,k<=SetTable.runEnd mask i - i->trS mask h (n + k)={ seg mask i p with j:=i + k,more:=SetTable.runEnd mask i - i - k }
 | 0,_=>e
 | k + 1,hk=>by
  have ih:=xw0 e k [1];show (mkT mask).advance (trS mask h (n + k))=_;rw [ih];unfold SetTable.advance;dsimp only [seg];rw [if_pos [1]];congr 1
theorem tm0 {mask:Nat} {h:Int} {n i p:Nat} (e:trS mask h n=seg mask i p):trS mask h (n + (SetTable.runEnd mask i - i) + 1)=seg mask (SetTable.leap mask i p).1 (SetTable.leap mask i p).2:=by
 have ih:=xw0 e _ [26];show (mkT mask).advance (trS mask h (n + (SetTable.runEnd mask i - i)))=_;rw [ih];unfold SetTable.advance;dsimp only [seg];rw [if_neg [1]];rfl
def lp (mask:Nat):Nat->Nat × Nat->Nat × Nat
 | 0,x=>x
 | k + 1,x=>lp mask k (SetTable.leap mask x.1 x.2)
theorem zp2 {mask:Nat} {h:Int}:∀ (K:Nat) {n i p:Nat},trS mask h n=seg mask i p->∃ m,n<=m /\ m<=n + 10 * K /\ trS mask h m=seg mask (lp mask K (i,p)).1 (lp mask K (i,p)).2
 | 0,n,i,p,e=>⟨n,Nat.le_refl _,Nat.le_refl _,e⟩
 | K + 1,n,i,p,e=>by
  obtain ⟨m,h1,h2,h3⟩:=zp2 K (tm0 e);have:=run9 mask i;exact ⟨m,by omega,by omega,h3⟩
theorem vq2 (mask:Nat):∀ (a b:Nat) (x:Nat × Nat),lp mask (a + b) x=lp mask b (lp mask a x)
 | 0,b,x=>by rw [Nat.zero_add]; rfl
 | a + 1,b,x=>by rw [show a + 1 + b=(a + b) + 1 by omega]; exact vq2 mask a b _
theorem wq2 (mask:Nat):∀ (k:Nat) (x:Nat × Nat),x.2 < 32 ^ k->(lp mask k x).2=0
 | 0,x,h=>by simp at h; exact h
 | k + 1,x,h=>wq2 mask k _ (by show x.2 / 32 < 32 ^ k; rw [Nat.pow_succ] at h; omega)
def f0 (mask i:Nat):Nat:=(i * 5 + 1) % (mask + 1)
def fN (mask:Nat):Nat->Nat->Nat
 | 0,i=>i
 | k + 1,i=>fN mask k (f0 mask i)
theorem zz1 (mask:Nat):∀ (k i:Nat),lp mask k (i,0)=(fN mask k i,0)
 | 0,i=>rfl
 | k + 1,i=>by
  show lp mask k (SetTable.leap mask i 0)=_;have:SetTable.leap mask i 0=(f0 mask i,0):=by unfold SetTable.leap f0; simp
  rw [this,zz1 mask k];rfl
theorem vd1 (mask:Nat):∀ (a b i:Nat),fN mask (a + b) i=fN mask b (fN mask a i)
 | 0,b,i=>by rw [Nat.zero_add]; rfl
 | a + 1,b,i=>by rw [show a + 1 + b=(a + b) + 1 by omega]; exact vd1 mask a b _
def okM:List Nat:=[7,15,31,63,127,255,511,1023,2047,4095]
def gs:Nat->Nat
 | 0=>0
 | r + 1=>5 * gs r + 1
theorem sa2:∀ r,5 ^ r=4 * gs r + 1
 | 0=>rfl
 | r + 1=>by rw [Nat.pow_succ,sa2 r]; show _=4 * (5 * gs r + 1) + 1; omega
theorem xb2:∀ a b,gs (a + b)=gs a * 5 ^ b + gs b
 | a,0=>by simp [gs]
 | a,b + 1=>by
  show 5 * gs (a + b) + 1=_;rw [xb2 a b,Nat.pow_succ];show _=gs a * (5 ^ b * 5) + (5 * gs b + 1);rw [Nat.mul_add,<- Nat.mul_assoc,Nat.mul_comm 5 (gs a),Nat.mul_assoc (gs a) 5,Nat.mul_comm 5 (5 ^ b)];omega
theorem ta2:∀ k,∃ o,gs (2 ^ k)=2 ^ k * (2 * o + 1)
 | 0=>⟨0,rfl⟩
 | k + 1=>by
  obtain ⟨o,e⟩:=ta2 k;refine ⟨o + (2 * o + 1) * gs (2 ^ k),?_⟩
  have h:gs (2 ^ (k + 1))=gs (2 ^ k) * (4 * gs (2 ^ k) + 2):=by
   rw [show 2 ^ (k + 1)=2 ^ k + 2 ^ k by rw [Nat.pow_succ]; omega,xb2,sa2]
   grind
  rw [h,Nat.pow_succ,e];generalize 2 ^ k=P
  grind
theorem uz2 {x e P:Nat} (hP:0 < P) (h:x % P=e % P):x % (P * 2)=e % (P * 2) \/ (x + P) % (P * 2)=e % (P * 2):=by
 rw [Nat.mod_mul,Nat.mod_mul,Nat.mod_mul,h,Nat.add_mod_right,h,Nat.add_div_right _ hP];rcases Nat.mod_two_eq_zero_or_one (x / P) with a | a <;> rcases Nat.mod_two_eq_zero_or_one (e / P) with b | b
 ·left; rw [a,b]
 ·right; rw [b,show (x / P + 1) % 2=1 by omega]
 ·right; rw [b,show (x / P + 1) % 2=0 by omega]
 ·left; rw [a,b]
theorem ym1:∀ k e,∃ r,r < 2 ^ k /\ gs r % 2 ^ k=e % 2 ^ k
 | 0,e=>⟨0,by decide,by simp [Nat.mod_one]⟩
 | k + 1,e=>by
  obtain ⟨r,hr,h⟩:=ym1 k e;have hP:0 < 2 ^ k:=Nat.two_pow_pos k;rw [Nat.pow_succ];rcases uz2 hP h with q | q
  ·exact ⟨r,by omega,q⟩
  ·refine ⟨2 ^ k + r,by omega,?_⟩;obtain ⟨o,eo⟩:=ta2 k;rw [xb2,sa2,eo,<- q];generalize 2 ^ k=P at *;have:P * (2 * o + 1) * (4 * gs r + 1) + gs r=(gs r + P) + P * 2 * (o + (2 * o + 1) * (2 * gs r)):=by grind
   rw [this,Nat.add_mul_mod_self_left]
theorem zb3 (mask:Nat):∀ r,fN mask r 0=gs r % (mask + 1)
 | 0=>by show 0=0 % (mask + 1); rw [Nat.zero_mod]
 | r + 1=>by
  rw [vd1 mask r 1 0,zb3 mask r];show f0 mask (gs r % (mask + 1))=(5 * gs r + 1) % (mask + 1);unfold f0;rw [Nat.add_mod (gs r % (mask + 1) * 5),Nat.mul_mod,Nat.mod_mod,<- Nat.mul_mod,<- Nat.add_mod,Nat.mul_comm]
theorem zz2:∀ m ∈ okM,∃ k,m + 1=2 ^ k:=by
 intro m hm;simp only [okM,mem_cons,not_mem_nil,or_false] at hm;rcases hm with rfl | rfl | rfl | rfl | rfl | rfl | rfl | rfl | rfl | rfl
 ·exact ⟨3,rfl⟩
 ·exact ⟨4,rfl⟩
 ·exact ⟨5,rfl⟩
 ·exact ⟨6,rfl⟩
 ·exact ⟨7,rfl⟩
 ·exact ⟨8,rfl⟩
 ·exact ⟨9,rfl⟩
 ·exact ⟨10,rfl⟩
 ·exact ⟨11,rfl⟩
 ·exact ⟨12,rfl⟩
theorem va4 {mask:Nat} (hm:mask ∈ okM) {i e:Nat} (hi:i<=mask) (he:e<=mask):∃ r,r<=mask /\ fN mask r i=e:=by
 obtain ⟨k,hk⟩:=zz2 mask hm
 have h2:fN mask (mask + 1) 0=0:=by
  obtain ⟨o,eo⟩:=ta2 k;rw [zb3,hk,eo,Nat.mul_mod_right]
 have g:∀ x,x<=mask->∃ r,r<=mask /\ fN mask r 0=x:=λ x hx=>by
  obtain ⟨r,hr,h⟩:=ym1 k x;refine ⟨r,by omega,?_⟩;rw [zb3,hk,h,Nat.mod_eq_of_lt [1]]
 obtain ⟨a,ha,ea⟩:=g i hi;obtain ⟨b,hb,eb⟩:=g e he;by_cases c:a<=b
 ·refine ⟨b - a,by omega,?_⟩;have:=vd1 mask a (b - a) 0;rw [show a + (b - a)=b by omega,eb,ea] at this;exact this.symm
 ·refine ⟨mask + 1 - a + b,by omega,?_⟩;have h3:=vd1 mask a (mask + 1 - a) 0;rw [show a + (mask + 1 - a)=mask + 1 by omega,h2,ea] at h3;rw [vd1,<- h3,eb]
theorem ux3 {mask:Nat}:∀ (k:Nat) (x:Nat × Nat),x.1<=mask->(lp mask k x).1<=mask
 | 0,x,h=>h
 | k + 1,x,_=>ux3 k _ (by show (x.1 * 5 + 1 + x.2 / 32) % (mask + 1)<=mask; have:=Nat.mod_lt (x.1 * 5 + 1 + x.2 / 32) (show mask + 1 > 0 by omega); omega)
theorem yl1 {mask:Nat} (hm:mask ∈ okM) {i p e:Nat} (hi:i<=mask) (hp:p < 2 ^ 64) (he:e<=mask):∃ K,K<=13 + mask /\ (lp mask K (i,p)).1=e:=by
 have h1:=wq2 mask 13 (i,p) (Nat.lt_of_lt_of_le hp [9]);have h2:=ux3 13 (i,p) hi;obtain ⟨r,hr,er⟩:=va4 hm h2 he;refine ⟨13 + r,by omega,?_⟩;rw [vq2,show lp mask 13 (i,p)=((lp mask 13 (i,p)).1,0) from Prod.ext rfl h1,zz1,er]
theorem ve2 (h:Int):SetTable.bits h < 2 ^ 64:=by
 unfold SetTable.bits;have:=Int.emod_lt_of_pos h (show (0:Int) < 2 ^ 64 by decide);have:=Int.emod_nonneg h (show (2 ^ 64:Int) ≠ 0 by decide);omega
theorem za1 (mask:Nat) (h:Int):trS mask h 0=seg mask (SetTable.bits h % (mask + 1)) (SetTable.bits h):=rfl
theorem yg3 {mask:Nat} (h:Int) (n:Nat):∃ n0 i p k,n=n0 + k /\ trS mask h n0=seg mask i p /\ i<=mask /\ p < 2 ^ 64 /\ k<=SetTable.runEnd mask i - i:=by
 induction n with
 | zero=>exact ⟨0,_,_,0,rfl,za1 mask h,by have:=Nat.mod_lt (SetTable.bits h) (show mask + 1 > 0 by omega); omega,ve2 h,Nat.zero_le _⟩
 | succ n ih =>
  obtain ⟨n0,i,p,k,e1,e2,e3,e4,e5⟩:=ih;by_cases c:k + 1<=SetTable.runEnd mask i - i
  ·exact ⟨n0,i,p,k + 1,by omega,e2,e3,e4,c⟩
  ·refine ⟨n0 + (SetTable.runEnd mask i - i) + 1,_,_,0,by omega,tm0 e2,?_,?_,Nat.zero_le _⟩
   ·show (i * 5 + 1 + p / 32) % (mask + 1)<=mask; have:=Nat.mod_lt (i * 5 + 1 + p / 32) (show mask + 1 > 0 by omega); omega
   ·show p / 32 < 2 ^ 64; omega
theorem zt2 {mask:Nat} (h:Int) (n:Nat):tr mask h n<=mask:=by
 obtain ⟨n0,i,p,k,e1,e2,e3,e4,e5⟩:=yg3 (mask:=mask) h n;subst e1;show (trS mask h (n0 + k)).j<=mask;rw [xw0 e2 k e5];show i + k<=mask;have:=vm3 mask i e3;omega
theorem vi1 {mask:Nat} (hm:mask ∈ okM) (h:Int) (n:Nat) {e:Nat} (he:e<=mask):∃ m,n<=m /\ m < n + 10 * SetTable.turns mask /\ tr mask h m=e:=by
 obtain ⟨n0,i,p,k,e1,e2,e3,e4,e5⟩:=yg3 (mask:=mask) h n;have e6:=tm0 e2;have l1:(SetTable.leap mask i p).1<=mask:=by show (i * 5 + 1 + p / 32) % (mask + 1)<=mask; have:=Nat.mod_lt (i * 5 + 1 + p / 32) (show mask + 1 > 0 by omega); omega
 obtain ⟨K,hK,eK⟩:=yl1 hm l1 (show (SetTable.leap mask i p).2 < 2 ^ 64 by show p / 32 < 2 ^ 64; omega) he;obtain ⟨m,h1,h2,h3⟩:=zp2 K e6;have:=run9 mask i;refine ⟨m,by omega,by unfold SetTable.turns; omega,?_⟩;show (trS mask h m).j=e;rw [h3];exact eK
def Occ (t:SetTable) (j:Nat):Prop:=j ∈ t.place.toList \/ j ∈ t.dummies.toList
structure TOk (t:SetTable) (hs:List Int):Prop where
 ris:Rise t.place
 rid:Rise t.dummies
 dj:∀ j,j ∈ t.dummies.toList->j ∉ t.place.toList
 inP:∀ j,j ∈ t.place.toList->j<=t.mask
 inD:∀ j,j ∈ t.dummies.toList->j<=t.mask
 msk:t.mask ∈ okM
 sz:t.place.size=hs.length
 reach:∀ (i j:Nat) (h:Int),t.place[i]?=some j->hs[i]?=some h->∃ m,tr t.mask h m=j /\ ∀ l,l < m->Occ t (tr t.mask h l)
theorem TOk.occ {t:SetTable} {hs:List Int} (k:TOk t hs) (j:Nat):Occ t j ↔ t.slot j ≠ .empty:=by
 rw [Ne,zr0 k.ris k.rid];unfold Occ;constructor
 ·rintro (z | z) ⟨a,b⟩
  ·exact a z
  ·exact b z
 ·intro z;by_cases c:j ∈ t.place.toList
  ·exact .inl c
  ·by_cases d:j ∈ t.dummies.toList
   ·exact .inr d
   ·exact absurd ⟨c,d⟩ z
theorem tp2:∀ (M:Nat) (L:List Nat),(∀ e,e < M->e ∈ L)->M<=L.length
 | 0,_,_=>Nat.zero_le _
 | M + 1,L,h=>by
  have h1:=h M (Nat.lt_succ_self _);have h2:=tp2 M (L.erase M) λ e he=>(List.mem_erase_of_ne (Nat.ne_of_lt he)).mpr (h e (Nat.lt_succ_of_lt he));rw [List.length_erase_of_mem h1] at h2;have:=List.length_pos_of_mem h1;omega
theorem TOk.hole {t:SetTable} {hs:List Int} (k:TOk t hs) (r:t.fill<=t.mask):∃ e,e<=t.mask /\ t.slot e=.empty:=by
 refine Classical.byContradiction λ c=>?_
 have:=tp2 (t.mask + 1) (t.place.toList ++ t.dummies.toList) λ e he=>by
  have h1:Occ t e:=(k.occ e).mpr λ z=>c ⟨e,by omega,z⟩;exact List.mem_append.mpr h1
 rw [length_append] at this;simp only [length_toList] at this;unfold SetTable.fill at r;omega
def Sk (t:SetTable) (hashAt:Nat->Int) (h:Int) (n m:Nat):Prop:=∀ l,n<=l->l < m->t.slot (tr t.mask h l) ≠ .empty /\ ∀ i,t.slot (tr t.mask h l)=.live i->hashAt i ≠ h
def DumOk (t:SetTable) (h:Int) (d:Option Nat) (n:Nat):Prop:=∀ x,d=some x->∃ l,l < n /\ tr t.mask h l=x /\ t.slot x=.dummy
theorem DumOk.up {t:SetTable} {h:Int} {d:Option Nat} {n m:Nat} (k:DumOk t h d n) (l:n<=m):DumOk t h d m:=λ x e=>by
 obtain ⟨a,b,c⟩:=k x e;exact ⟨a,by omega,c⟩
theorem Sk.cons {t:SetTable} {hashAt:Nat->Int} {h:Int} {n m:Nat} (a:t.slot (tr t.mask h n) ≠ .empty) (b:∀ i,t.slot (tr t.mask h n)=.live i->hashAt i ≠ h) (k:Sk t hashAt h (n + 1) m):Sk t hashAt h n m:=λ l h1 h2=>by
 by_cases c:l=n
 ·subst c; exact ⟨a,b⟩
 ·exact k l [1] h2
theorem zh1 (t:SetTable) (hashAt:Nat->Int) (h:Int):∀ (fuel n:Nat) (d:Option Nat),DumOk t h d n->(∃ m,n<=m /\ m < n + fuel /\ t.slot (tr t.mask h m)=.empty) ->
    (∃ m d',SetTable.probe.go t hashAt h fuel { trS t.mask h n with dummy:=d }=some (.empty (tr t.mask h m) d') /\ n<=m /\ t.slot (tr t.mask h m)=.empty /\ Sk t hashAt h n m /\ DumOk t h d' m) ∨
    (∃ m i d',SetTable.probe.go t hashAt h fuel { trS t.mask h n with dummy:=d }=some (.candidate (tr t.mask h m) i { trS t.mask h (m + 1) with dummy:=d' }) /\ n<=m /\ t.slot (tr t.mask h m)=.live i /\ hashAt i=h /\ Sk t hashAt h n m /\ DumOk t h d' m)
 | 0,n,d,k,c=>by obtain ⟨m,a,b,_⟩:=c; omega
 | fuel + 1,n,d,k,c=>by
  have nx:t.slot (tr t.mask h n) ≠ .empty->∃ m,n + 1<=m /\ m < n + 1 + fuel /\ t.slot (tr t.mask h m)=.empty:=λ z=>by
   obtain ⟨m,a,b,e⟩:=c;refine ⟨m,?_,by omega,e⟩;by_cases y:m=n
   ·subst y; exact absurd e z
   ·omega
  unfold SetTable.probe.go;dsimp only;cases hs:t.slot (tr t.mask h n) with
  | empty=>exact .inl ⟨n,d,rfl,Nat.le_refl _,hs,λ l a b=>by omega,k⟩
  | dummy =>
   dsimp only;have e1:t.advance { trS t.mask h n with dummy:=some (tr t.mask h n) }={ trS t.mask h (n + 1) with dummy:=some (tr t.mask h n) }:=se1 t (trS t.mask h n) _;rw [e1];have k':DumOk t h (some (tr t.mask h n)) (n + 1):=λ x e=>by cases e; exact ⟨n,Nat.lt_succ_self _,rfl,hs⟩
   have e2:t.slot (tr t.mask h n) ≠ .empty:=by rw [hs]; intro z; cases z
   have e3:∀ i,t.slot (tr t.mask h n)=.live i->hashAt i ≠ h:=λ i z=>by rw [hs] at z; cases z
   rcases zh1 t hashAt h fuel (n + 1) _ k' (nx e2) with ⟨m,d',a1,a2,a3,a4,a5⟩ | ⟨m,i,d',a1,a2,a3,a4,a5,a6⟩
   ·exact .inl ⟨m,d',a1,by omega,a3,a4.cons e2 e3,a5⟩
   ·exact .inr ⟨m,i,d',a1,by omega,a3,a4,a5.cons e2 e3,a6⟩
  | live i =>
   dsimp only;have e1:t.advance { trS t.mask h n with dummy:=d }={ trS t.mask h (n + 1) with dummy:=d }:=se1 t (trS t.mask h n) _;rw [e1];have e2:t.slot (tr t.mask h n) ≠ .empty:=by rw [hs]; intro z; cases z
   by_cases c2:hashAt i=h
   ·rw [if_pos (by simpa using c2)];exact .inr ⟨n,i,d,rfl,Nat.le_refl _,hs,c2,λ l a b=>by omega,k⟩
   ·rw [if_neg (by simpa using c2)];have e3:∀ i,t.slot (tr t.mask h n)=.live i->hashAt i ≠ h:=λ i' z=>by rw [hs] at z; cases z; exact c2
    rcases zh1 t hashAt h fuel (n + 1) _ (k.up (Nat.le_succ _)) (nx e2) with ⟨m,d',a1,a2,a3,a4,a5⟩ | ⟨m,i,d',a1,a2,a3,a4,a5,a6⟩
    ·exact .inl ⟨m,d',a1,by omega,a3,a4.cons e2 e3,a5⟩
    ·exact .inr ⟨m,i,d',a1,by omega,a3,a4,a5.cons e2 e3,a6⟩
theorem TOk.probe {t:SetTable} {hs:List Int} (k:TOk t hs) (r:t.fill<=t.mask) (hashAt:Nat->Int) (h:Int) (n:Nat) (d:Option Nat) (kd:DumOk t h d n) :
    (∃ m d',t.probe hashAt h { trS t.mask h n with dummy:=d }=some (.empty (tr t.mask h m) d') /\ n<=m /\ t.slot (tr t.mask h m)=.empty /\ Sk t hashAt h n m /\ DumOk t h d' m) ∨
    (∃ m i d',t.probe hashAt h { trS t.mask h n with dummy:=d }=some (.candidate (tr t.mask h m) i { trS t.mask h (m + 1) with dummy:=d' }) /\ n<=m /\ t.slot (tr t.mask h m)=.live i /\ hashAt i=h /\ Sk t hashAt h n m /\ DumOk t h d' m):=by
 obtain ⟨e,he,ee⟩:=k.hole r;obtain ⟨m,h1,h2,h3⟩:=vi1 k.msk h n he;exact zh1 t hashAt h _ n d kd ⟨m,h1,h2,by rw [h3]; exact ee⟩
theorem zs0 {α:Type} {xs:List α} {p:Nat} {x:α} {i:Nat} (hp:p<=xs.length) (h:i < p):(xs.take p ++ x :: xs.drop p)[i]?=xs[i]?:=by
 rw [getElem?_append_left (by rw [length_take]; omega),getElem?_take_of_lt h]
theorem ts0 {α:Type} {xs:List α} {p:Nat} {x:α} (hp:p<=xs.length):(xs.take p ++ x :: xs.drop p)[p]?=some x:=by
 rw [getElem?_append_right (by rw [length_take]; omega),length_take,show p - min p xs.length=0 by omega];rfl
theorem us0 {α:Type} {xs:List α} {p:Nat} {x:α} {i:Nat} (hp:p<=xs.length) (h:p<=i):(xs.take p ++ x :: xs.drop p)[i + 1]?=xs[i]?:=by
 rw [getElem?_append_right (by rw [length_take]; omega),length_take,show i + 1 - min p xs.length=(i - p) + 1 by omega,getElem?_cons_succ,getElem?_drop];congr 1;omega
def insL {α:Type} (xs:List α) (p:Nat) (x:α):List α:=xs.take p ++ x :: xs.drop p
theorem zn0 {α:Type} (xs:List α) (p:Nat) (x y:α):y ∈ insL xs p x ↔ y=x \/ y ∈ xs:=by
 have e:xs=xs.take p ++ xs.drop p:=(take_append_drop p xs).symm;unfold insL;rw [mem_append,mem_cons];constructor
 ·rintro (z | z | z)
  ·exact .inr (mem_of_mem_take z)
  ·exact .inl z
  ·exact .inr (mem_of_mem_drop z)
 ·rintro (z | z)
  ·exact .inr (.inl z)
  ·rw [e] at z;rcases List.mem_append.mp z with z | z
   ·exact .inl z
   ·exact .inr (.inr z)
theorem yi0 {α:Type} (xs:List α) (p:Nat) (x:α):(insL xs p x).length=xs.length + 1:=by
 unfold insL;rw [length_append,length_cons,length_take,length_drop];omega
theorem ul1 {α β:Type} (f:α->β) (xs:List α) (p:Nat) (x:α):(insL xs p x).map f=insL (xs.map f) p (f x):=by
 unfold insL;rw [map_append,map_cons,List.map_take,List.map_drop]
theorem th2 {xs:Array Nat} (h:Rise xs) {j:Nat} (hn:j ∉ xs.toList):(insL xs.toList (SetTable.below xs j) j).Pairwise (· < ·):=by
 have b:∀ {i a:Nat},xs[i]?=some a->(i < SetTable.below xs j ↔ a < j):=λ q=>xj0 h j q;have hb:=sk0 h j;have e:xs.toList=xs.toList.take (SetTable.below xs j) ++ xs.toList.drop (SetTable.below xs j):=(take_append_drop _ _).symm;have h':=h;unfold Rise at h';rw [e] at h';obtain ⟨h1,h2,h3⟩:=List.pairwise_append.mp h';unfold insL;refine List.pairwise_append.mpr ⟨h1,List.pairwise_cons.mpr ⟨λ x hx=>?_,h2⟩,λ x hx y hy=>?_⟩
 ·obtain ⟨i,hi⟩:=List.mem_iff_getElem?.mp hx;rw [getElem?_drop,getElem?_toList] at hi;have:=b hi;have ne:x ≠ j:=λ z=>hn (by subst z; exact yt0 hi);omega
 ·have hxl:x < j:=by
    obtain ⟨i,hi⟩:=List.mem_iff_getElem?.mp hx
    have hlt:i < SetTable.below xs j:=by
     have:=(List.getElem?_eq_some_iff.mp hi).1;rw [length_take] at this;omega
    rw [getElem?_take_of_lt hlt,getElem?_toList] at hi;exact (b hi).mp hlt
  rcases List.mem_cons.mp hy with rfl | hy
  ·exact hxl
  ·exact h3 x hx y hy
theorem tb3 {xs:Array Nat} (h:Rise xs) {p j:Nat} (hp:xs[p]?=some j) (x:Nat):x ∈ (SetTable.eraseAt xs p).toList ↔ x ∈ xs.toList /\ x ≠ j:=by
 have hpl:=(Array.getElem?_eq_some_iff.mp hp).1
 have e:(SetTable.eraseAt xs p).toList=xs.toList.take p ++ xs.toList.drop (p + 1):=by
  simp [SetTable.eraseAt,List.extract_eq_take_drop,take_of_length_le]
 rw [e,mem_append];constructor
 ·rintro (z | z)
  ·obtain ⟨i,hi⟩:=List.mem_iff_getElem?.mp z
   have hlt:i < p:=by
    have:=(List.getElem?_eq_some_iff.mp hi).1;rw [length_take] at this;omega
   rw [getElem?_take_of_lt hlt,getElem?_toList] at hi;exact ⟨yt0 hi,Nat.ne_of_lt (yl0 h hi hp hlt)⟩
  ·obtain ⟨i,hi⟩:=List.mem_iff_getElem?.mp z;rw [getElem?_drop,getElem?_toList] at hi;exact ⟨yt0 hi,Nat.ne_of_gt (yl0 h hp hi [1])⟩
 ·rintro ⟨z,ne⟩;obtain ⟨i,hi⟩:=xc1 z;have hil:=(Array.getElem?_eq_some_iff.mp hi).1;by_cases c:i < p
  ·exact .inl (List.mem_iff_getElem?.mpr ⟨i,by rw [getElem?_take_of_lt c,getElem?_toList]; exact hi⟩)
  ·have:i ≠ p:=λ y=>by subst y; rw [hp] at hi; cases hi; exact ne rfl
   exact .inr (List.mem_iff_getElem?.mpr ⟨i - (p + 1),by rw [getElem?_drop,show p + 1 + (i - (p + 1))=i by omega,getElem?_toList]; exact hi⟩)
theorem vy0 (xs:Array Nat) (p:Nat):(SetTable.eraseAt xs p).toList=xs.toList.take p ++ xs.toList.drop (p + 1):=by
 simp [SetTable.eraseAt,List.extract_eq_take_drop,take_of_length_le]
theorem sh2 {xs:Array Nat} (h:Rise xs) (p:Nat):Rise (SetTable.eraseAt xs p):=by
 unfold Rise;rw [vy0];have e:xs.toList=xs.toList.take p ++ xs.toList.drop p:=(take_append_drop p xs.toList).symm;refine List.Pairwise.sublist ?_ h
 conv=>rhs; rw [e]
 refine List.Sublist.append (List.Sublist.refl _) ?_;rw [<- List.drop_drop];exact drop_sublist _ _
theorem uj0 {t:SetTable} (k:Rise t.dummies) (j x:Nat):x ∈ (t.put j).1.dummies.toList ↔ x ∈ t.dummies.toList /\ x ≠ j:=by
 show x ∈ (if SetTable.has t.dummies j then SetTable.eraseAt t.dummies (SetTable.below t.dummies j) else t.dummies).toList ↔ _;by_cases c:SetTable.has t.dummies j=true
 ·rw [if_pos c];obtain ⟨i,hi⟩:=xc1 ((sj0 k j).mp c);rw [xl0 k hi];exact tb3 k hi x
 ·rw [if_neg c];exact ⟨λ z=>⟨z,λ y=>by subst y; exact c ((sj0 k x).mpr z)⟩,λ z=>z.1⟩
theorem vf0 (t:SetTable) (j:Nat):(t.put j).1.place.toList=insL t.place.toList (SetTable.below t.place j) j:=SetTable.toList_insertAt _ _ _
theorem TOk.put {t:SetTable} {hs:List Int} (k:TOk t hs) {x:Nat} {h:Int} (hx:x ∉ t.place.toList) (hr:∃ m,tr t.mask h m=x /\ ∀ l,l < m->Occ t (tr t.mask h l)) :
    TOk (t.put x).1 (insL hs (SetTable.below t.place x) h):=by
 have hb:=sk0 k.ris x;have sz:=k.sz
 have oc:∀ j,Occ t j->Occ (t.put x).1 j:=λ j o=>by
  unfold Occ;rw [vf0,zn0,uj0 k.rid];by_cases c:j=x
  ·exact .inl (.inl c)
  ·exact o.elim (λ z=>.inl (.inr z)) λ z=>.inr ⟨z,c⟩
 have hxm:x<=t.mask:=by obtain ⟨m,e,_⟩:=hr; rw [<- e]; exact zt2 h m
 refine ⟨?_,?_,λ j a b=>?_,λ j a=>?_,λ j a=>?_,k.msk,?_,λ i j h' a b=>?_⟩
 ·unfold Rise; rw [vf0]; exact th2 k.ris hx
 ·show Rise (if SetTable.has t.dummies x then SetTable.eraseAt t.dummies (SetTable.below t.dummies x) else t.dummies);split
  ·exact sh2 k.rid _
  ·exact k.rid
 ·rw [uj0 k.rid] at a;rw [vf0,zn0] at b;rcases b with rfl | b
  ·exact a.2 rfl
  ·exact k.dj j a.1 b
 ·rw [vf0,zn0] at a;rcases a with rfl | a
  ·exact hxm
  ·exact k.inP j a
 ·rw [uj0 k.rid] at a;exact k.inD j a.1
 ·rw [<- length_toList,vf0,yi0,yi0,length_toList,sz]
 ·have lp:SetTable.below t.place x<=t.place.toList.length:=by rw [length_toList]; exact hb
  have lh:SetTable.below t.place x<=hs.length:=by rw [<- sz]; exact hb
  rw [<- getElem?_toList,vf0] at a;show ∃ m,tr t.mask h' m=j /\ ∀ l,l < m->Occ (t.put x).1 (tr t.mask h' l);unfold insL at a b;by_cases c:i < SetTable.below t.place x
  ·rw [zs0 lp c,getElem?_toList] at a;rw [zs0 lh c] at b;obtain ⟨m,e,o⟩:=k.reach i j h' a b;exact ⟨m,e,λ l hl=>oc _ (o l hl)⟩
  ·by_cases c2:i=SetTable.below t.place x
   ·subst c2;rw [ts0 lp] at a;rw [ts0 lh] at b;cases a;cases b;obtain ⟨m,e,o⟩:=hr;exact ⟨m,e,λ l hl=>oc _ (o l hl)⟩
   ·obtain ⟨i',rfl⟩:∃ i',i=i' + 1:=⟨i - 1,by omega⟩;rw [us0 lp [1],getElem?_toList] at a;rw [us0 lh [1]] at b;obtain ⟨m,e,o⟩:=k.reach i' j h' a b;exact ⟨m,e,λ l hl=>oc _ (o l hl)⟩
theorem ui2 {t:SetTable} {hs:List Int} (k:TOk t hs) {x:Nat}:(t.put x).1.fill<=t.fill + 1:=by
 unfold SetTable.fill;have h1:(t.put x).1.place.size=t.place.size + 1:=by rw [<- length_toList,vf0,yi0,length_toList]
 have h2:(t.put x).1.dummies.size<=t.dummies.size:=by
  show (if SetTable.has t.dummies x then SetTable.eraseAt t.dummies (SetTable.below t.dummies x) else t.dummies).size<=_;split
  ·rw [<- length_toList,vy0,length_append,length_take,length_drop,length_toList]; omega
  ·exact Nat.le_refl _
 omega
theorem zq1 {t:SetTable} {hs:List Int} (k:TOk t hs) {x:Nat} (hd:t.slot x=.dummy):(t.put x).1.fill<=t.fill:=by
 unfold SetTable.fill;have h1:(t.put x).1.place.size=t.place.size + 1:=by rw [<- length_toList,vf0,yi0,length_toList]
 have m:=(wr0 k.ris k.rid (k.dj x)).mp hd;obtain ⟨i,hi⟩:=xc1 m;have hil:=(Array.getElem?_eq_some_iff.mp hi).1
 have h2:(t.put x).1.dummies.size + 1<=t.dummies.size:=by
  show (if SetTable.has t.dummies x then SetTable.eraseAt t.dummies (SetTable.below t.dummies x) else t.dummies).size + 1<=_;rw [if_pos ((sj0 k.rid x).mpr m),xl0 k.rid hi,<- length_toList,vy0,length_append,length_take,length_drop,length_toList];omega
 omega
theorem zd1 (mask:Nat) (h:Int) (owner:Array [34]):∀ (fuel n i p:Nat),trS mask h n=seg mask i p->(∃ K,K < fuel /\ owner.getD (lp mask K (i,p)).1 (some 0)=none) ->
    ∃ m,SetTable.layClean.free mask owner fuel i p=some (tr mask h m) /\ n<=m /\ owner.getD (tr mask h m) (some 0)=none /\ ∀ l,n<=l->l < m->owner.getD (tr mask h l) (some 0) ≠ none
 | 0,n,i,p,e,c=>by obtain ⟨K,a,_⟩:=c; omega
 | fuel + 1,n,i,p,e,c=>by
  have trk:∀ k,k<=SetTable.runEnd mask i - i->tr mask h (n + k)=i + k:=λ k hk=>by
   show (trS mask h (n + k)).j=_;rw [xw0 e k hk]
  have rl:=wm3 mask i;unfold SetTable.layClean.free;cases hf:(List.range (SetTable.runEnd mask i + 1 - i)).find? (λ k=>(owner.getD (i + k) (some 0)).isNone) with
  | some k =>
   dsimp only;obtain ⟨h1,h2,h3⟩:=List.find?_range_eq_some.mp hf;have h2':k < SetTable.runEnd mask i + 1 - i:=List.mem_range.mp h2;refine ⟨n + k,by rw [trk k [1]],by omega,by rw [trk k [1]]; simpa using h1,λ l a b=>?_⟩;obtain ⟨l',rfl⟩:∃ l',l=n + l':=⟨l - n,by omega⟩;rw [trk l' [1]];have:=h3 l' [1];intro z;rw [z] at this;simp at this
  | none =>
   dsimp only;have h1:=List.find?_range_eq_none.mp hf
   have h1':∀ k,k<=SetTable.runEnd mask i - i->owner.getD (i + k) (some 0) ≠ none:=λ k hk z=>by
    have:=h1 k [1];rw [z] at this;simp at this
   have c':∃ K,K < fuel /\ owner.getD (lp mask K (SetTable.leap mask i p)).1 (some 0)=none:=by
    obtain ⟨K,a,b⟩:=c;cases K with
    | zero=>exact absurd b (h1' 0 (Nat.zero_le _))
    | succ K=>exact ⟨K,by omega,b⟩
   obtain ⟨m,a1,a2,a3,a4⟩:=zd1 mask h owner fuel _ _ _ (tm0 e) c';refine ⟨m,a1,by omega,a3,λ l b1 b2=>?_⟩;by_cases z:l<=n + (SetTable.runEnd mask i - i)
   ·obtain ⟨l',rfl⟩:∃ l',l=n + l':=⟨l - n,by omega⟩;rw [trk l' [1]];exact h1' l' [1]
   ·exact a4 l [1] b2
theorem ur2 {α β:Type} {f:α->Option β}:∀ {L:List α},(∀ j ∈ L,f j ≠ none)->(L.filterMap f).length=L.length
 | [],_=>rfl
 | j :: L,h=>by
  have h1:=h j (mem_cons_self ..);obtain ⟨b,hb⟩:∃ b,f j=some b:=by cases hq:f j with | none=>exact absurd hq h1 | some b=>exact ⟨b,rfl⟩
  rw [List.filterMap_cons_some hb,length_cons,length_cons,ur2 λ x hx=>h x (mem_cons_of_mem _ hx)]
theorem zy0 {α β:Type} {f g:α->Option β}:∀ {L:List α},(∀ j ∈ L,f j=g j)->L.filterMap f=L.filterMap g
 | [],_=>rfl
 | j :: L,h=>by
  rw [filterMap_cons,filterMap_cons,h j (mem_cons_self ..),zy0 λ x hx=>h x (mem_cons_of_mem _ hx)]
theorem vr2 {f g:Nat->Option Nat} {x k:Nat} (e1:f x=none) (e2:g x=some k) (e3:∀ y,y ≠ x->g y=f y):∀ {L:List Nat},L.Nodup->x ∈ L->(L.filterMap g).Perm (k :: L.filterMap f)
 | [],_,h=>by cases h
 | y :: L,nd,h=>by
  obtain ⟨n1,n2⟩:=List.nodup_cons.mp nd;by_cases c:y=x
  ·subst c;rw [List.filterMap_cons_some e2,List.filterMap_cons_none e1];refine List.Perm.cons _ (List.Perm.of_eq ?_);exact zy0 λ j hj=>e3 j λ z=>n1 (z ▸ hj)
  ·have ih:=vr2 e1 e2 e3 n2 (by rcases List.mem_cons.mp h with rfl | h; exact absurd rfl c; exact h);have e:=e3 y c;cases hf:f y with
   | none=>rw [List.filterMap_cons_none (by rw [e,hf]),List.filterMap_cons_none hf]; exact ih
   | some b =>
    rw [List.filterMap_cons_some (by rw [e,hf]),List.filterMap_cons_some hf];exact (List.Perm.cons _ ih).trans (List.Perm.swap _ _ _)
structure OwnOk (mask:Nat) (hs:List Int) (owner:Array (Option Nat)):Prop where
 sz:owner.size=mask + 1
 perm:((List.range (mask + 1)).filterMap λ j=>owner.getD j none).Perm (List.range hs.length)
 reach:∀ j k,owner.getD j none=some k->∃ h,hs[k]?=some h /\ ∃ m,tr mask h m=j /\ ∀ l,l < m->owner.getD (tr mask h l) none ≠ none
theorem xy0 {owner:Array [34]} {j:Nat} (h:j < owner.size) (a b:Option Nat):owner.getD j a=owner.getD j b:=by simp [Array.getD,h]
theorem OwnOk.step {mask:Nat} (hm:mask ∈ okM) {hs:List Int} {owner:Array [34]} (k:OwnOk mask hs owner) (hl:hs.length<=mask) (h:Int) :
    ∃ x,SetTable.layClean.free mask owner (SetTable.turns mask) (SetTable.bits h % (mask + 1)) (SetTable.bits h)=some x /\ OwnOk mask (hs ++ [h]) (owner.setIfInBounds x (some hs.length)):=by
 have sz:=k.sz
 obtain ⟨e,he,ee⟩:∃ e,e<=mask /\ owner.getD e none=none:=by
  refine Classical.byContradiction λ c=>?_;have h1:=ur2 (f:=λ j=>owner.getD j none) (L:=List.range (mask + 1)) λ j hj z=>c ⟨j,by have:=List.mem_range.mp hj; omega,z⟩;rw [k.perm.length_eq,length_range,length_range] at h1;omega
 have hi:SetTable.bits h % (mask + 1)<=mask:=by have:=Nat.mod_lt (SetTable.bits h) (show mask + 1 > 0 by omega); omega
 obtain ⟨K,hK,eK⟩:=yl1 hm hi (ve2 h) he;obtain ⟨m,a1,a2,a3,a4⟩:=zd1 mask h owner (SetTable.turns mask) 0 _ _ (za1 mask h) ⟨K,by unfold SetTable.turns; omega,by rw [eK,xy0 [1] _ none]; exact ee⟩;have ml:∀ l,tr mask h l < owner.size:=λ l=>by have:=zt2 (mask:=mask) h l; omega
 have a3':owner.getD (tr mask h m) none=none:=by rw [xy0 (ml m) _ (some 0)]; exact a3
 have gx:(owner.setIfInBounds (tr mask h m) (some hs.length)).getD (tr mask h m) none=some hs.length:=by
  have:=ml m;simp [Array.getD,this]
 have gy:∀ y,y ≠ tr mask h m->(owner.setIfInBounds (tr mask h m) (some hs.length)).getD y none=owner.getD y none:=λ y hy=>by
  by_cases c:y < owner.size
  ·simp [Array.getD,c,Array.getElem_setIfInBounds,Ne.symm hy]
  ·simp [Array.getD,c]
 have mono:∀ y,owner.getD y none ≠ none->(owner.setIfInBounds (tr mask h m) (some hs.length)).getD y none ≠ none:=λ y hy=>by
  by_cases c:y=tr mask h m
  ·subst c; rw [gx]; intro z; cases z
  ·rw [gy y c]; exact hy
 refine ⟨tr mask h m,a1,by rw [Array.size_setIfInBounds]; exact sz,?_,λ j q e=>?_⟩
 ·refine (vr2 a3' gx gy List.nodup_range (List.mem_range.mpr (by have:=ml m; omega))).trans ?_;rw [length_append,length_singleton];exact ((List.Perm.cons _ k.perm).trans (List.perm_append_singleton _ _).symm).trans (List.Perm.of_eq List.range_succ.symm)
 ·by_cases c:j=tr mask h m
  ·subst c;rw [gx] at e;cases e;refine ⟨h,by simp,m,rfl,λ l hl=>mono _ ?_⟩;have:=a4 l (Nat.zero_le _) hl;rw [xy0 (ml l) _ none] at this;exact this
  ·rw [gy j c] at e;obtain ⟨h',b1,m',b2,b3⟩:=k.reach j q e;refine ⟨h',?_,m',b2,λ l hl=>mono _ (b3 l hl)⟩;rw [getElem?_append_left (List.getElem?_eq_some_iff.mp b1).1];exact b1
theorem ub2 {mask:Nat} (hm:mask ∈ okM):∀ (rest done:List Int) (owner:Array [34]),OwnOk mask done owner->done.length + rest.length<=mask + 1 ->
    ∃ owner',List.foldl (λ acc h=>do
     let (owner,k) <- acc
     let j <- SetTable.layClean.free mask owner (SetTable.turns mask) (SetTable.bits h % (mask + 1)) (SetTable.bits h)
     pure (owner.setIfInBounds j (some k),k + 1)) (some (owner,done.length)) rest=some (owner',done.length + rest.length) /\ OwnOk mask (done ++ rest) owner'
 | [],done,owner,k,_=>⟨owner,rfl,by rw [append_nil]; exact k⟩
 | h :: rest,done,owner,k,hl=>by
  rw [length_cons] at hl;obtain ⟨x,e,k'⟩:=k.step hm [1] h;obtain ⟨o',e',k''⟩:=ub2 hm rest (done ++ [h]) _ k' (by rw [length_append,length_singleton]; omega);refine ⟨o',?_,by rw [append_assoc] at k''; exact k''⟩;rw [length_append,length_singleton] at e';rw [foldl_cons,length_cons,show done.length + (rest.length + 1)=done.length + 1 + rest.length by omega,<- e'];simp only [bind,Option.bind,e,pure]
theorem own0 (mask:Nat):OwnOk mask [] (Array.replicate (mask + 1) none):=by
 have g:∀ j,(Array.replicate (mask + 1) (none:Option Nat)).getD j none=none:=λ j=>by
  by_cases c:j < mask + 1 <;> simp [Array.getD,c]
 refine ⟨by simp,?_,λ j k e=>by rw [g] at e; cases e⟩;rw [List.filterMap_eq_nil_iff.mpr λ j _=>g j];exact List.Perm.refl _
theorem yh1 {mask:Nat} (hm:mask ∈ okM) (hs:Array Int) (hl:hs.size<=mask + 1):∃ owner,SetTable.layClean mask hs=some owner /\ OwnOk mask hs.toList owner:=by
 obtain ⟨o,e,k⟩:=ub2 hm hs.toList [] _ (own0 mask) (by simpa using hl);refine ⟨o,?_,by simpa using k⟩;unfold SetTable.layClean;rw [<- Array.foldl_toList];rw [length_nil] at e;rw [e];rfl
theorem sz2 {mask:Nat} (hm:mask ∈ okM) (hs:Array Int) (hl:hs.size<=mask + 1) (fi mo:Nat) (le pl:Bool) :
    ∃ t' order,SetTable.laid mask fi mo le pl hs=some (t',order) /\ t'.mask=mask /\ t'.dummies = #[] /\ t'.led=le /\ t'.plain=pl /\ t'.finger=fi /\ t'.moves=mo /\ order.toList.Perm (List.range hs.size) /\ TOk t' (order.toList.map λ k=>hs.getD k 0):=by
 obtain ⟨o,e,k⟩:=yh1 hm hs hl;unfold SetTable.laid;rw [e];refine ⟨_,_,rfl,rfl,rfl,rfl,rfl,rfl,rfl,?_,?_⟩
 ·have:(((List.range (mask + 1)).filterMap λ j=>(o.getD j none).map (j,·)).map (·.2))=(List.range (mask + 1)).filterMap λ j=>o.getD j none:=by
    rw [List.map_filterMap];refine zy0 λ j _=>?_;cases o.getD j none <;> rfl
  simp only [List.toList_toArray];rw [this];simpa using k.perm
 ·generalize hlv:((List.range (mask + 1)).filterMap λ j=>(o.getD j none).map (j,·))=live
  have lget:∀ x,x ∈ live->x.1<=mask /\ o.getD x.1 none=some x.2:=λ x hx=>by
   rw [<- hlv] at hx;obtain ⟨j,hj,ej⟩:=List.mem_filterMap.mp hx;cases hq:o.getD j none with
   | none=>rw [hq] at ej; cases ej
   | some b=>rw [hq] at ej; cases ej; exact ⟨by have:=List.mem_range.mp hj; show j<=mask; omega,hq⟩
  have lin:∀ j q,j<=mask->o.getD j none=some q->j ∈ live.map (·.1):=λ j q hj eq=>by
   rw [<- hlv];exact List.mem_map.mpr ⟨(j,q),List.mem_filterMap.mpr ⟨j,List.mem_range.mpr [1],by rw [eq]; rfl⟩,rfl⟩
  have pw:(live.map (·.1)).Pairwise (· < ·):=by
   rw [<- hlv,List.map_filterMap,List.pairwise_filterMap];refine List.pairwise_lt_range.imp_of_mem ?_
   ·intro a b ha hb hab x hx y hy;cases hq:o.getD a none with
    | none=>rw [hq] at hx; cases hx
    | some u =>
     cases hq2:o.getD b none with
     | none=>rw [hq2] at hy; cases hy
     | some v=>rw [hq] at hx; rw [hq2] at hy; cases hx; cases hy; exact hab
  refine ⟨by simpa [Rise] using pw,List.Pairwise.nil,λ j z=>by simp at z,λ j z=>?_,λ j z=>by simp at z,hm,by simp,λ i j h a b=>?_⟩
  ·have z':j ∈ live.map (·.1):=by simpa using z
   obtain ⟨x,hx,rfl⟩:=List.mem_map.mp z';exact (lget x hx).1
  ·have a':(live.map (·.1))[i]?=some j:=by simpa using a
   have b':((live.map (·.2)).map λ k=>hs.getD k 0)[i]?=some h:=by simpa using b
   rw [getElem?_map] at a' b';rw [getElem?_map] at b';cases hx:live[i]? with
   | none=>rw [hx] at a'; cases a'
   | some x =>
    rw [hx] at a' b';have a2:x.1=j:=by simpa using a'
    have b2:hs.getD x.2 0=h:=by simpa using b'
    obtain ⟨g1,g2⟩:=lget x (mem_of_getElem? hx);obtain ⟨h',c1,m,c2,c3⟩:=k.reach _ _ g2
    have hh:h'=h:=by
     rw [<- b2];rw [getElem?_toList] at c1;obtain ⟨hl1,hl2⟩:=Array.getElem?_eq_some_iff.mp c1;simp [Array.getD,hl1,hl2]
    subst hh;refine ⟨m,by rw [c2,a2],λ l hl=>.inl ?_⟩;have c4:=c3 l hl;cases hq:o.getD (tr mask h' l) none with
    | none=>exact absurd hq c4
    | some q=>simpa using lin _ q (zt2 h' l) hq
theorem xb1:∀ n,n < 512->SetTable.sizeAbove (n * 4) - 1 ∈ okM /\ n * 5 < (SetTable.sizeAbove (n * 4) - 1) * 3 /\ SetTable.sizeAbove (n * 4)<=2048:=by
 have:((List.range 512).all λ n=>decide (SetTable.sizeAbove (n * 4) - 1 ∈ okM /\ n * 5 < (SetTable.sizeAbove (n * 4) - 1) * 3 /\ SetTable.sizeAbove (n * 4)<=2048))=true:=by decide +kernel
 intro n hn;exact of_decide_eq_true (List.all_eq_true.mp this n (List.mem_range.mpr hn))
end Pv
namespace Pv
open PySem PySem.Spec PySem.W PyProof.Rows L2
def kI (t:T3):List Int:=[t.1,t.2.1,t.2.2]
theorem tq2 {a b:T3} (h:kI a=kI b):a=b:=by
 obtain ⟨a1,a2,a3⟩:=a;obtain ⟨b1,b2,b3⟩:=b;simp only [kI,List.cons.injEq,and_true] at h;obtain ⟨rfl,rfl,rfl⟩:=h;rfl
section
variable {prog:Program} {w:World} {A:Around} {E:[4]} {s:[39]}
abbrev TK (prog:Program) (w:World) (h:Heap) (t:T3) (a:Addr):Prop:=IsTupleKey (intKind prog w) h (kI t) a
def hT (prog:Program) (w:World) (t:T3):Int:=tupleKeyHash (intKind prog w) (kI t)
theorem wa3 {k:T3} {b:Addr} {Q:Int->Shared->Prop} (hu:A.units < cLine) (i:TK prog w s.heap k b) (h:∀ tk,Q (hT prog w k) { s with toks:=tk }):wpAny [5] A (pyHash (.ref b)) Q E s:=wpAny_pyHash_tuple hu i (h _)
theorem IsT3.key {h:Heap} {a:Addr} {t:T3} (i:IsT3 h (.ref a) t):TK prog w h t a:=by
 obtain ⟨a',o,t1,t2,t3,n,e1,e2,e3,e4⟩:=i;cases e1;exact ⟨o,_,n,e2,e3,e4,.cons (intKind_is ..) (.cons (intKind_is ..) (.cons (intKind_is ..) .nil))⟩
theorem TK.t3 {h:Heap} {a:Addr} {t:T3} (i:TK prog w h t a):IsT3 h (.ref a) t:=by
 obtain ⟨o,items,n,e1,e2,e3,e4⟩:=i;obtain ⟨it⟩:=items;dsimp only at e4
 have f:∀ {k:Int} {v:Value},(intKind prog w).is k v=true->∃ tk,v=.int k tk:=λ {k v} z=>by
  cases v <;> simp [intKind,Value.isInt] at z;exact ⟨_,by rw [z]⟩
 unfold kI at e4;cases e4 with
 | cons a1 e4 =>
  cases e4 with
  | cons a2 e4 =>
   cases e4 with
   | cons a3 e4 =>
    cases e4;obtain ⟨t1,rfl⟩:=f a1;obtain ⟨t2,rfl⟩:=f a2;obtain ⟨t3,rfl⟩:=f a3;exact ⟨a,o,t1,t2,t3,n,rfl,e1,e2,e3⟩
theorem TK.kept {h h':Heap} {a:Addr} {t:T3} (k:∀ o,h.get? a=some o->o.cls=.type "tuple" -> h'.get? a=some o) (i:TK prog w h t a):TK prog w h' t a:=by
 obtain ⟨o,items,n,e1,e2,e3⟩:=i;exact ⟨o,items,n,k o e1 e2,e2,e3⟩
theorem sm0 {a:Addr} {Q:Bool->Shared->Prop} (h:Q true s):wpAny [5] A (isSame (.ref a) (.ref a)) Q E s:=by
 unfold isSame;dsimp only;rw [if_pos (beq_self_eq_true a)];exact wpAny_pure h
theorem TK.items {h:Heap} {a:Addr} {t:T3} (i:TK prog w h t a):∃ o t1 t2 t3 n,h.get? a=some o /\ o.cls=.type "tuple" /\ o.data=.seq #[.int t.1 t1,.int t.2.1 t2,.int t.2.2 t3] n:=by
 obtain ⟨a',o,t1,t2,t3,n,e1,e2,e3,e4⟩:=i.t3;cases e1;exact ⟨o,t1,t2,t3,n,e2,e3,e4⟩
theorem ys2 {t:T3} {a:Addr} {Q:Bool->Shared->Prop} (i:TK prog w s.heap t a) (h:Q false s):wpAny [5] A (ofAClassStatement 8 (.ref a)) Q E s:=by
 have ty:=i.typeIs;obtain ⟨o,t1,t2,t3,n,e1,e2,e3⟩:=i.items;unfold ofAClassStatement;refine wpAny_bind (wpAny_typeOf ty ?_);dsimp only;rw [if_pos [9]];refine wpAny_bind [32];rw [if_neg [9]];refine wpAny_bind (wpAny_seqItems e1 e3 ?_);dsimp only;refine wpAny_bind ?_;rw [<- Array.forIn_toList];refine wpAny_forIn_list _ (λ rest r s'=>r.1=none /\ s'=s /\ ∀ v ∈ rest,carriedByValue v=true) _ ?_ ?_ _ _ ⟨rfl,rfl,by simp [carriedByValue]⟩
 ·rintro v rest r s' ⟨hr,rfl,hall⟩;have hv:=hall v mem_cons_self
  have hq:ofAClassStatement 7 v=pure false:=by
   cases v with
   | ref a=>simp [carriedByValue] at hv
   | _=>first | rfl | simp [ofAClassStatement] | (unfold ofAClassStatement; rfl)
  rw [hq];refine wpAny_bind [32];simp only [Bool.false_eq_true,if_false];exact wpAny_pure ⟨rfl,rfl,λ u hu'=>hall u (mem_cons_of_mem _ hu')⟩
 ·rintro ⟨r1,r2⟩ s' ⟨hr,rfl,_⟩;simp only at hr;subst hr;exact wpAny_pure h
theorem xv2 {k:T3} {b:Addr} {stored:[22]} {Q:Bool->Shared->Prop} (i:TK prog w s.heap k b) (hs:∀ v ∈ stored,∃ t a,v=.ref a /\ TK prog w s.heap t a) (h:Q false s) :
    wpAny [5] A (searchCouldBeSeen (.ref b) stored) Q E s:=by
 unfold searchCouldBeSeen;refine wpAny_bind ?_;refine wpAny_forIn_list _ (λ rest r s'=>r.1=none /\ s'=s /\ ∀ v ∈ rest,∃ t a,v=.ref a /\ TK prog w s.heap t a) _ ?_ ?_ _ _ ⟨rfl,rfl,hs⟩
 ·rintro v rest r s' ⟨hr,rfl,hall⟩;obtain ⟨t,a,rfl,hv⟩:=hall v mem_cons_self;have tl:=λ u hu'=>hall u (mem_cons_of_mem _ hu');dsimp only;split
  ·exact wpAny_pure ⟨rfl,rfl,tl⟩
  ·refine wpAny_bind (wpAny_eqIsQuiet_tuple i ?_);simp only [Bool.not_true,Bool.false_eq_true,if_false];refine wpAny_bind (wpAny_eqIsQuiet_tuple hv ?_);simp only [Bool.not_true,Bool.false_eq_true,if_false];refine wpAny_bind (ys2 i ?_);simp only [Bool.false_eq_true,if_false];refine wpAny_bind (ys2 hv ?_);simp only [Bool.false_eq_true,if_false];exact wpAny_pure ⟨rfl,rfl,tl⟩
 ·rintro ⟨r1,r2⟩ s' ⟨hr,rfl,_⟩;simp only at hr;subst hr;exact wpAny_pure h
theorem vn2 {t:T3} {a:Addr} {Q:Bool->Shared->Prop} (i:TK prog w s.heap t a) (h:Q true s):wpAny [5] A (hashByValue 8 (.ref a)) Q E s:=by
 have ty:=i.typeIs;obtain ⟨o,t1,t2,t3,n,e1,e2,e3⟩:=i.items;unfold hashByValue;refine wpAny_bind (wpAny_specialOf ty F.slot_tuple_hash.lookup ?_);show wpAny _ _ (seqItems? (.ref a) >>= _) _ _ s;refine wpAny_bind (wpAny_seqItems e1 e3 ?_);refine wpAny_bind ?_;show wpAny _ _ (forIn #[Value.int t.1 t1,.int t.2.1 t2,.int t.2.2 t3] _ _) _ _ s;rw [<- Array.forIn_toList];refine wpAny_forIn_list _ (λ rest r s'=>r.1=none /\ s'=s /\ ∀ v ∈ rest,∃ i t,v=Value.int i t) _ ?_ ?_ _ _ ⟨rfl,rfl,by simp⟩
 ·rintro v rest r s' ⟨hr,rfl,hall⟩;obtain ⟨j,tk,rfl⟩:=hall v mem_cons_self;have hq:hashByValue 7 (.int j tk)=pure true:=by unfold hashByValue; rfl
  rw [hq];refine wpAny_bind [32];simp only [Bool.not_true,Bool.false_eq_true,if_false];exact wpAny_pure ⟨rfl,rfl,λ u hu'=>hall u (mem_cons_of_mem _ hu')⟩
 ·rintro ⟨r1,r2⟩ s' ⟨hr,rfl,_⟩;simp only at hr;subst hr;exact wpAny_pure h
end
def bT (prog:Program) (w:World):Bool:=[5].w.params.followText "set-order"
abbrev ent (hf:T3->Int) (x:T3 × Addr):Int × Value:=(hf x.1,.ref x.2)
structure SetIs (prog:Program) (w:World) (hf:T3->Int) (h:Heap) (a:Addr) (o:Obj) (es:Array (Int × Value)) (ep:Nat) (t:SetTable) (xs:List (T3 × Addr)):Prop where
 ho:h.get? a=some o
 ex:o.ExactSet
 hd:o.data=.set es ep t
 el:es.toList=xs.map (ent hf)
 ks:∀ x ∈ xs,TK prog w h x.1 x.2
 nd:(xs.map (·.1)).Nodup
 ok:TOk t (xs.map λ x=>hf x.1)
 rm:t.fill<=t.mask
 pl:t.plain=true
 le:t.led = !bT prog w
section
variable {prog:Program} {w:World} {A:Around} {E:[4]} {s:[39]} {a:Addr} {o:Obj} {es:Array (Int × Value)} {ep:Nat} {t:SetTable} {xs:List (T3 × Addr)} {hf:T3->Int}
theorem SetIs.at {h:Heap} (S:SetIs prog w hf h a o es ep t xs) (i:Nat):es[i]?=(xs[i]?).map (ent hf):=by rw [<- getElem?_toList,S.el,getElem?_map]
theorem SetIs.size {h:Heap} (S:SetIs prog w hf h a o es ep t xs):es.size=xs.length:=by rw [<- length_toList,S.el,length_map]
theorem SetIs.fits {h:Heap} (S:SetIs prog w hf h a o es ep t xs):t.fits es.size=true:=by
 have h1:=S.ok.sz;have h2:=S.size;have h3:=S.rm;rw [length_map] at h1;simp [SetTable.fits,h1,h2,h3]
theorem SetIs.odd {h:Heap} (S:SetIs prog w hf h a o es ep t xs):t.gaveWay=false:=by
 have:∀ m ∈ okM,(m % 2 == 0)=false:=by decide
 exact this _ S.ok.msk
theorem ub1 {f:Nat->Int} {h:Int} {n:Nat} {d:Option Nat} {hs:List Int} {r:Option SetTable.Met} (k:TOk t hs) (rm:t.fill<=t.mask) (kd:DumOk t h d n) (e:t.probe f h { trS t.mask h n with dummy:=d }=r) :
    (∃ m d',r=some (.empty (tr t.mask h m) d') /\ n<=m /\ t.slot (tr t.mask h m)=.empty /\ Sk t f h n m /\ DumOk t h d' m) ∨
    (∃ m i d',r=some (.candidate (tr t.mask h m) i { trS t.mask h (m + 1) with dummy:=d' }) /\ n<=m /\ t.slot (tr t.mask h m)=.live i /\ f i=h /\ Sk t f h n m /\ DumOk t h d' m):=by
 subst e;exact k.probe rm f h n d kd
def Hist (hf:T3->Int) (t:SetTable) (xs:List (T3 × Addr)) (k:T3) (n:Nat):Prop:=∀ l,l < n->t.slot (tr t.mask (hf k) l) ≠ .empty /\ ∀ i,t.slot (tr t.mask (hf k) l)=.live i->∀ x,xs[i]?=some x->x.1 ≠ k
theorem vf1 {k:T3} {b:Addr} {adding:Bool} {Q:SetFound->Shared->Prop} (hu:A.units < cLine) (S:SetIs prog w hf s.heap a o es ep t xs) (hk:TK prog w s.heap k b)
    (found:∀ i b',xs[i]?=some (k,b')->Q (.there (if adding then none else some i)) s)
    (free:[35])
    {fuel n:Nat} {d:Option Nat} {stand:Option SetTable.Probe} (kd:DumOk t (hf k) d n) (hist:Hist hf t xs k n) (st:stand.getD (t.probeStart (hf k))={ trS t.mask (hf k) n with dummy:=d })
    (ih:∀ (n':Nat) (d':Option Nat) (stand':Option SetTable.Probe),n < n'->DumOk t (hf k) d' n'->Hist hf t xs k n'->stand'.getD (t.probeStart (hf k))={ trS t.mask (hf k) n' with dummy:=d' } ->
     wpAny [5] A (setSearchFrom a (.ref b) (hf k) adding fuel stand') Q E s) :
    wpAny [5] A (setSearchFrom a (.ref b) (hf k) adding (fuel + 1) stand) Q E s:=by
 have hist':∀ {f:Nat->Int} {m:Nat},(∀ i,f i=((es[i]?).map (·.1)).getD 0)->Sk t f (hf k) n m->∀ l,l < m->t.slot (tr t.mask (hf k) l) ≠ .empty /\ ∀ i,t.slot (tr t.mask (hf k) l)=.live i->∀ x,xs[i]?=some x->x.1 ≠ k:=λ {f m} hf sk l hl=>by
  by_cases c:l < n
  ·exact hist l c
  ·obtain ⟨b1,b2⟩:=sk l [1] hl;refine ⟨b1,λ i e x hx z=>b2 i e ?_⟩;rw [hf,S.at,hx,Option.map_some,Option.map_some,Option.getD_some,<- z]
 unfold setSearchFrom;refine wpAny_bind (wpAny_setState_of S.ho S.hd S.fits ?_);dsimp only;rw [S.odd,st];simp only [Bool.false_eq_true,if_false];split
 ·next met heq =>
  rcases ub1 S.ok S.rm kd heq with ⟨m,d',e,a1,a2,a3,a4⟩ | ⟨m,i,d',e,a1,a2,a3,a4,a5⟩
  ·cases e;have H:=hist' (λ _=>rfl) a3
   have nk:k ∉ xs.map (·.1):=λ z=>by
    obtain ⟨x,hx,ek⟩:=List.mem_map.mp z;obtain ⟨i,hi⟩:=List.mem_iff_getElem?.mp hx;have hlt:i < t.place.size:=by rw [S.ok.sz,length_map]; exact (List.getElem?_eq_some_iff.mp hi).1
    have hp:t.place[i]?=some t.place[i]:=Array.getElem?_eq_getElem hlt;obtain ⟨m',q1,q2⟩:=S.ok.reach i _ (hf k) hp (by rw [getElem?_map,hi]; show some (hf x.1)=_; rw [ek]);have hl:=(ta1 S.ok.ris).mpr hp;rw [<- q1] at hl;by_cases c:m' < m
    ·exact (H m' c).2 i hl x hi ek
    ·by_cases c2:m=m'
     ·subst c2; rw [a2] at hl; cases hl
     ·exact (S.ok.occ _).mp (q2 m [1]) a2
   have oc:∀ l,l < m->Occ t (tr t.mask (hf k) l):=λ l hl=>(S.ok.occ _).mpr (H l hl).1;cases d' with
   | none=>exact wpAny_pure (free _ false nk ((zr0 S.ok.ris S.ok.rid).mp a2).1 ⟨m,rfl,oc⟩ (λ z=>by cases z))
   | some x =>
    obtain ⟨l,b1,b2,b3⟩:=a4 x rfl;dsimp only;rw [b3];simp only [bne_self_eq_false,Bool.and_false,Bool.false_eq_true,if_false];refine wpAny_pure (free x true nk (S.ok.dj x ((wr0 S.ok.ris S.ok.rid (S.ok.dj x)).mp b3)) ⟨l,b2,λ l' hl=>oc l' [1]⟩ (λ _=>b3))
  ·cases e;have H:=hist' (λ _=>rfl) a4;have hp:=(ta1 S.ok.ris).mp a2;have hlt:i < xs.length:=by have:=(Array.getElem?_eq_some_iff.mp hp).1; rw [S.ok.sz,length_map] at this; exact this
   obtain ⟨x,hx⟩:∃ x,xs[i]?=some x:=⟨_,getElem?_eq_getElem hlt⟩;have he:es[i]?=some (ent hf x):=by rw [S.at,hx]; rfl
   have hkx:=S.ks x (mem_of_getElem? hx);have sm:t.sameMemory t.moves t.mask=some true:=by unfold SetTable.sameMemory; simp
   have sto:∀ v ∈ List.map (λ x=>x.snd) (Array.filter (λ x=>x.fst == hf k) es).toList,∃ t a,v=.ref a /\ TK prog w s.heap t a:=λ v hv=>by
    obtain ⟨y,hy,rfl⟩:=List.mem_map.mp hv
    have hy':y ∈ es.toList:=by
     rw [Array.toList_filter] at hy;exact (List.mem_filter.mp hy).1
    rw [S.el] at hy';obtain ⟨z,hz,rfl⟩:=List.mem_map.mp hy';exact ⟨z.1,z.2,rfl,S.ks z hz⟩
   dsimp only;split
   ·refine wpAny_bind (xv2 hk sto ?_);simp only [Bool.false_eq_true,if_false];rw [he];dsimp only;refine wpAny_bind (wpAny_holding (wpAny_eqBool_tuple hu hkx hk ?_));refine wpAny_bind (wpAny_setState_of S.ho S.hd S.fits ?_);dsimp only;by_cases c:x.1=k
    ·rw [decide_eq_true (congrArg kI c)];have fd:=found i x.2 (by rw [hx,<- c]);cases adding
     ·rw [sm];simp only [Bool.false_and,Bool.false_eq_true,if_false,if_true];rw [a2];dsimp only;rw [he];dsimp only;refine wpAny_bind (sm0 (wpAny_bind [32]));exact wpAny_pure fd
     ·exact wpAny_pure fd
    ·rw [decide_eq_false (λ z=>c (tq2 z)),sm];simp only [Bool.and_false,Bool.false_eq_true,if_false,if_true];rw [a2];dsimp only;rw [he];dsimp only;refine wpAny_bind (sm0 (wpAny_bind [32]));refine ih (m + 1) d' _ [1] (a5.up (Nat.le_succ _)) (λ l hl=>?_) rfl;by_cases c2:l < m
     ·exact H l c2
     ·have:l=m:=by omega
      subst this;refine ⟨(by rw [a2]; intro z; cases z),λ i' z y hy=>?_⟩;rw [a2] at z;cases z;rw [hx] at hy;cases hy;exact c
   ·rw [he];dsimp only;refine wpAny_bind (wpAny_holding (wpAny_eqBool_tuple hu hkx hk ?_));refine wpAny_bind (wpAny_setState_of S.ho S.hd S.fits ?_);dsimp only;by_cases c:x.1=k
    ·rw [decide_eq_true (congrArg kI c)];have fd:=found i x.2 (by rw [hx,<- c]);cases adding
     ·rw [sm];simp only [Bool.false_and,Bool.false_eq_true,if_false,if_true];rw [a2];dsimp only;rw [he];dsimp only;refine wpAny_bind (sm0 (wpAny_bind [32]));exact wpAny_pure fd
     ·exact wpAny_pure fd
    ·rw [decide_eq_false (λ z=>c (tq2 z)),sm];simp only [Bool.and_false,Bool.false_eq_true,if_false,if_true];rw [a2];dsimp only;rw [he];dsimp only;refine wpAny_bind (sm0 (wpAny_bind [32]));refine ih (m + 1) d' _ [1] (a5.up (Nat.le_succ _)) (λ l hl=>?_) rfl;by_cases c2:l < m
     ·exact H l c2
     ·have:l=m:=by omega
      subst this;refine ⟨(by rw [a2]; intro z; cases z),λ i' z y hy=>?_⟩;rw [a2] at z;cases z;rw [hx] at hy;cases hy;exact c
 ·next hne =>
  rcases ub1 S.ok S.rm kd rfl with ⟨m,d',e,a1,a2,a3,a4⟩ | ⟨m,i,d',e,a1,a2,a3,a4,a5⟩
  ·exact (hne _ e).elim
  ·exact (hne _ e).elim
theorem xv1 {k:T3} {b:Addr} {adding:Bool} {Q:SetFound->Shared->Prop} (hu:A.units < cLine) (S:SetIs prog w hf s.heap a o es ep t xs) (hk:TK prog w s.heap k b)
    (found:∀ i b',xs[i]?=some (k,b')->Q (.there (if adding then none else some i)) s)
    (free:[35])
    (N:Nat) (hN:t.slot (tr t.mask (hf k) N)=.empty) (r:Nat):∀ (fuel n:Nat) (d:Option Nat) (stand:Option SetTable.Probe),N < n + r->r<=fuel->DumOk t (hf k) d n->Hist hf t xs k n ->
    stand.getD (t.probeStart (hf k))={ trS t.mask (hf k) n with dummy:=d } ->
    wpAny [5] A (setSearchFrom a (.ref b) (hf k) adding fuel stand) Q E s:=by
 induction r with
 | zero =>
  intro fuel n d stand h1 h2 kd hist st;exact absurd hN (hist N [1]).1
 | succ r ih =>
  intro fuel n d stand h1 h2 kd hist st;cases fuel with
  | zero=>omega
  | succ fuel=>exact vf1 hu S hk found free kd hist st λ n' d' stand' a1 a2 a3 a4=>ih fuel n' d' stand' [1] [1] a2 a3 a4
end
section
variable {prog:Program} {w:World} {A:Around} {E:[4]} {s:[39]} {a:Addr} {o:Obj} {es:Array (Int × Value)} {ep:Nat} {t:SetTable} {xs:List (T3 × Addr)} {hf:T3->Int}
theorem vx0:∀ m ∈ okM,7<=m /\ m<=4095:=by decide
theorem yb1 {k:T3} {b:Addr} {adding:Bool} {Q:SetFound->Shared->Prop} (hu:A.units < cLine) (S:SetIs prog w hf s.heap a o es ep t xs) (hk:TK prog w s.heap k b)
    (found:∀ i b',xs[i]?=some (k,b')->Q (.there (if adding then none else some i)) s)
    (free:[35]) :
    wpAny [5] A (setSearch a (.ref b) (hf k) adding) Q E s:=by
 obtain ⟨e,he,ee⟩:=S.ok.hole S.rm;obtain ⟨N,_,h2,h3⟩:=vi1 S.ok.msk (hf k) 0 he;have hm:=vx0 _ S.ok.msk;unfold SetTable.turns at h2;unfold setSearch;refine xv1 hu S hk found free N (by rw [h3]; exact ee) (N + 1) _ 0 none none [1] [1] (λ x z=>by cases z) (λ l hl=>absurd hl (Nat.not_lt_zero _)) ?_;rfl
theorem yv2 (b:Addr) (es:Array (Int × Value)):byScan (.ref b) es=false:=by simp [byScan,Value.scannable]
theorem SetIs.store {h:Heap} (S:SetIs prog w hf h a o es ep t xs) {xs':List (T3 × Addr)} {es':Array (Int × Value)} {t':SetTable} (el:es'.toList=xs'.map (ent hf)) (ks:∀ x ∈ xs',TK prog w h x.1 x.2) (nd:(xs'.map (·.1)).Nodup)
    (ok:TOk t' (xs'.map λ x=>hf x.1)) (rm:t'.fill<=t'.mask) (pl:t'.plain=true) (le:t'.led = !bT prog w) :
    SetIs prog w hf (h.update a (Obj.putSet es' t')) a { o with data:=.set es' (ep + 1) t' } es' (ep + 1) t' xs':=by
 have hg:(h.update a (Obj.putSet es' t')).get? a=some { o with data:=.set es' (ep + 1) t' }:=by
  have:=Heap.get?_update_self (Obj.putSet es' t') S.ho (by rw [putSet_of es' t' S.hd]; rfl);rw [putSet_of es' t' S.hd] at this; exact this
 refine ⟨hg,S.ex,rfl,el,λ x hx=>(ks x hx).kept λ o' e1 e2=>?_,nd,ok,rm,pl,le⟩;rw [Heap.get?_update_ne _ _ _ _ (λ z=>?_)]
 ·exact e1
 ·rw [z,S.ho] at e1;cases e1;rw [S.ex.1] at e2;injection e2 with e
  exact absurd e [9]
theorem wb4 {α β:Type} {m m':Sem α} {g:α->Sem β} {Q:β->Shared->Prop} (e:m=m') (h:wpAny [5] A (m' >>= g) Q E s):wpAny [5] A (m >>= g) Q E s:=by rw [e]; exact h
theorem tz2 {mk fi mo:Nat} {le pl:Bool} (m1:mk ∈ okM) (hl:xs.length<=mk + 1) (eel:es.toList=xs.map (ent hf)) :
    ∃ t' order,∃ xs':List (T3 × Addr),SetTable.laid mk fi mo le pl (es.map (·.1))=some (t',order) /\ (order.filterMap λ k=>es[k]?).toList=xs'.map (ent hf) /\ xs'.Perm xs /\ (order.filterMap λ k=>es[k]?).size=es.size /\ TOk t' (xs'.map λ x=>hf x.1) /\ t'.mask=mk /\ t'.dummies = #[] /\ t'.led=le /\ t'.plain=pl:=by
 have sz:es.size=xs.length:=by rw [<- length_toList,eel,length_map]
 have hat:∀ i:Nat,es[i]?=(xs[i]?).map (ent hf):=λ i=>by rw [<- getElem?_toList,eel,getElem?_map]
 obtain ⟨t',order,e1,e2,e3,e4,e5,e6,e7,e8,e9⟩:=sz2 m1 (es.map (·.1)) (by rw [size_map,sz]; omega) fi mo le pl;rw [size_map,sz] at e8;have olt:∀ k ∈ order.toList,k < xs.length:=λ k hk=>List.mem_range.mp (e8.mem_iff.mp hk);obtain ⟨d⟩:Nonempty (T3 × Addr):=⟨((0,0,0),0)⟩
 have fm:∀ (l:List Nat),(∀ k ∈ l,k < xs.length)->l.filterMap (λ k=>es[k]?)=(l.map λ k=>xs.getD k d).map (ent hf):=λ l=>by
  induction l with
  | nil=>intro _; rfl
  | cons k l ih =>
   intro hl;have hk:=hl k (mem_cons_self ..);rw [List.filterMap_cons_some (b:=ent hf (xs.getD k d)),ih λ j hj=>hl j (mem_cons_of_mem _ hj),map_cons,map_cons];rw [hat,getD_eq_getElem?_getD,getElem?_eq_getElem hk];simp only [Option.map_some,Option.getD_some]
 have fm':(order.filterMap λ k=>es[k]?).toList=(order.toList.map λ k=>xs.getD k d).map (ent hf):=by rw [Array.toList_filterMap]; exact fm _ olt
 have pm:(order.toList.map λ k=>xs.getD k d).Perm xs:=by
  refine (e8.map _).trans (List.Perm.of_eq ?_);apply ext_getElem
  ·simp
  ·intro i h1 h2;simp [getD_eq_getElem?_getD,getElem?_eq_getElem h2]
 have hz:(order.filterMap λ k=>es[k]?).size=es.size:=by rw [<- length_toList,fm',length_map,pm.length_eq,sz]
 have hok:TOk t' ((order.toList.map λ k=>xs.getD k d).map λ x=>hf x.1):=by
  have:(order.toList.map λ k=>(es.map (·.1)).getD k 0)=(order.toList.map λ k=>xs.getD k d).map λ x=>hf x.1:=by
   rw [map_map];refine List.map_congr_left λ k hk=>?_;have hl:=olt k hk;have hl2:k < es.size:=by omega
   have q:es[k]?=some (ent hf (xs.getD k d)):=by
    rw [hat,getD_eq_getElem?_getD,getElem?_eq_getElem hl];simp only [Option.map_some,Option.getD_some]
   rw [Array.getElem?_eq_getElem hl2] at q;injection q with q
   simp only [Array.getD,size_map,hl2,dite_true,Array.getInternal_eq_getElem,Array.getElem_map,q,Function.comp]
  rw [<- this];exact e9
 exact ⟨t',order,_,e1,fm',pm,hz,hok,e2,e3,e4,e5⟩
theorem xw1 {Q:Unit->Shared->Prop} {wd:Nat} (S:SetIs prog w hf s.heap a o es ep t xs) (m1:SetTable.sizeAbove wd - 1 ∈ okM) (m2:xs.length * 5 < (SetTable.sizeAbove wd - 1) * 3) (m3:SetTable.sizeAbove wd<=2048)
    (h:∀ h' o' es' ep' t' xs',Heap.SameBut a s.heap h'->SetIs prog w hf h' a o' es' ep' t' xs'->xs'.Perm xs->t'.fill * 5 < t'.mask * 3->t'.mask=SetTable.sizeAbove wd - 1->t'.dummies = #[]->Q () { s with heap:=h' }) :
    wpAny [5] A (setRelay a wd) Q E s:=by
 have sz:=S.size;have mm:=vx0 _ m1;have sl:SetTable.sizeAbove wd<=sizeLine:=by rw [sizeLine_eq]; omega
 obtain ⟨t',order,xs',e1,fm',pm,hz,hok,e2,e3,e4,e5⟩:=tz2 (fi:=t.finger) (mo:=t.movedTo (SetTable.sizeAbove wd - 1)) (le:=t.led) (pl:=t.plain) m1 [1] S.el;have el:t.relaid (es.map (·.1)) wd=some (t',order):=e1
 have rm:t'.fill * 5 < t'.mask * 3:=by
  have h1:=hok.sz;rw [length_map,pm.length_eq] at h1;unfold SetTable.fill;rw [h1,e3,e2];simpa using m2
 have hm:=vx0 _ hok.msk;unfold setRelay;refine wpAny_bind (wpAny_setState_of S.ho S.hd S.fits ?_);dsimp only;rw [if_neg [1],el];refine wb4 (m':=if ((order.filterMap λ k=>es[k]?).size != es.size)=true then (unsupported "internal:set-table-lost-an-element" >>= λ (_:PUnit)=>pure ((order.filterMap λ k=>es[k]?),t')) else pure ((order.filterMap λ k=>es[k]?),t')) rfl ?_;rw [hz];simp only [bne_self_eq_false,Bool.false_eq_true,if_false];refine wpAny_bind (wpAny_pure (wpAny_storeSet_of S.ho S.hd ?_ (by rw [hz,sz,sizeLine_eq]; omega)));exact h _ _ _ _ _ _ (Heap.SameBut.update _ a _) (S.store fm' (λ x hx=>S.ks x (pm.mem_iff.mp hx)) ((pm.map _).nodup_iff.mpr S.nd) hok (show t'.fill<=t'.mask by omega) (by rw [e5]; exact S.pl) (by rw [e4]; exact S.le)) pm rm e2 e3
theorem xi2 {Q:Unit->Shared->Prop} {n:Nat} (S:SetIs prog w hf s.heap a o es ep t xs) (hn:xs.length < 512) (en:n=xs.length)
    (h:∀ h' o' es' ep' t' xs',Heap.SameBut a s.heap h'->SetIs prog w hf h' a o' es' ep' t' xs'->xs'.Perm xs->t'.fill * 5 < t'.mask * 3->Q () { s with heap:=h' }) :
    wpAny [5] A (setRelay a (n * 4)) Q E s:=by
 subst en;obtain ⟨m1,m2,m3⟩:=xb1 _ hn;exact xw1 S m1 m2 m3 λ h' o' es' ep' t' xs' q1 q2 q3 q4 _ _=>h h' o' es' ep' t' xs' q1 q2 q3 q4
def SetG (prog:Program) (w:World) (hf:T3->Int) (h:Heap) (a:Addr) (xs:List (T3 × Addr)):Prop:=∃ o es ep t,SetIs prog w hf h a o es ep t xs /\ t.fill * 5 < t.mask * 3
theorem zb4 {k:T3} {b:Addr} {Q:Bool->Shared->Prop} (hu:A.units < cLine) (S:SetG prog w hf s.heap a xs) (hk:TK prog w s.heap k b) (hn:xs.length + 1 < 512)
    (old:k ∈ xs.map (·.1)->Q false s)
    (new:k ∉ xs.map (·.1)->∀ h' xs',Heap.SameBut a s.heap h'->SetG prog w hf h' a xs'->xs'.Perm ((k,b) :: xs)->Q true { s with heap:=h' }):wpAny [5] A (setAddHashed a (.ref b) (hf k)) Q E s:=by
 obtain ⟨o,es,ep,t,S,rm5⟩:=S;have hm:=vx0 _ S.ok.msk;have sz:=S.size;unfold setAddHashed setAddHashedIn;refine wpAny_holding (wpAny_bind (wpAny_setState_of S.ho S.hd S.fits ?_));dsimp only;rw [yv2];simp only [Bool.false_eq_true,if_false];refine wpAny_bind (yb1 hu S hk (λ i b' e=>?_) λ sl wd nk ns rc wdd=>?_)
 ·exact wpAny_pure (old (List.mem_map.mpr ⟨_,mem_of_getElem? e,rfl⟩))
 ·dsimp only;refine wpAny_bind (wpAny_setState_of S.ho S.hd S.fits ?_);dsimp only;have ok':=S.ok.put ns rc;have f1:=ui2 S.ok (x:=sl);have pl':(t.put sl).1.plain=true:=S.pl;have mk':(t.put sl).1.mask=t.mask:=rfl;rw [pl'];simp only [if_true];refine wpAny_bind (vn2 hk ?_);simp only [if_true]
  have el':(SetTable.insertAt es (t.put sl).2 (hf k,Value.ref b)).toList=(insL xs (SetTable.below t.place sl) (k,b)).map (ent hf):=by
   rw [SetTable.toList_insertAt,ul1,S.el];rfl
  have pm:(insL xs (SetTable.below t.place sl) (k,b)).Perm ((k,b) :: xs):=by
   unfold insL;exact List.perm_middle.trans (List.Perm.cons _ (List.Perm.of_eq (take_append_drop _ _)))
  have sz':(SetTable.insertAt es (t.put sl).2 (hf k,Value.ref b)).size=xs.length + 1:=by rw [<- length_toList,el',length_map,yi0]
  have S':=S.store el' (λ x hx=>by
   rcases (zn0 _ _ _ _).mp hx with rfl | hx
   ·exact hk
   ·exact S.ks x hx) ((pm.map _).nodup_iff.mpr (List.nodup_cons.mpr ⟨nk,S.nd⟩)) (by rw [ul1]; exact ok') (by rw [mk']; omega) pl' S.le
  refine wpAny_bind (wpAny_storeSet_of S.ho S.hd ?_ (by rw [sz',sizeLine_eq]; omega));have sb:=Heap.SameBut.update s.heap a (Obj.putSet (SetTable.insertAt es (t.put sl).2 (hf k,Value.ref b)) (t.put sl).1);split
  ·next c =>
   have gr:SetTable.grown (es.size + 1)=(xs.length + 1) * 4:=by unfold SetTable.grown; rw [if_neg [1],sz]
   rw [gr];refine wpAny_bind (xi2 S' (by rw [yi0]; omega) (by rw [yi0]) λ h' o' es' ep' t' xs' q1 q2 q3 q4=>wpAny_pure ?_);exact new nk h' xs' (sb.trans q1) ⟨_,_,_,_,q2,q4⟩ (q3.trans pm)
  ·next c =>
   refine wpAny_pure (new nk _ _ sb ⟨_,_,_,_,S',?_⟩ pm);cases wd with
   | true =>
    have f2:=zq1 S.ok (wdd rfl);rw [mk'];omega
   | false =>
    simp only [Bool.not_false,Bool.true_and,SetTable.tooFull,decide_eq_true_eq] at c;omega
end
def Got (P:Nat->Value->Prop) (ks:Nat->T3) (i:Nat) (xs:List (T3 × Addr)):Prop:=(∀ x ∈ xs,∃ j,j < i /\ P j (.ref x.2) /\ ks j=x.1) /\ ∀ j,j < i->ks j ∈ xs.map (·.1)
def KpH (h h':Heap):Prop:=∀ b o,h.get? b=some o->h'.get? b=some o
section
variable {prog:Program} {w:World} {A:Around} {E:[4]} {R:Result->Shared->Prop} {s:[39]} {hf:T3->Int}
theorem SetG.nd {h:Heap} {a:Addr} {xs:List (T3 × Addr)} (S:SetG prog w hf h a xs):(xs.map (·.1)).Nodup:=by
 obtain ⟨o,es,ep,t,S,_⟩:=S;exact S.nd
theorem SetG.keep {h h':Heap} {a:Addr} {xs:List (T3 × Addr)} (S:SetG prog w hf h a xs) (k1:∀ o,h.get? a=some o->h'.get? a=some o) (k2:∀ x ∈ xs,TK prog w h' x.1 x.2):SetG prog w hf h' a xs:=by
 obtain ⟨o,es,ep,t,S,q⟩:=S;exact ⟨o,es,ep,t,⟨k1 o S.ho,S.ex,S.hd,S.el,k2,S.nd,S.ok,S.rm,S.pl,S.le⟩,q⟩
theorem Got.len {P:Nat->Value->Prop} {ks:Nat->T3} {i n:Nat} {xs:List (T3 × Addr)} (g:Got P ks i xs) (hi:i<=n) (nd:(xs.map (·.1)).Nodup) (B:∀ l:List T3,l.Nodup->(∀ x ∈ l,∃ j,j < n /\ ks j=x)->l.length < 511):xs.length < 511:=by
 have:=B _ nd λ x hx=>by
  obtain ⟨y,hy,rfl⟩:=List.mem_map.mp hx;obtain ⟨j,h1,_,h2⟩:=g.1 y hy;exact ⟨j,by omega,h2⟩
 rwa [length_map] at this
theorem zf2 {I S:Addr} {fp wr:List Addr} {n:Nat} {P:Nat->Value->Prop} {St:Nat->Heap->Prop} {h0:Heap} {ks:Nat->T3} (W:Walks prog w A.in1 I fp wr n P St) (hS:S ∉ fp) (ua:A.units + 1 < cLine)
    (low:∀ b ∈ S :: wr,h0.objs.size<=b) (hv:∀ i v,i < n->P i v->∃ b,v=.ref b /\ TK prog w h0 (ks i) b) (B:∀ l:List T3,l.Nodup->(∀ x ∈ l,∃ j,j < n /\ ks j=x)->l.length < 511) :
    ∀ (k i:Nat) (s:[39]) (xs:List (T3 × Addr)),n - i=k->i<=n->St i s.heap->KpH h0 s.heap->SetG prog w (hT prog w) s.heap S xs->Got P ks i xs ->
     (∀ h' tk xs',KpH h0 h'->SetG prog w (hT prog w) h' S xs'->Got P ks n xs'->R (.ok (.ret .none)) { s with heap:=h',toks:=tk }) ->
     codeAny [5] A (.builtin "set.update.loop" ⟨[.ref S,.ref I],[]⟩) R s:=by
 have nw:S ∉ wr:=λ h=>hS (W.sub _ h)
 have nl:∀ {b:Addr} {o:Obj},h0.get? b=some o->b ∉ wr /\ b ≠ S:=λ {b o} e =>
  ⟨λ z=>absurd (Heap.lt_size e) (Nat.not_lt.mpr (low b (mem_cons_of_mem _ z))),λ z=>absurd (Heap.lt_size e) (Nat.not_lt.mpr (low b (by rw [z]; exact mem_cons_self ..)))⟩
 have tkk:∀ {i:Nat} {xs:List (T3 × Addr)} {h:Heap},i<=n->Got P ks i xs->KpH h0 h->∀ x ∈ xs,TK prog w h x.1 x.2:=λ {i xs h} hi g k x hx=>by
  obtain ⟨j,a1,a2,a3⟩:=g.1 x hx;obtain ⟨b,e,t⟩:=hv j _ [1] a2;cases e;rw [<- a3];exact t.kept λ o e _=>k _ o e
 intro k
 induction k with
 | zero =>
  intro i s xs hk hi st kp sg g q;have:i=n:=by omega
  subst this;refine codeAny_builtin F.entry_set_update_loop ?_;rw [Around.under_plainId F.plain_set_update_loop _];show wpAny _ A.in1 (pyNext (.ref I) >>= _) _ _ s;refine wpAny_bind (W.done s _ _ st λ h1 tk km=>?_);show wpAny _ A.in1 (ret Value.none) _ _ _;have kp1:KpH h0 h1:=λ b o e=>km b o (nl e).1 (kp b o e);exact wpAny_pure (q h1 tk xs kp1 (sg.keep (λ o e=>km S o nw e) (tkk hi g kp1)) g)
 | succ k ih =>
  intro i s xs hk hi st kp sg g q;have lt:i < n:=by omega
  refine codeAny_builtin F.entry_set_update_loop ?_;rw [Around.under_plainId F.plain_set_update_loop _];show wpAny _ A.in1 (pyNext (.ref I) >>= _) _ _ s;refine wpAny_bind (W.item i s _ _ lt st λ v h1 tk hP st1 km=>?_);obtain ⟨b,rfl,tb0⟩:=hv i v lt hP;have kp1:KpH h0 h1:=λ b o e=>km b o (nl e).1 (kp b o e);have tb:TK prog w h1 (ks i) b:=tb0.kept λ o e _=>kp1 b o e;have sg1:SetG prog w (hT prog w) h1 S xs:=sg.keep (λ o e=>km S o nw e) (tkk hi g kp1);have ln:=g.len hi sg.nd B;show wpAny _ A.in1 (holding [Value.ref b] (setAdd S (.ref b)) >>= _) _ _ _;refine wpAny_bind (wpAny_holding ?_);unfold setAdd;refine wpAny_holding ?_;refine wpAny_bind (wa3 (s:={ s with heap:=h1,toks:=tk }) ua tb λ tk2=>?_);refine zb4 (hf:=hT prog w) (s:={ s with heap:=h1,toks:=tk2 }) ua sg1 tb [1] (λ old=>?_) (λ new h2 xs2 sb sg2 pm=>?_)
  ·refine wpAny_pure ⟨plainId_quiet F.plain_set_update_loop _,ih (i + 1) { s with heap:=h1,toks:=tk2 } xs [1] lt st1 kp1 sg1 ?_ λ h' tk' xs' a b c=>q h' tk' xs' a b c⟩;refine ⟨λ x hx=>?_,λ j hj=>?_⟩
   ·obtain ⟨j,a1,a2⟩:=g.1 x hx;exact ⟨j,by omega,a2⟩
   ·by_cases c:j < i
    ·exact g.2 j c
    ·have:j=i:=by omega
     rw [this]; exact old
  ·have kp2:KpH h0 h2:=λ b o e=>by rw [sb.2 b (nl e).2]; exact kp1 b o e
   refine wpAny_pure ⟨plainId_quiet F.plain_set_update_loop _,ih (i + 1) { s with heap:=h2,toks:=tk2 } xs2 [1] lt (W.frame _ h1 _ st1 λ b hb o e=>?_) kp2 sg2 ?_ λ h' tk' xs' a b c=>q h' tk' xs' a b c⟩
   ·rw [sb.2 b (λ z=>hS (by rw [<- z]; exact hb))]; exact e
   ·refine ⟨λ x hx=>?_,λ j hj=>?_⟩
    ·rcases List.mem_cons.mp (pm.mem_iff.mp hx) with rfl | hx
     ·exact ⟨i,by omega,hP,rfl⟩
     ·obtain ⟨j,a1,a2⟩:=g.1 x hx;exact ⟨j,by omega,a2⟩
    ·refine (pm.map (·.1)).mem_iff.mpr ?_;by_cases c:j < i
     ·exact mem_cons_of_mem _ (g.2 j c)
     ·have:j=i:=by omega
      rw [this]; exact mem_cons_self ..
def nset (b:Bool):Obj:={ cls:=.type "set",dict:=none,data:=.set #[] 0 (.fresh 0 0 b) }
theorem su2 (v:Value) {Q1:[4]} (h:Q1 (.ref s.heap.objs.size) { s with heap:=s.heap.push (nset (!bT prog w)) }):codeAny [5] A (.call (.builtin "set.__new__") ⟨[.type "set",v],[]⟩) (wants Q1 E) s:=by
 refine codeAny_of_tree ?_;show wpAny _ A.in1 (do checkBuiltinCall "set.__new__" ⟨[.type "set",v],[]⟩; again (.builtin "set.__new__" ⟨[.type "set",v],[]⟩)) _ _ s;refine wpAny_bind (wpAny_of_eq (F.newCall_set_1 v) (wpAny_pure ⟨plainId_quiet F.plain_set_new _,codeAny_builtin F.entry_set_new ?_⟩));rw [Around.under_plainId F.plain_set_new _]; unfold Builtin.«set.__new__» Builtin.Frozenset.newClass;have ss:=sub_set_self;obtain ⟨hp,g,d,tk,os⟩:=s;dsimp only; wp_walk;refine wpAny_askSetting [32]; dsimp only; simp only [newObj];refine wpAny_bind (wpAny_alloc [32]); exact wpAny_pure h
theorem set0 {h:Heap} {a:Addr} (e:h.get? a=some (nset (!bT prog w))):SetG prog w hf h a []:=by
 refine ⟨_,#[],0,.fresh 0 0 (!bT prog w),⟨e,?_,rfl,rfl,(λ x hx=>nomatch hx),nodup_nil,?_,(show 0<=7 by decide),rfl,rfl⟩,(show 0 * 5 < 7 * 3 by decide)⟩
 ·exact ⟨rfl,rfl,rfl⟩
 ·refine ⟨by simp [Rise,SetTable.fresh],by simp [Rise,SetTable.fresh],(λ j h=>by simp [SetTable.fresh] at h),(λ j h=>by simp [SetTable.fresh] at h),(λ j h=>by simp [SetTable.fresh] at h),(show 7 ∈ okM by decide),rfl,(λ i j h z=>by simp [SetTable.fresh] at z)⟩
theorem sv0 {l:Addr} {items:Array Value} {ks:Nat->T3} {Q:[4]} (hh:A.handled=none) (hu:A.units + 16 < cLine) (hl:s.heap.IsList l items)
    (hi:∀ i v,i < items.size->items[i]?=some v->∃ b,v=.ref b /\ TK prog w s.heap (ks i) b) (B:∀ l:List T3,l.Nodup->(∀ x ∈ l,∃ j,j < items.size /\ ks j=x)->l.length < 511)
    (h:∀ (h':Heap) (tk:Nat) xs,KpH s.heap h'->SetG prog w (hT prog w) h' s.heap.objs.size xs->Got (λ i v=>items[i]?=some v) ks items.size xs->Q (.ref s.heap.objs.size) { s with heap:=h',toks:=tk }) :
    wpAny [5] A (call (.type "set") [.ref l]) Q E s:=by
 obtain ⟨c,tl,emro⟩:=F.called_set.mro;have e0:=F.called_set.made;have e1:=F.called_set.sub;refine wpAny_call (codeAny_of_tree ?_); show wpAny _ _ (callAny (.type "set") _) _ _ _;refine wpAny_pure ⟨Code.quiet_builtin _ [12],codeAny_builtin F.entry_type_call ?_⟩; rw [Around.under_plain (weight_type_call_type "set" [.ref l] []) rfl];have e2:=F.called_set.notType;have e3:=F.called_set.canCreate;have e4:=F.typeCall_set_1 (.ref l)
 repeat (any_goals (first | assumption | wp_step))
 refine codeAny_mono (su2 (.ref l) (E:=E) (Q1:=λ obj s1=>obj=.ref s.heap.objs.size /\ s1={ s with heap:=s.heap.push (nset (!bT prog w)) }) ⟨rfl,rfl⟩) λ r s1 hr=>?_;cases r with
 | error e=>exact hr
 | ok fl =>
  cases fl with
  | ret obj =>
   obtain ⟨rfl,rfl⟩:=hr;have gS:(s.heap.push (nset (!bT prog w))).get? s.heap.objs.size=some (nset (!bT prog w)):=Heap.get?_push_size _ rfl;have tS:Shared.TypeIs { s with heap:=s.heap.push (nset (!bT prog w)) } (.ref s.heap.objs.size) "set" := ⟨_,gS,rfl⟩;have e5:=F.called_set.init.lookup;have e6:=F.called_set.init.bind (.ref s.heap.objs.size)
   repeat (any_goals (first | assumption | wp_step))
   refine codeAny_mono (codeAny_call_builtin (R:=wants (λ r s2=>r=.none /\ ∃ h' tk xs,s2={ s with heap:=h',toks:=tk } /\ KpH s.heap h' /\ SetG prog w (hT prog w) h' s.heap.objs.size xs /\ Got (λ i v=>items[i]?=some v) ks items.size xs) E) F.called_set.init.plain F.entry_set_init (check_set_init_1 tS ?_)) λ r2 s2 hr2=>?_
   ·obtain ⟨ol,gl,cl,nl,dl⟩:=hl;obtain ⟨ocls,odict,odata,oslots⟩:=ol;simp only at cl dl;subst cl; subst dl;have gl':(s.heap.push (nset (!bT prog w))).get? l=some { cls:=.type "list",dict:=odict,data:=.seq items nl,slots:=oslots }:=Heap.get?_push_of_some _ gl;have f1:=F.sub_list_set;have f2:=F.sub_list_frozenset;have f3:(Value.type "list" == Value.type "dict")=false:=by decide
    have il:(s.heap.push (nset (!bT prog w))).IsList l items:=⟨_,gl',rfl,nl,rfl⟩;unfold Builtin.«set.__init__» noKeywords Builtin.Frozenset.updateFrom;generalize hPI:pyIter=PI
    wp_walk
    subst hPI; refine wpAny_pyIter_list il ?_; refine wpAny_bind (wpAny_runValue ?_);have ls:l < s.heap.objs.size:=Heap.lt_size gl;have z1:(s.heap.push (nset (!bT prog w))).objs.size=s.heap.objs.size + 1:=Heap.size_push ..;have ni:l ≠ (s.heap.push (nset (!bT prog w))).objs.size:=by rw [z1]; exact Nat.ne_of_lt (Nat.lt_succ_of_lt ls)
    refine zf2 (A:=A.in1.in1) (h0:=s.heap) (ks:=ks) (Walks.list (show A.in1.in1.in1.handled=none by simp [hh]) _ l ni items) (S:=s.heap.objs.size) ?_ (show A.units + 1 + 1 + 1 < cLine by omega) ?_ (λ i v lt e=>hi i v lt e) B (items.size - 0) 0 _ [] [1] (Nat.zero_le _) ?_ ?_ ?_ ?_ ?_
    ·rw [z1];intro z;rcases List.mem_cons.mp z with z | z
     ·exact Nat.ne_of_lt (Nat.lt_succ_self _) z
     ·rcases List.mem_cons.mp z with z | z
      ·exact Nat.ne_of_gt ls z
      ·cases z
    ·intro b hb;rcases List.mem_cons.mp hb with rfl | hb
     ·exact Nat.le_refl _
     ·rcases List.mem_cons.mp hb with rfl | hb
      ·rw [z1]; exact Nat.le_succ _
      ·cases hb
    ·exact ⟨⟨_,Heap.get?_push_size _ rfl,rfl,rfl⟩,il.push _⟩
    ·exact λ b o e=>Heap.get?_push_of_some _ (Heap.get?_push_of_some _ e)
    ·exact set0 (Heap.get?_push_of_some _ gS)
    ·exact ⟨(λ x hx=>nomatch hx),λ j hj=>absurd hj (Nat.not_lt_zero _)⟩
    ·intro h' tk xs kp sg g;show wpAny _ _ _ _ _ _;refine wpAny_pure ?_;show wpAny _ _ (ret Value.none) _ _ _;exact wpAny_pure ⟨rfl,h',tk,xs,rfl,kp,sg,g⟩
   ·cases r2 with
    | error e=>exact hr2
    | ok fl2 =>
     cases fl2 with
     | ret r =>
      obtain ⟨rfl,h',tk,xs,rfl,kp,sg,g⟩:=hr2
      repeat (any_goals (first | assumption | wp_step))
      exact h _ _ _ kp sg g
     | _=>exact hr2.elim
  | _=>exact hr.elim
end
theorem vj2 {α β:Type} {f:α->β} {l m:List β} (p:l.Perm m):∀ xs:List α,m=xs.map f->∃ ys:List α,ys.Perm xs /\ l=ys.map f:=by
 induction p with
 | nil=>intro xs e; cases xs with
  | nil=>exact ⟨[],.nil,rfl⟩
  | cons _ _=>cases e
 | cons a _ ih =>
  intro xs e;cases xs with
  | nil=>cases e
  | cons x xs =>
   rw [map_cons] at e;injection e with e1 e2
   obtain ⟨ys,p,q⟩:=ih xs e2;exact ⟨x :: ys,p.cons x,by rw [map_cons,e1,q]⟩
 | swap a b l =>
  intro xs e
  match xs,e with
  | x :: y :: xs,e =>
   simp only [map_cons,List.cons.injEq] at e;obtain ⟨e1,e2,e3⟩:=e;exact ⟨y :: x :: xs,.swap x y xs,by rw [map_cons,map_cons,e1,e2,e3]⟩
 | trans _ _ i1 i2 =>
  intro xs e;obtain ⟨ys,p,q⟩:=i2 xs e;obtain ⟨zs,p',q'⟩:=i1 ys q;exact ⟨zs,p'.trans p,q'⟩
theorem um1 {α:Type}:∀ {l:List α} {i:Nat} (h:i < l.length),(l[i] :: l.eraseIdx i).Perm l
 | x :: l,0,_=>List.Perm.refl _
 | x :: l,i + 1,h=>(List.Perm.swap _ _ _).trans ((um1 (l:=l) (i:=i) (by simpa using h)).cons x)
theorem wx1 {α:Type} (next:Nat->Nat):∀ (fuel k:Nat) (left:List α) (out:Array α),left.length<=fuel->(pickOrder.go next fuel k left out).toList.Perm (out.toList ++ left)
 | 0,k,left,out,h=>by
  have:left=[]:=List.length_eq_zero_iff.mp [1];subst this;unfold pickOrder.go;rw [append_nil]
 | fuel + 1,k,left,out,h=>by
  unfold pickOrder.go;by_cases c:left=[]
  ·subst c;simp
  ·have lt:next k % left.length < left.length:=Nat.mod_lt _ (List.length_pos_iff.mpr c)
   rw [getElem?_eq_getElem lt];dsimp only;refine (wx1 next fuel (k + 1) _ _ (by rw [List.length_eraseIdx_of_lt lt]; omega)).trans ?_;rw [toList_push,append_assoc];refine List.Perm.append_left _ ?_;exact um1 lt
theorem zx1 {α:Type} (next:Nat->Nat) (xs:Array α):(pickOrder next xs).toList.Perm xs.toList:=by
 have:=wx1 next xs.size 0 xs.toList #[] [20]
 simpa [pickOrder] using this
theorem xb4 {xs:Array Nat} (h:Rise xs):SetTable.below xs 0=0:=by
 by_cases c:SetTable.below xs 0=0
 ·exact c
 ·have hl:=sk0 h 0;have hz:0 < xs.size:=by omega
  have q:xs[0]?=some xs[0]:=Array.getElem?_eq_getElem hz;have:=(xj0 h 0 q).mp [1];omega
theorem sa4 {xs:Array Nat} (h:Rise xs) {i j:Nat} (q:xs[i]?=some j):SetTable.below xs (j + 1)=i + 1:=by
 have h1:=(xj0 h (j + 1) q).mpr [1];have hl:=sk0 h (j + 1);by_cases c:i + 1 < SetTable.below xs (j + 1)
 ·have hz:i + 1 < xs.size:=by omega
  have q2:xs[i + 1]?=some xs[i + 1]:=Array.getElem?_eq_getElem hz;have a:=(xj0 h (j + 1) q2).mp c;have b:=yl0 h q q2 [1];omega
 ·omega
theorem yy1:Manifest.owners.lookup (String.ofList "set_iterator".toList.reverse.reverse)=some Manifest.sig_set_iterator:=by kernel_rfl
theorem slot_sit:Slot "set_iterator" "__next__" "set_iterator.__next__" := by
 refine .of (owner := "set_iterator") (n := "__next__") ?_ ?_ ?_ ?_ ?_ ?_
 ·rw [typeLookup_type,builtinLookup_eq_fast]; kernel_rfl
 ·decide +kernel
 ·decide +kernel
 ·decide +kernel
 ·first | exact .inl [12] | exact .inr [12]
 ·rw [isSubtype_type]; kernel_rfl
theorem yj1:Slot "set_iterator" "__iter__" "set_iterator.__iter__" := by
 refine .of (owner := "set_iterator") (n := "__iter__") ?_ ?_ ?_ ?_ ?_ ?_
 ·rw [typeLookup_type,builtinLookup_eq_fast]; kernel_rfl
 ·decide +kernel
 ·decide +kernel
 ·decide +kernel
 ·first | exact .inl [12] | exact .inr [12]
 ·rw [isSubtype_type]; kernel_rfl
theorem td1:entryFor table "set_iterator.__next__" = some Builtin.«set_iterator.__next__» := by exact entryFor_of_tree (by kernel_rfl)
theorem yc2:entryFor table "set_iterator.__iter__" = some Builtin.«dict_keyiterator.__iter__» := by refine entryFor_alias (id' := "dict_keyiterator.__iter__") (by kernel_rfl) ?_ [12] (by kernel_rfl); first | rfl | decide +kernel | (unfold String.splitOn; simp +decide [String.splitOnAux])
theorem yn1 (a:Value):argsOk "set_iterator.__next__" ⟨[a],[]⟩:=by
 unfold argsOk;rw [signature?_of (id := "set_iterator.__next__") (n := "__next__".toList.reverse) (o := "set_iterator".toList.reverse) (by kernel_rfl) yy1]
 kernel_rfl
theorem tn2 (a:Value):argsOk "set_iterator.__iter__" ⟨[a],[]⟩:=by
 unfold argsOk;rw [signature?_of (id := "set_iterator.__iter__") (n := "__iter__".toList.reverse) (o := "set_iterator".toList.reverse) (by kernel_rfl) yy1]
 kernel_rfl
theorem tr1:entryFor table "set.__iter__" = some Builtin.«frozenset.__iter__» := by exact entryFor_alias (id' := "frozenset.__iter__") (by kernel_rfl) rfl [12] (by kernel_rfl)
def SIt (h:Heap) (it a:Addr) (sl i n ep:Nat):Prop:=∃ o,h.get? it=some o /\ o.cls=.type "set_iterator" /\ o.data=.fields #[rawInt sl,rawInt i,.ref a,rawInt n,rawInt ep]
theorem SIt.keep {h h':Heap} {it a:Addr} {sl i n ep:Nat} (x:SIt h it a sl i n ep) (k:∀ o,h.get? it=some o->h'.get? it=some o):SIt h' it a sl i n ep:=by
 obtain ⟨o,e1,e2⟩:=x;exact ⟨o,k o e1,e2⟩
theorem SIt.ty {s:[39]} {it a:Addr} {sl i n ep:Nat} (x:SIt s.heap it a sl i n ep):s.TypeIs (.ref it) "set_iterator" := by
 obtain ⟨o,e1,e2,_⟩:=x;exact ⟨o,e1,e2⟩
theorem sb2 {h:Heap} {it:Addr} {o:Obj} {vs:Array Value} {c:Value} (e1:h.get? it=some o) (e2:o.cls=c) (e3:o.data=.fields vs) (j:Nat) (x:Value) :
    ∃ o',(h.update it (Obj.mapFields (·.setIfInBounds j x))).get? it=some o' /\ o'.cls=c /\ o'.data=.fields (vs.setIfInBounds j x) :=
 ⟨_,Heap.get?_update_self _ e1 (Obj.isFreed_of_fields (Obj.data_mapFields e3 _)),(Obj.cls_mapFields ..).trans e2,Obj.data_mapFields e3 _⟩
structure SObj (prog:Program) (w:World) (h:Heap) (a:Addr) (o:Obj) (es:Array (Int × Value)) (ep:Nat) (t:SetTable):Prop where
 ho:h.get? a=some o
 ex:o.ExactSet
 hd:o.data=.set es ep t
 fits:t.fits es.size=true
 ris:Rise t.place
 sz:t.place.size=es.size
 pl:t.plain=true
 le:t.led = !bT prog w
theorem SObj.keep {prog:Program} {w:World} {h h':Heap} {a:Addr} {o:Obj} {es:Array (Int × Value)} {ep:Nat} {t:SetTable} (S:SObj prog w h a o es ep t) (k:∀ o,h.get? a=some o->h'.get? a=some o):SObj prog w h' a o es ep t :=
 ⟨k o S.ho,S.ex,S.hd,S.fits,S.ris,S.sz,S.pl,S.le⟩
theorem SetIs.obj {prog:Program} {w:World} {hf:T3->Int} {h:Heap} {a:Addr} {o:Obj} {es:Array (Int × Value)} {ep:Nat} {t:SetTable} {xs:List (T3 × Addr)} (S:SetIs prog w hf h a o es ep t xs):SObj prog w h a o es ep t :=
 ⟨S.ho,S.ex,S.hd,S.fits,S.ok.ris,by have h1:=S.ok.sz; have h2:=S.size; rw [length_map] at h1; omega,S.pl,S.le⟩
section
variable {prog:Program} {w:World} {A:Around} {E:[4]} {s:[39]} {a it:Addr} {o:Obj} {es:Array (Int × Value)} {ep:Nat} {t:SetTable}
theorem wh2 {Q:[4]} (S:SObj prog w s.heap a o es ep t)
    (q:Q (.ref s.heap.objs.size) { s with heap:=s.heap.push { cls:=.type "set_iterator",data:=.fields #[rawInt (0:Nat),rawInt (0:Nat),.ref a,rawInt es.size,rawInt ep] } }):wpAny [5] A (pyIter (.ref a)) Q E s:=by
 have ty:s.TypeIs (.ref a) "set" := ⟨o,S.ho,S.ex.1⟩;refine wpAny_pyIter_slot ty F.slot_set_iter (wpAny_call_entry F.slot_set_iter ty tr1 ?_ (F.args_set_iter_1 _));unfold Builtin.«frozenset.__iter__» Builtin.Frozenset.slot0 slotArgs;simp only [List.isEmpty_nil,Bool.not_true,Bool.false_eq_true,↓reduceIte,bind_assoc,length_nil,bne_self_eq_false];unfold Builtin.Frozenset.addrOf Builtin.Frozenset.sizeOf;refine wpAny_bind [32]
 try dsimp only
 refine wpAny_bind [32];refine wpAny_bind (wpAny_bind (wpAny_setEntries_of S.ho S.hd S.fits [32]))
 have dr:wpAny [5] A.in1 (setDrawn a) (λ b s'=>b=false /\ s'=s) E s:=by
  unfold setDrawn setsByText;refine wpAny_bind (wpAny_setState_of S.ho S.hd S.fits ?_);dsimp only;refine wpAny_bind (wpAny_bind (wpAny_askSetting (wpAny_pure (wpAny_pure ⟨?_,rfl⟩))));show (!_ && (!t.plain && _))=false;rw [S.pl];simp
 refine wpAny_bind (wpAny_mono dr (λ b s' h=>?_) λ _ _ h=>h);obtain ⟨rfl,rfl⟩:=h;simp only [Bool.false_eq_true,if_false];refine wpAny_bind [32];refine wpAny_bind (wpAny_setEpoch_of S.ho S.hd S.fits ?_);refine wpAny_bind (wpAny_newObj_type (wpAny_pure ⟨_,rfl, "set_iterator",_,⟨_,Heap.get?_push_size _ rfl,rfl⟩,slot_sit.lookup,q⟩))
def ordS (prog:Program) (w:World) (a:Addr) (ep:Nat) (es:Array (Int × Value)):Array (Int × Value):=if bT prog w=true then pickOrder ([5].w.params.setOrder a ep) es else es
theorem vk1:(ordS prog w a ep es).toList.Perm es.toList:=by
 unfold ordS;split
 ·exact zx1 _ _
 ·exact List.Perm.refl _
theorem yx0:(ordS prog w a ep es).size=es.size:=by
 have:=(vk1 (prog:=prog) (w:=w) (a:=a) (ep:=ep) (es:=es)).length_eq;simpa using this
theorem ur0 {Q:Option (Value × Nat)->Shared->Prop} (S:SObj prog w s.heap a o es ep t) {sl i:Nat} (hb:bT prog w=false->SetTable.below t.place sl=i)
    (some':∀ e nx,(ordS prog w a ep es)[i]?=some e->(bT prog w=false->SetTable.below t.place nx=i + 1)->Q (some (e.2,nx)) s) (none':(ordS prog w a ep es)[i]?=none->Q none s) :
    wpAny [5] A (setNext a sl i ep) Q E s:=by
 unfold setNext setsByText;refine wpAny_bind (wpAny_setState_of S.ho S.hd S.fits ?_);dsimp only;refine wpAny_bind (wpAny_bind (wpAny_askSetting [32]));unfold ordS at some' none';by_cases c:bT prog w=true
 ·rw [if_pos (show [5].w.params.followText "set-order" = true from c)];rw [if_pos c] at some' none';rw [if_neg [20]];refine wpAny_bind ?_;unfold setWalk setsByText;refine wpAny_bind (wpAny_setState_of S.ho S.hd S.fits ?_);dsimp only;refine wpAny_bind (wpAny_bind (wpAny_askSetting [32]));rw [if_pos (show [5].w.params.followText "set-order" = true from c)];refine wpAny_bind (wpAny_askSetting (wpAny_pure [32]));show Q (Option.map _ (pickOrder ([5].w.params.setOrder a ep) es)[i]?) s;cases e:(pickOrder ([5].w.params.setOrder a ep) es)[i]? with
  | none=>exact none' e
  | some v=>exact some' v sl e (λ z=>by rw [c] at z; cases z)
 ·have cf:bT prog w=false:=by simpa using c
  rw [if_neg (show ¬ [5].w.params.followText "set-order" = true from c)];rw [if_neg c] at some' none';split
  ·next dr =>
   have:(!t.plain && decide (es.size > 1))=true:=dr;rw [S.pl] at this;cases this
  ·refine wpAny_bind ?_;show wpAny _ _ (ite (_=true) _ (pure PUnit.unit)) _ _ _;rw [if_neg (by rw [S.le,cf]; simp)];refine wpAny_pure [32];rw [hb cf];cases e:es[i]? with
   | none=>exact none' e
   | some v =>
    have hlt:i < t.place.size:=by
     have h1:=S.sz;have:=(Array.getElem?_eq_some_iff.mp e).1;omega
    have q:t.place[i]?=some t.place[i]:=Array.getElem?_eq_getElem hlt;rw [q];exact some' v _ e (λ _=>sa4 S.ris q)
theorem zh2 {Q:Option Value->Shared->Prop} (S:SObj prog w s.heap a o es ep t) {sl i:Nat} (hi:SIt s.heap it a sl i es.size ep) (hb:bT prog w=false->SetTable.below t.place sl=i) (lt:i < es.size)
    (q:∀ h' e nx,(ordS prog w a ep es)[i]?=some e->SIt h' it a nx (i + 1) es.size ep->(bT prog w=false->SetTable.below t.place nx=i + 1)->Heap.SameBut it s.heap h'->Q (some e.2) { s with heap:=h' }):wpAny [5] A (pyNext (.ref it)) Q E s:=by
 obtain ⟨oi,a1,a2,a3⟩:=id hi;have ty:=hi.ty;unfold pyNext;refine wpAny_bind (wpAny_attempt (wpAny_callSpecial?_slot (name:=Str.ofString "__next__") ty slot_sit (wpAny_call_entry slot_sit ty td1 ?a (yn1 _))))
 case a =>
  unfold Builtin.«set_iterator.__next__»;refine wpAny_bind (m:=slotArgs "__next__" 0 _) [32];refine wpAny_bind (wpAny_fieldsOf a1 a3 ?_);show wpAny _ _ (setEntries a >>= _) _ _ s;refine wpAny_bind (wpAny_setEntries_of S.ho S.hd S.fits ?_);rw [if_neg [20]];show wpAny _ _ (setNext a sl i ep >>= _) _ _ s;refine wpAny_bind (ur0 S hb (λ e nx e1 e2=>?_) λ e=>?_)
  ·show wpAny _ _ (setField (.ref it) 0 (rawInt nx) >>= _) _ _ s;refine wpAny_bind (wpAny_setField a1 a3 [20] ?_);obtain ⟨o1,b1,b2,b3⟩:=sb2 a1 a2 a3 0 (rawInt nx);show wpAny _ _ (setField (.ref it) 1 (rawInt ((i:Int) + 1)) >>= _) _ _ _;refine wpAny_bind (wpAny_setField b1 b3 [20] ?_);obtain ⟨o2,c1,c2,c3⟩:=sb2 b1 b2 b3 1 (rawInt ((i:Int) + 1));show wpAny _ _ (ret e.2) _ _ _;exact wpAny_pure ⟨_,rfl,wpAny_pure (q _ e nx e1 ⟨o2,c1,c2,c3⟩ e2 ((Heap.SameBut.update ..).trans (Heap.SameBut.update ..)))⟩
  ·rw [Array.getElem?_eq_getElem (by rw [yx0]; exact lt)] at e;cases e
theorem uu2 {Q:Option Value->Shared->Prop} (hh:A.handled=none) (S:SObj prog w s.heap a o es ep t) {sl:Nat} (hi:SIt s.heap it a sl es.size es.size ep) (hb:bT prog w=false->SetTable.below t.place sl=es.size)
    (q:∀ h',Heap.ExtBut it s.heap h'->Q none { s with heap:=h' }):wpAny [5] A (pyNext (.ref it)) Q E s:=by
 obtain ⟨oi,a1,a2,a3⟩:=id hi;have ty:=hi.ty;unfold pyNext;refine wpAny_bind (wpAny_attempt (wpAny_callSpecial?_slot (name:=Str.ofString "__next__") ty slot_sit (wpAny_call_entry slot_sit ty td1 ?a (yn1 _))))
 case a =>
  unfold Builtin.«set_iterator.__next__»;refine wpAny_bind (m:=slotArgs "__next__" 0 _) [32];refine wpAny_bind (wpAny_fieldsOf a1 a3 ?_);show wpAny _ _ (setEntries a >>= _) _ _ s;refine wpAny_bind (wpAny_setEntries_of S.ho S.hd S.fits ?_);rw [if_neg [20]];show wpAny _ _ (setNext a sl es.size ep >>= _) _ _ s;refine wpAny_bind (ur0 S hb (λ e nx e1 e2=>?_) λ e=>?_)
  ·rw [getElem?_eq_none (by rw [yx0]; exact Nat.le_refl _)] at e1;cases e1
  ·show wpAny _ _ (setField (.ref it) 2 .none >>= _) _ _ s; refine wpAny_bind (wpAny_setField a1 a3 [20] ?_);show wpAny _ _ (newExc (.type "StopIteration") [] >>= _) _ _ _; refine wpAny_bind ?_; simp only [newExc,newTuple];refine wpAny_bind (wpAny_newObj_type (wpAny_bind (m:=firstArgMember _ _) (wpAny_of_eq (a:=Value.none) (by first | rfl | (simp only [firstArgMember]; rfl)) (wpAny_newObj_type ?_ (by size_fits)))) (by size_fits));simp only [raiseNew]; refine wpAny_bind (wpAny_handled ?_); rw [show A.in1.handled=none from hh];refine wpAny_bind (wpAny_pure (wpAny_throw ?_)); refine wpAny_bind (wpAny_isInstance (T := "StopIteration") (b:=true) ⟨_,Heap.get?_push_size _ rfl,rfl⟩ isSubtype_stop ?_);exact wpAny_pure (q _ (((Heap.SameBut.update ..).extBut.push _).push _))
theorem yh2 {Q:[4]} {sl i n:Nat} (hi:SIt s.heap it a sl i n ep) (h:Q (.ref it) s):wpAny [5] A (pyIter (.ref it)) Q E s:=by
 have ty:=hi.ty;refine wpAny_pyIter_slot ty yj1 (wpAny_call_entry yj1 ty yc2 ?_ (tn2 _));show wpAny _ _ (ret (.ref it)) _ _ s;exact wpAny_pure ⟨_,rfl, "set_iterator",_,ty,slot_sit.lookup,h⟩
theorem ul2 {Q:Bool->Shared->Prop} (ty:s.TypeIs (.ref a) "set") (h:Q false s):wpAny [5] A (Builtin.List.listLengthHint (.ref a)) Q E s:=by
 unfold Builtin.List.listLengthHint;refine wpAny_bind (wpAny_specialOf ty PySem.F.slot_set_len.lookup ?_); generalize hid:("set.__len__" : String)=id0; wp_delta;rw [show splitId id0=some ("set", "__len__") from by subst hid; decide +kernel]; subst hid;refine wpAny_bind (wpAny_isInstance (T := "set") (b:=true) ty (by rw [isSubtype_type]; kernel_rfl) ?_);refine wpAny_ite_split (λ c=>absurd c [9]) (λ _=>?_); refine wpAny_ite_split (λ _=>?_) (λ c=>absurd [12] c);exact wpAny_bind (wpAny_typeOf ty (wpAny_pure h))
theorem uu1 (hh:A.handled=none) (I a:Addr) (ne:a ≠ I):Walks prog w A I [I,a] [I] es.size (λ i v=>∃ e,(ordS prog w a ep es)[i]?=some e /\ v=e.2)
    (λ i h=>∃ sl,SIt h I a sl i es.size ep /\ (bT prog w=false->SetTable.below t.place sl=i) /\ SObj prog w h a o es ep t) where
 sub:=λ b hb=>by simp at hb; simp [hb]
 frame:=λ _ _ _ z hk=>by
  obtain ⟨sl,z1,z2,z3⟩:=z;exact ⟨sl,z1.keep λ o e=>hk I [20] o e,z2,z3.keep λ o e=>hk a [20] o e⟩
 item:=λ i s Q E hi z q=>by
  obtain ⟨sl,z1,z2,z3⟩:=z;refine zh2 z3 z1 z2 hi λ h' e nx a1 a2 a3 a4=>?_;exact q _ h' s.toks ⟨e,a1,rfl⟩ ⟨nx,a2,a3,z3.keep λ o e=>a4.extBut a o ne e⟩ λ b o hb e=>a4.extBut b o (λ y=>hb (by simp [y])) e
 done:=λ s Q E z q=>by
  obtain ⟨sl,z1,z2,z3⟩:=z;exact uu2 hh z3 z1 z2 λ h' k=>q h' s.toks λ b o hb e=>k b o (λ y=>hb (by simp [y])) e
 self:=λ _ _ _ _ z q=>by
  obtain ⟨sl,z1,_⟩:=z;exact yh2 z1 q
theorem tu2:KdlSrc prog w "set" a a es.size (λ i v=>∃ e,(ordS prog w a ep es)[i]?=some e /\ v=e.2) (λ h=>SObj prog w h a o es ep t) where
 type:=λ _ x=>⟨o,x.ho,x.ex.1⟩
 there:=λ _ x=>⟨Heap.lt_size x.ho,Heap.lt_size x.ho⟩
 keep:=λ _ _ x k=>x.keep λ o e=>k a (.inl rfl) o e
 notList:=by decide
 notTuple:=by decide
 hint:=λ _ _ _ _ x q=>ul2 ⟨o,x.ho,x.ex.1⟩ q
 iter:=λ _ s hh x=>by
  have hl:=Heap.lt_size x.ho;exact ⟨_,_,(λ _ _ q=>wh2 x q),uu1 hh _ a (Nat.ne_of_lt hl),⟨0,⟨_,Heap.get?_push_size _ rfl,rfl,rfl⟩,(λ _=>xb4 x.ris),x.keep λ o e=>Heap.get?_push_of_some _ e⟩⟩
theorem ya2 {acc:Array Value} (h:ItemsOf (λ i v=>∃ e,(ordS prog w a ep es)[i]?=some e /\ v=e.2) acc es.size):acc.toList=(ordS prog w a ep es).toList.map (·.2):=by
 obtain ⟨h1,h2⟩:=h;have h3:=yx0 (prog:=prog) (w:=w) (a:=a) (ep:=ep) (es:=es);apply ext_getElem?;intro i;rw [getElem?_map,getElem?_toList,getElem?_toList];by_cases c:i < es.size
 ·obtain ⟨e,e1,e2⟩:=h2 i (acc[i]'(by omega)) [20];rw [e1,Array.getElem?_eq_getElem [1],e2];rfl
 ·rw [getElem?_eq_none [1],getElem?_eq_none [1]];rfl
theorem uo2:∀ {h:Heap} {ys:List (T3 × Addr)},(∀ x ∈ ys,TK prog w h x.1 x.2)->T3s h (ys.map λ x=>Value.ref x.2) (ys.map (·.1))
 | _,[],_=>trivial
 | _,x :: ys,k=>⟨(k x (mem_cons_self ..)).t3,uo2 λ y hy=>k y (mem_cons_of_mem _ hy)⟩
theorem tn1 {xs:List (T3 × Addr)} {hf:T3->Int} {Q:[4]} (hh:A.handled=none) (S:SetG prog w hf s.heap a xs) (h64:xs.length < 512)
    (h:∀ (ys:List (T3 × Addr)) (p:Array Nat) (h1 h':Heap) (c tk:Nat),ys.Perm xs->p.Perm (List.toArray (List.range ys.length))->Ms.Up (ltI (ys.map (·.1))) p ys.length->(∀ b o,s.heap.get? b=some o->h1.get? b=some o)->(∀ b o,h1.get? b=some o->h'.get? b=some o) ->
     h'.get? h1.objs.size=some (seqObj "list" (outV (ys.map λ x=>Value.ref x.2) p).toArray c)->Q (.ref h1.objs.size) { s with heap:=h',toks:=tk }) :
    wpAny [5] A (call (.builtin "sorted") [.ref a]) Q E s:=by
 obtain ⟨o,es,ep,t,S,_⟩:=S;have zs:=S.size;have hz:es.size<=sizeLine:=by rw [sizeLine_eq]; omega
 obtain ⟨ys,py,ey⟩:=vj2 (f:=ent hf) (vk1 (prog:=prog) (w:=w) (a:=a) (ep:=ep) (es:=es)) xs S.el;refine Calls.call_function_entry kind_sorted plain_sorted entry_sorted (args_sorted1 _) ?_;unfold Builtin.«sorted»;refine wpAny_bind (m:=checkCount "sorted" 1 1 _) (wpAny_pure (wpAny_bind (kdu_collect (tu2 (o:=o) (t:=t)) hh S.obj hz λ h1 tk acc k1 ia=>?_)));rw [ya2 ia,ey,map_map,show ((λ x:Int × Value=>x.2) ∘ ent hf)=(λ x:T3 × Addr=>Value.ref x.2) from rfl];have l0:=py.length_eq;have l1:(ys.map λ x=>Value.ref x.2).length=ys.length:=length_map _;refine wpAny_bind (wpAny_newList ?_ (by rw [l1,l0,<- zs]; exact hz));have k2:∀ b o,s.heap.get? b=some o->(h1.push (seqObj "list" (ys.map λ x=>Value.ref x.2).toArray 0)).get? b=some o:=λ b o q=>Heap.get?_push_of_some _ (k1 b o q);have zo:(h1.push (seqObj "list" (ys.map λ x=>Value.ref x.2).toArray 0)).get? h1.objs.size=some (seqObj "list" (ys.map λ x=>Value.ref x.2).toArray 0):=Heap.get?_push_size _ rfl;have tt:=T3s.kept (λ b o e _=>k2 b o e) (uo2 (prog:=prog) (w:=w) (h:=s.heap) (ys:=ys) λ x hx=>S.ks x (py.mem_iff.mp hx));show wpAny _ _ _ _ _ { s with heap:=h1.push (seqObj "list" (ys.map λ x=>Value.ref x.2).toArray 0),toks:=tk };refine wpAny_bind (wpAny_holding (wpAny_call_entry slot_list_sort ⟨_,zo,rfl⟩ entry_list_sort (xl1 (s:={ s with heap:=h1.push (seqObj "list" (ys.map λ x=>Value.ref x.2).toArray 0),toks:=tk }) zo tt (by rw [l1,l0,sizeLine_eq]; omega) λ p h' c a1 a2 a3 a4=>⟨_,rfl,?_⟩) (args_list_sort _)));rw [l1] at a1 a2;exact wpAny_pure ⟨_,rfl,h ys p h1 h' c tk py a1 a2 k1 (λ b o q=>a3 b o (Nat.ne_of_lt (Heap.lt_size q)) (Heap.get?_push_of_some _ q)) a4⟩
end
abbrev vT (t:T3):List V:=[.int t.1,.int t.2.1,.int t.2.2]
def SB (ts:List T3):Prop:=∀ l:List T3,l.Nodup->(∀ x ∈ l,x ∈ ts)->l.length < 511
abbrev TSt:=L2.St->Hp->(List (T3 × Addr)->Hp->Prop)->Prop
def SE (X:Cx) (pins:[8]) (σ:L2.St) (R:List (T3 × Addr)->Hp->Prop) (u:Value) (s':[39]):Prop :=
 ∃ a xs H',u=.ref a /\ Inv X pins σ H' s' /\ FpOk X pins H' a /\ SetG X.prog X.w (hT X.prog X.w) s'.heap a xs /\ (∀ x ∈ xs,H' x.2=some (.tup (vT x.1))) /\ xs.length < 511 /\ R xs H'
def PSt (X:Cx) (e:Expr) (t:TSt):Prop :=
 ∀ (pins:[8]) (s:[39]) (σ:L2.St) (H:Hp) (R:List (T3 × Addr)->Hp->Prop),Inv X pins σ H s->t σ H R->wpAny [10] X.A (eval e X.env) (SE X pins σ R) X.xe s
theorem xp2 {prog:Program} {w:World} {h:Heap}:∀ {us:[22]} {ts:List T3} {i:Nat} {v:Value},T3s h us ts->us[i]?=some v->i < ts.length /\ ∃ b,v=.ref b /\ TK prog w h (ts.getD i (0,0,0)) b
 | [],[],i,v,_,e=>by simp at e
 | [],_ :: _,_,_,z,_=>z.elim
 | _ :: _,[],_,_,z,_=>z.elim
 | u :: us,t :: ts,0,v,z,e=>by
  simp only [List.getElem?_cons_zero,Option.some.injEq] at e;subst e;obtain ⟨a,o,t1,t2,t3,n,rfl,e2⟩:=id z.1;exact ⟨by simp,a,rfl,(show TK prog w h t a from IsT3.key z.1)⟩
 | u :: us,t :: ts,i + 1,v,z,e=>by
  simp only [getElem?_cons_succ] at e;obtain ⟨h1,b,h2,h3⟩:=xp2 (prog:=prog) (w:=w) z.2 e;exact ⟨by simp only [length_cons]; omega,b,h2,h3⟩
theorem wo2 {K:Fg} {H:Hp}:∀ {vs:List V} {ts:List T3} {us:[22]} {i:Nat} {b:Addr},V3s K H vs ts->Vals vs us->us[i]?=some (.ref b)->H b=some (.tup (vT (ts.getD i (0,0,0))))
 | [],[],_,i,b,_,.nil,e=>by simp at e
 | [],_ :: _,_,_,_,z,_,_=>z.elim
 | _ :: _,[],_,_,_,z,_,_=>z.elim
 | v :: vs,t :: ts,_,0,b,z,.cons r rs,e=>by
  simp only [List.getElem?_cons_zero,Option.some.injEq] at e;subst e;obtain ⟨⟨a,rfl,hq⟩,_⟩:=z;cases r;exact hq
 | v :: vs,t :: ts,_,i + 1,b,z,.cons r rs,e=>by
  simp only [getElem?_cons_succ] at e;exact (show H b=some (.tup (vT (ts.getD i (0,0,0)))) from wo2 z.2 rs e)
section
variable {X:Cx} {e:Expr} {p p2 pos pos2:Pos}
def tb4 (K:Fg) (ta:TA):TSt:=λ σ H R=>ta σ H λ xs H1=>∃ p vs ts,xs=[.ref p] /\ SqL K H1 p vs /\ V3s K H1 vs ts /\ SB ts ∧
 ∀ ys:List (T3 × Addr),(ys.map (·.1)).Nodup->(∀ t,t ∈ ys.map (·.1) ↔ t ∈ ts)->(∀ y ∈ ys,H1 y.2=some (.tup (vT y.1)))->R ys H1
theorem va3 {items:[22]} {ts:List T3} {ys:List (T3 × Addr)} {Pr:Nat->Value->Prop} (hl:items.length=ts.length) (g:Got Pr (λ i=>ts.getD i (0,0,0)) items.length ys) (t:T3):t ∈ ys.map (·.1) ↔ t ∈ ts:=by
 constructor
 ·intro h;obtain ⟨y,hy,rfl⟩:=List.mem_map.mp h;obtain ⟨j,h1,_,h2⟩:=g.1 y hy;have h2:ts.getD j (0,0,0)=y.1:=h2;rw [<- h2,getD_eq_getElem?_getD,getElem?_eq_getElem [1]];exact getElem_mem _
 ·intro h;obtain ⟨j,hj,e⟩:=List.getElem_of_mem h;have:ts.getD j (0,0,0) ∈ _:=g.2 j [1]
  rwa [getD_eq_getElem?_getD,getElem?_eq_getElem hj,Option.getD_some,e] at this
theorem xx1 {ta:TA} (hc:X.calm=true) (hu:X.A.units + 64 < cLine) (hg:Gl X "set") (hm:X.mg "set" = none) (ha:PA X [e] ta) (hs:starEach [e] X.env=[[29]]:=by rfl) :
    PSt X (.Call (.Name "set" p) [e] [] pos) (tb4 X.K ta):=by
 intro pins s σ H R I h;refine Call_ (wp0 I hg hm ta4 (PyProof.Rows.callWith_type1 (thn (ha pos pins s σ H _ I h) λ us s1 ⟨vs,H1,I1,r1,q1⟩=>?_) hs rfl));obtain ⟨a,ws,ts,e1,hq,h3,hB,k⟩:=q1;subst e1;cases r1 with
 | cons r rr =>
  cases rr;cases r
  have key:∀ {its:[22]},Vals ws its->(∀ l:List T3,l.Nodup->(∀ x ∈ l,∃ j,j < its.toArray.size /\ ts.getD j (0,0,0)=x)->l.length < 511) ∧
      (∀ i v,i < its.toArray.size->its.toArray[i]?=some v->∃ b,v=.ref b /\ TK X.prog X.w s1.heap (ts.getD i (0,0,0)) b) ∧
      ∀ (h':Heap) (tk:Nat) xs,KpH s1.heap h'->SetG X.prog X.w (hT X.prog X.w) h' s1.heap.objs.size xs->Got (λ i v=>its.toArray[i]?=some v) (λ i=>ts.getD i (0,0,0)) its.toArray.size xs->SE X pins σ R (.ref s1.heap.objs.size) { s1 with heap:=h',toks:=tk }:=λ {its} rv=>by
   have l1:=h3.len;have l2:=rv.length;have l3:its.toArray.size=its.length:=size_toArray
   have B:∀ l:List T3,l.Nodup->(∀ x ∈ l,∃ j,j < its.toArray.size /\ ts.getD j (0,0,0)=x)->l.length < 511:=λ l nd hl=>hB l nd λ x hx=>by
    obtain ⟨j,h1,h2⟩:=hl x hx;rw [<- h2,getD_eq_getElem?_getD,getElem?_eq_getElem [1]];exact getElem_mem _
   refine ⟨B,λ i v lt e=>(xp2 (zt0 I1 h3 rv) (by simpa using e)).2,λ h' tk xs kp sg g=>?_⟩;have sq:∀ x ∈ xs,H1 x.2=some (.tup (vT x.1)):=λ x hx=>?_
   ·exact ⟨_,xs,H1,rfl,I1.kept kp,I1.fpOk [26] (I1.hok.fresh [26]),sg,sq,g.len [26] sg.nd B,k xs sg.nd (va3 (items:=its) [1] (by rw [<- l3]; exact g)) sq⟩
   obtain ⟨j,_,h2,h3'⟩:=g.1 x hx;have h3':ts.getD j (0,0,0)=x.1:=h3';have:=wo2 h3 rv (i:=j) (b:=x.2) (by simpa using h2)
   rwa [h3'] at this
  obtain ⟨its,rv,pl,hz⟩:=I1.list hq;obtain ⟨k1,k2,k3⟩:=key rv;exact sv0 (I1.ok.hd hc) [1] pl.isList k2 k1 k3
def ub4 (K:Fg) (ts:TSt):TE:=λ σ H Q=>ts σ H λ xs H1=>∀ (ys:List (T3 × Addr)),ys.Perm xs->∀ q:Array Nat,q.Perm (List.toArray (List.range ys.length))->Ms.Up (ltI (ys.map (·.1))) q ys.length->V3s K H1 (ys.map λ x=>V.ref x.2) (ys.map (·.1)) ->
 ∀ r,H1 r=none->Q (.ref r) (upd H1 r (.lst (q.toList.map λ i=>(ys.map λ x=>V.ref x.2).getD i .non)))
theorem zo2 {K:Fg} {H:Hp}:∀ {ys:List (T3 × Addr)},(∀ x ∈ ys,H x.2=some (.tup (vT x.1)))->V3s K H (ys.map λ x=>V.ref x.2) (ys.map (·.1))
 | [],_=>trivial
 | y :: ys,h=>⟨⟨_,rfl,h y (mem_cons_self ..)⟩,zo2 λ x hx=>h x (mem_cons_of_mem _ hx)⟩
theorem vs1:∀ (ys:List (T3 × Addr)),Vals (ys.map λ x=>V.ref x.2) (ys.map λ x=>Value.ref x.2)
 | []=>.nil
 | y :: ys=>.cons rfl (vs1 ys)
theorem xy2 {ts:TSt} (hc:X.calm=true) (hg:Gl X "sorted") (hm:X.mg "sorted" = none) (hp:PSt X e ts) (hs:starEach [e] X.env=[[29]]:=by rfl):PE X (.Call (.Name "sorted" p) [e] [] pos) (ub4 X.K ts):=by
 intro pins s σ H Q I h;refine Call_ (wp0 I hg hm uk0 (PyProof.Rows.callWith_builtin1 ?_ hs rfl));rw [hs];show wpAny _ _ (spliced ([29] :: backTo pos (starEach [] X.env))) _ _ s;refine Calls.spliced_cons ?_;refine thn (hp pins s σ H _ I h) λ u s1 q=>?_;obtain ⟨a,xs,H1,rfl,I1,fp,sg,sq,ln,k⟩:=q;refine Calls.spliced_nil ?_;refine tn1 (I1.ok.hd hc) sg [1] λ ys q h1 h' c tk py a1 a2 a3 a4 a5=>?_;have I2:Inv X pins σ H1 { s1 with heap:=h1,toks:=tk }:=I1.kept a3;have sz:q.toList.length=ys.length:=by have:=a1.size_eq; simpa using this
 have l0:=py.length_eq
 have lt':∀ i ∈ q.toList,i < (ys.map λ x=>V.ref x.2).length:=λ i hi=>by
  have e:i ∈ List.toArray (List.range ys.length):=a1.mem_iff.mp (by simpa using hi);rw [length_map];simpa using e
 refine ⟨.ref _,_,I2.laid (t':=tk) a4 [26] (show ObjOk X.prog X.w _ h' _ (.lst (q.toList.map λ i=>(ys.map λ x=>V.ref x.2).getD i .non)) from ⟨by rw [length_map,sz,sizeLine_eq]; omega,_,c,xk0 (vs1 ys) _ lt',a5⟩),rfl,?_⟩;exact k ys py q a1 a2 (zo2 λ x hx=>sq x (py.mem_iff.mp hx)) _ (I2.hok.fresh [26])
end
abbrev TSt3:=St3->Mu->(List T3->Mu->Prop)->Prop
def RdSt (K:Fg) (tv:TSt) (t:TSt3):Prop:=∀ σ H R ρ μ R3,RSt K H ρ σ->RelM K μ H->t ρ μ R3->(∀ xs μ' H',R3 (xs.map (·.1)) μ'->(xs.map (·.1)).Nodup->(∀ x ∈ xs,H' x.2=some (.tup (vT x.1)))->Kp H H'->RelM K μ' H'->R xs H')->tv σ H R
def REs (X:Cx) (e:Expr) (t:TSt3):Prop:=∃ tv,PSt X e tv /\ RdSt X.K tv t
def vj3 (t:TA3):TSt3:=λ ρ μ R=>t ρ μ λ ds μ1=>∃ ts,(match ds with
 | [.ref p]=>μ1 p=some (.lst [38])
 | _=>False) /\ SB ts /\ ∀ ks:List T3,ks.Nodup->(∀ x,x ∈ ks ↔ x ∈ ts)->R ks μ1
def uj3 (t:TSt3):TE3:=λ ρ μ Q=>t ρ μ λ ks μ1=>∀ us:List T3,us.Perm ks->us.Pairwise le3->∀ r,μ1 r=none->Q (.ref r) (updM μ1 r (.lst (us.map encT)))
section
variable {X:Cx} {e:Expr} {p p2 pos pos2:Pos} {t:TE3}
theorem vv2 (he:RE X e t) (hm:X.mg "set" = none) (hu:X.A.units + 64 < cLine) (hc:X.calm=true:=by rfl) (hg:Gl X "set" := by rfl) (hs:starEach [e] X.env=[[29]]:=by rfl):REs X (.Call (.Name "set" p) [e] [] pos) (vj3 (cons3 t nil3)):=by
 obtain ⟨va,pa,ra⟩:=xa0 he ta0 hs;refine ⟨_,xx1 hc hu hg hm pa hs,λ σ H R ρ μ R3 s m h k=>ra σ H _ ρ μ _ s m h λ ds μ1 vs H1 h1 k1 r1 m1=>?_⟩;obtain ⟨ts,hd,hB,q⟩:=h1;cases r1 with
 | nil=>exact hd.elim
 | cons r1 r2 =>
  cases r2 with
  | cons _ _=>cases r1 <;> exact hd.elim
  | nil =>
   cases r1 with
   | ref a =>
    obtain ⟨us,hv,rv⟩:=m1 a _ hd;exact ⟨a,us,ts,rfl,SqL.of hv,yt1 rv,hB,λ ys nd al sq=>k ys μ1 H1 (q _ nd al) nd sq k1 m1⟩
   | _=>exact hd.elim
theorem tv2 {ts:TSt3} (he:REs X e ts) (hm:X.mg "sorted" = none) (hc:X.calm=true:=by rfl) (hg:Gl X "sorted" := by rfl) (hs:starEach [e] X.env=[[29]]:=by rfl):RE X (.Call (.Name "sorted" p) [e] [] pos) (uj3 ts):=by
 obtain ⟨va,pa,ra⟩:=he;refine ⟨_,xy2 hc hg hm pa hs,λ σ H Q ρ μ Q3 s m h k=>ra σ H _ ρ μ _ s m h λ xs μ1 H1 h1 nd1 sq1 k1 m1=>?_⟩;intro ys py q a1 a2 v3 r hr;have l1:(ys.map (·.1)).length=ys.length:=length_map _;rw [<- l1] at a1 a2
 have lt':∀ i ∈ q.toList,i < (ys.map λ x=>V.ref x.2).length:=λ i hi=>by
  have e:i ∈ List.toArray (List.range (ys.map (·.1)).length):=a1.mem_iff.mp (by simpa using hi);rw [length_map] at e ⊢;simpa using e
 exact k _ _ _ _ (h1 _ ((ua1 a1).trans (py.map _)) (vu1 a1 a2) r (m1.free hr)) (k1.trans (Kp.new hr)) (.ref r) (m1.newL hr (zl0 (tj1 v3) _ lt'))
end
def xr0 (μ:Mu):List D->Option (List PyData)
 | []=>some []
 | d :: r=>match datM μ d with
  | some p=>match xr0 μ r with
   | some ps=>some (p :: ps)
   | none=>none
  | none=>none
def datN (μ:Mu):D->Option PyData
 | .ref p=>match μ p with
  | some (.lst l)=>match xr0 μ l with
   | some ps=>some (.list ps)
   | none=>none
  | _=>none
 | _=>none
def eqN (neg:Bool):R3:=λ x y μ Q=>match datN μ x,datN μ y with
 | some p,some q=>(p.depth<=64 /\ q.depth<=64) /\ Q (.bl (if neg then !PyData.eqv p q else PyData.eqv p q)) μ
 | _,_=>False
section
variable {X:Cx} {pins:[8]} {σ:L2.St} {H:Hp} {s:[39]}
theorem xm0 (I:[7]) {μ:Mu} (m:RelM X.K μ H):∀ {l:List D} {vs:List V} {ps:List PyData} {us:[22]},RelDs X.K H l vs->xr0 μ l=some ps->Vals vs us->∃ as,ReadsAll s.heap us ps as
 | _,_,ps,us,.nil,e,r=>by simp only [xr0,Option.some.injEq] at e; subst e; cases r; exact ⟨_,ReadsAll.nil⟩
 | _,_,ps,us,.cons h rs,e,r=>by
  simp only [xr0] at e;split at e
  ·next p e1 =>
   split at e
   ·next qs e2 =>
    simp only [Option.some.injEq] at e; subst e;cases r with
    | cons r1 r2 =>
     obtain ⟨as,q1⟩:=vg0 I m h e1 r1;obtain ⟨bs,q2⟩:=xm0 I m rs e2 r2;exact ⟨_,ReadsAll.cons q1 q2⟩
   ·cases e
  ·cases e
theorem zb1 (I:[7]) {μ:Mu} (m:RelM X.K μ H) {d:D} {v:V} {p:PyData} {u:Value} (h:RelD X.K H d v) (e:datN μ d=some p) (r:RelV v u):∃ as,Reads s.heap u p as:=by
 cases h with
 | ref a =>
  simp only [datN] at e;split at e
  ·next l e0 =>
   split at e
   ·next ps e1 =>
    simp only [Option.some.injEq] at e; subst e;cases r;obtain ⟨vs,hv,rs⟩:=m a l e0;obtain ⟨its,rv,pl,hz⟩:=I.list (SqL.of hv);obtain ⟨o,ho,hc,n,hd⟩:=pl.isList;obtain ⟨as,q⟩:=xm0 I m rs e1 rv;exact ⟨_,Reads.list ho hc hd (by simpa using q)⟩
   ·cases e
  ·cases e
 | _=>simp [datN] at e
theorem ym0 {μ:Mu}:∀ (l:List D) (ps:List PyData),xr0 μ l=some ps->PyData.canLayAll0 ps=true
 | [],ps,e=>by simp only [xr0,Option.some.injEq] at e; subst e; rfl
 | d :: r,ps,e=>by
  simp only [xr0] at e;split at e
  ·next p e1 =>
   split at e
   ·next qs e2 =>
    simp only [Option.some.injEq] at e; subst e;simp only [PyData.canLayAll0,Bool.and_eq_true];exact ⟨wq0 e1,ym0 r qs e2⟩
   ·cases e
  ·cases e
theorem tu1 {μ:Mu} {d:D} {p:PyData} (e:datN μ d=some p) (h:p.depth<=64):PySem.SeqAt.shaped p=true:=by
 unfold PySem.SeqAt.shaped
 have c:p.canLay0=true:=by
  cases d with
  | ref a =>
   simp only [datN] at e;split at e
   ·split at e
    ·next ps e1=>simp only [Option.some.injEq] at e; subst e; simp only [PyData.canLay0]; exact ym0 _ ps e1
    ·cases e
   ·cases e
  | _=>simp [datN] at e
 rw [c,decide_eq_true h]; rfl
def rEqN (K:Fg) (neg:Bool):R2:=λ x y H Q=>∃ d e μ p q,RelM K μ H /\ RelD K H d x /\ RelD K H e y /\ datN μ d=some p /\ datN μ e=some q /\ p.depth<=64 /\ q.depth<=64 /\ Q (.bl (if neg then !PyData.eqv p q else PyData.eqv p q)) H
theorem ww3 (hu:X.A.units + 64 < cLine):OpR X (compareOp .Eq) (rEqN X.K false):=by
 intro pins s σ H x y v u Q I rx ry h;obtain ⟨d,e,μ,p,q,m,rd,re,e1,e2,h1,h2,k⟩:=h;obtain ⟨as,q1⟩:=zb1 I m rd e1 rx;obtain ⟨bs,q2⟩:=zb1 I m re e2 ry;exact eq_dataH q1 q2 (tu1 e1 h1) (tu1 e2 h2) hu ⟨.bl _,H,I,rfl,k⟩
theorem RdO.eqN {K:Fg} {neg:Bool}:RdO K (rEqN K neg) (Pv.eqN neg):=λ x y v u H Q μ Q3 m rx ry h k=>by
 unfold Pv.eqN at h;split at h
 ·next p q e1 e2=>exact ⟨x,y,μ,p,q,m,rx,ry,e1,e2,h.1.1,h.1.2,k _ _ _ _ h.2 (Kp.refl _) (.bl _) m⟩
 ·exact h.elim
theorem ui4 (hu:X.A.units + 64 < cLine):RO X (compareOp .Eq) (eqN false):=⟨_,ww3 hu,RdO.eqN⟩
end
end Pv
namespace Pv
open PySem PySem.Spec PyProof.Rows L2
def keyI:D->Option (List Int)
 | .tup l=>ints? l
 | _=>none
def valL (kvs:[18]) (k:List Int):Option D:=(kvs.find? λ kv=>decide (kv.1=k)).map (·.2)
def putL (kvs:[18]) (k:List Int) (y:D):List (List Int × D):=if (kvs.any λ kv=>decide (kv.1=k))=true then kvs.map (λ kv=>if kv.1=k then (kv.1,y) else kv) else kvs ++ [(k,y)]
def dnl3:TE3:=λ _ μ Q=>∀ p,μ p=none->Q (.ref p) (updM μ p (.dcl []))
def dgR:R3:=λ x y μ Q=>match x,keyI y with
 | .ref p,some k=>match μ p with
  | some (.dcl kvs)=>match valL kvs k with
   | some v=>Q v μ
   | none=>False
  | _=>False
 | _,_=>False
def dinR (neg:Bool):R3:=λ y x μ Q=>match x,keyI y with
 | .ref p,some k=>match μ p with
  | some (.dcl kvs)=>Q (.bl (if neg then !(valL kvs k).isSome else (valL kvs k).isSome)) μ
  | _=>False
 | _,_=>False
def vc2 (to ti tv:TE3):TS3:=λ D' ρ μ=>tv ρ μ λ v μ1=>to ρ μ1 λ x μ2=>ti ρ μ2 λ y μ3=>match x,keyI y with
 | .ref p,some k=>match μ3 p with
  | some (.dcl kvs)=>kvs.length < 90000 /\ D'.nx ρ (updM μ3 p (.dcl (putL kvs k v)))
  | _=>False
 | _,_=>False
theorem Kp.wrD {H:Hp} {p:Addr} {o:HO} {xs:List (List Key × V)} (h:H p=some (.dT xs)):Kp H (upd H p o) :=
 ⟨λ b ys q=>by rw [yc0 (wg1 q h (by intro z; cases z))]; exact q,λ b o u q=>by rw [yc0 (wg1 q h (by intro z; cases z))]; exact q⟩
theorem RelM.newC {K:Fg} {μ:Mu} {H:Hp} {p:Addr} (h:H p=none) (m:RelM K μ H):RelM K (updM μ p (.dcl [])) (upd H p (.dT [])):=by
 have m':=m.newT (o:=.dT []) h;refine ⟨λ q ys e=>?_,λ q c fs e=>?_,λ q kvs e=>?_⟩
 ·by_cases z:q=p
  ·subst z; rw [za0] at e; cases e
  ·rw [xb0 z] at e; exact m'.lst q ys e
 ·by_cases z:q=p
  ·subst z; rw [za0] at e; cases e
  ·rw [xb0 z] at e; exact m'.ins q c fs e
 ·by_cases z:q=p
  ·subst z; rw [za0] at e; cases e; exact ⟨[],sd0,.nil⟩
  ·rw [xb0 z] at e; exact m'.dcl q kvs e
theorem RelM.wrC {K:Fg} {μ:Mu} {H:Hp} {p:Addr} {kvs:[18]} {vs ws:List (List Key × V)} (h:H p=some (.dT ws)) (r:RelKl K H kvs vs) (m:RelM K μ H):RelM K (updM μ p (.dcl kvs)) (upd H p (.dT vs)):=by
 refine ⟨λ q ys e=>?_,λ q c fs e=>?_,λ q ks e=>?_⟩
 ·by_cases z:q=p
  ·subst z; rw [za0] at e; cases e
  ·rw [xb0 z] at e;obtain ⟨us,q1,r1⟩:=m.lst q ys e;exact ⟨us,by rw [yc0 z]; exact q1,r1.mono (Kp.wrD h)⟩
 ·by_cases z:q=p
  ·subst z; rw [za0] at e; cases e
  ·rw [xb0 z] at e;obtain ⟨C,dx,us,n,q1,q2,r1⟩:=m.ins q c fs e;refine ⟨C,dx,us,n,by rw [yc0 z]; exact q1,?_,r1.mono (Kp.wrD h)⟩;rw [yc0]
   ·exact q2
   ·intro y; subst y; rw [h] at q2; cases q2
 ·by_cases z:q=p
  ·subst z; rw [za0] at e; cases e; exact ⟨vs,sd0,r.mono (Kp.wrD h)⟩
  ·rw [xb0 z] at e;obtain ⟨us,q1,r1⟩:=m.dcl q ks e;exact ⟨us,by rw [yc0 z]; exact q1,r1.mono (Kp.wrD h)⟩
theorem vc1:∀ {a b:List Int},kL a=kL b->a=b
 | [],[],_=>rfl
 | [],_ :: _,h=>by cases h
 | _ :: _,[],h=>by cases h
 | x :: a,y :: b,h=>by
  have h':(Sum.inl x:Key) :: kL a=Sum.inl y :: kL b:=h;injection h' with h1 h2
  cases h1;rw [vc1 h2]
theorem RelKl.len {K:Fg} {H:Hp} {l:[18]} {vs:List (List Key × V)} (r:RelKl K H l vs):l.length=vs.length:=by
 induction r with
 | nil=>rfl
 | cons _ _ ih=>rw [length_cons,length_cons,ih]
theorem RelKl.any {K:Fg} {H:Hp} {t:List Int} {l:[18]} {vs:List (List Key × V)} (r:RelKl K H l vs):(vs.any λ kv=>decide (kv.1=kL t))=l.any λ kv=>decide (kv.1=t):=by
 induction r with
 | nil=>rfl
 | cons _ _ ih =>
  rw [any_cons,any_cons,ih];congr 1;rw [decide_eq_decide];exact ⟨vc1,λ h=>congrArg kL h⟩
theorem RelKl.val {K:Fg} {H:Hp} {t:List Int} {l:[18]} {vs:List (List Key × V)} (r:RelKl K H l vs):(valL l t=none /\ valV vs (kL t)=none) \/ ∃ d v,valL l t=some d /\ valV vs (kL t)=some v /\ RelD K H d v:=by
 induction r with
 | nil=>exact .inl ⟨rfl,rfl⟩
 | cons h _ ih =>
  rename_i t' d' v' l' vs' _;by_cases c:t'=t
  ·subst c;exact .inr ⟨d',v',by simp [valL],vm0 rfl,h⟩
  ·have e1:valL ((t',d') :: l') t=valL l' t:=by simp [valL,c]
   rw [e1,um0 (p:=(kL t',v')) (λ z=>c (vc1 z))];exact ih
theorem RelKl.rep {K:Fg} {H:Hp} {t:List Int} {y:D} {v:V} (ry:RelD K H y v) {l:[18]} {vs:List (List Key × V)} (r:RelKl K H l vs):RelKl K H (l.map λ kv=>if kv.1=t then (kv.1,y) else kv) (vs.map λ kv=>if kv.1=kL t then (kv.1,v) else kv):=by
 induction r with
 | nil=>exact .nil
 | cons h _ ih =>
  rename_i t' d' v' l' vs' _;rw [map_cons,map_cons];by_cases c:t'=t
  ·rw [if_pos c,if_pos (by rw [c])]; exact .cons ry ih
  ·rw [if_neg c,if_neg (λ z=>c (vc1 z))]; exact .cons h ih
theorem RelKl.snoc {K:Fg} {H:Hp} {t:List Int} {y:D} {v:V} (ry:RelD K H y v) {l:[18]} {vs:List (List Key × V)} (r:RelKl K H l vs):RelKl K H (l ++ [(t,y)]) (vs ++ [(kL t,v)]):=by
 induction r with
 | nil=>exact .cons ry .nil
 | cons h _ ih=>exact .cons h ih
theorem RelKl.put {K:Fg} {H:Hp} {t:List Int} {y:D} {v:V} (ry:RelD K H y v) {l:[18]} {vs:List (List Key × V)} (r:RelKl K H l vs):RelKl K H (putL l t y) (putK vs (kL t) v):=by
 unfold putL putK;rw [r.any];split
 ·exact r.rep ry
 ·exact r.snoc ry
theorem vl1 {K:Fg} {H:Hp}:∀ {l:List D} {vs:List V} {k:List Int},RelDs K H l vs->ints? l=some k->vs=(kL k).map kV
 | _,_,k,.nil,e=>by simp [ints?] at e; subst e; rfl
 | _,_,k,.cons h r,e=>by
  cases h with
  | int x =>
   simp only [ints?] at e;split at e
   ·next ys e1 =>
    simp only [Option.some.injEq] at e;subst e;rw [vl1 r e1]; rfl
   ·cases e
  | _=>simp [ints?] at e
theorem vl0 {K:Fg} {H:Hp} {y:D} {v:V} {k:List Int} (r:RelD K H y v) (e:keyI y=some k):∃ b,v=.ref b /\ H b=some (.tup ((kL k).map kV)):=by
 cases r with
 | tup hq rs=>exact ⟨_,rfl,by rw [<- vl1 rs e]; exact hq⟩
 | _=>simp [keyI] at e
section
variable {X:Cx} {pos pos':Pos}
theorem zw1:RE X (.Dict [] [] pos) dnl3:=⟨_,tj2,λ σ H Q ρ μ Q3 s m h k p hp=>k _ _ _ _ (h p (m.free hp)) (Kp.new hp) (.ref p) (m.newC hp)⟩
theorem yg4 {o i:Expr} {to ti:TE3} (hu:X.A.units + 64 < cLine) (ho:RE X o to) (hi:RE X i ti) (hs:NoSl i:=by intro _ _; rfl):RE X (.Subscript o i pos) (o3 dgR to ti):=by
 obtain ⟨vo,po,ro⟩:=ho;obtain ⟨vi,pi,ri⟩:=hi;refine ⟨_,zy2 [1] po pi hs,λ σ H Q ρ μ Q3 s m h k=>ro σ H _ ρ μ _ s m h λ x μ1 a H1 h1 k1 r1 m1=>ri σ H1 _ ρ μ1 _ (s.mono k1) m1 h1 λ y μ2 b H2 h2 k2 r2 m2=>?_⟩;unfold dgR at h2;split at h2
 ·next p kk ek =>
  split at h2
  ·next kvs e =>
   split at h2
   ·next v ev =>
    cases r1;obtain ⟨ws,hw,rk⟩:=m2.dcl p kvs e;obtain ⟨b',rfl,hb⟩:=vl0 r2 ek;rcases rk.val (t:=kk) with ⟨z,_⟩ | ⟨d,w,z1,z2,rd⟩
    ·rw [ev] at z; cases z
    ·rw [ev] at z1;cases z1;have g:=DGet.t (k:=kL kk) hw hb;rw [z2] at g;exact ⟨p,w,rfl,g,k _ _ _ _ h2 (k1.trans k2) rd m2⟩
   ·exact h2.elim
  ·exact h2.elim
 ·exact h2.elim
theorem us3 (neg:Bool) (hu:X.A.units + 64 < cLine):RO X (compareOp (if neg then .NotIn else .In)) (dinR neg):=by
 refine ⟨λ y x H Q=>∃ a o,x=.ref a /\ DGet H a y o /\ Q (.bl (if neg then !o.isSome else o.isSome)) H,?_,λ y x b a H Q μ Q3 m ry rx h k=>?_⟩
 ·intro pins s σ H y x u v Q I ry rx h;obtain ⟨a,o,rfl,g,q⟩:=h;cases rx;cases neg with
  | true=>exact xc3 [1] I g ry λ s' I'=>⟨.bl (!o.isSome),H,I',rfl,q⟩
  | false=>exact d_in [1] I g ry λ s' I'=>⟨.bl o.isSome,H,I',rfl,q⟩
 ·unfold dinR at h;split at h
  ·next p kk ek =>
   split at h
   ·next kvs e =>
    cases rx;obtain ⟨ws,hw,rk⟩:=m.dcl p kvs e;obtain ⟨b',rfl,hb⟩:=vl0 ry ek;refine ⟨p,_,rfl,DGet.t (k:=kL kk) hw hb,?_⟩
    have es:(valV ws (kL kk)).isSome=(valL kvs kk).isSome:=by
     rcases rk.val (t:=kk) with ⟨z1,z2⟩ | ⟨d,w,z1,z2,_⟩ <;> rw [z1,z2] <;> rfl
    rw [es];exact k _ _ _ _ h (Kp.refl _) (.bl _) m
   ·exact h.elim
  ·exact h.elim
theorem up2 (hu:X.A.units + 64 < cLine):RO X (compareOp .In) (dinR false):=us3 false hu
theorem uw1 (hu:X.A.units + 64 < cLine):RO X (compareOp .NotIn) (dinR true):=us3 true hu
theorem uf1 {o i value:Expr} {to ti tv:TE3} (hu:X.A.units + 64 < cLine) (ho:RE X o to) (hi:RE X i ti) (hv:RE X value tv) (hs:swapsWith value (some (.Subscript o i pos')) pos.line X.env=pure false:=by rfl) :
    RS X (.Assign [.Subscript o i pos'] value pos) (vc2 to ti tv):=by
 obtain ⟨vo,po,ro⟩:=ho;obtain ⟨vi,pi,ri⟩:=hi;obtain ⟨vv,pv,rv⟩:=hv
 refine ⟨_,vx2 [1] po pi pv hs,λ σ H D ρ μ D3 s m h k=>rv σ H _ ρ μ _ s m h λ y μ1 v H1 h1 k1 r1 m1=>ro σ H1 _ ρ μ1 _ (s.mono k1) m1 h1 λ d μ2 x H2 h2 k2 r2 m2 =>
  ri σ H2 _ ρ μ2 _ (s.mono (k1.trans k2)) m2 h2 λ kd μ3 b H3 h3 k3 r3 m3=>?_⟩
 split at h3
 ·next p kk ek =>
  split at h3
  ·next kvs e =>
   cases r2;obtain ⟨ws,hw,rk⟩:=m3.dcl p kvs e;obtain ⟨b',rfl,hb⟩:=vl0 r3 ek;have hl:=rk.len;have hz:(90000:Nat) < sizeLine:=by decide
   refine ⟨p,_,rfl,DPut.t (k:=kL kk) hw hb [1],?_⟩;exact k.nx _ _ _ _ h3.2 (k1.trans (k2.trans (k3.trans (Kp.wrD hw)))) (s.mono (k1.trans (k2.trans (k3.trans (Kp.wrD hw))))) (m3.wrC hw (rk.put (r1.mono (k2.trans k3))))
  ·exact h3.elim
 ·exact h3.elim
end
def sdf3 (to:TE3) (t:TA3):TE3:=λ ρ μ Q=>to ρ μ λ x μ1=>match x with
 | .ref p=>match μ1 p with
  | some (.dcl _)=>t ρ μ1 λ ds μ2=>match ds with
   | [y,d]=>match keyI y,μ2 p with
    | some k,some (.dcl kvs)=>kvs.length < 90000 /\ (match valL kvs k with
     | some v=>Q v μ2
     | none=>Q d (updM μ2 p (.dcl (putL kvs k d))))
    | _,_=>False
   | _=>False
  | _=>False
 | _=>False
def rSd:V->List V->Hp->VK->Prop:=λ x vs H Q=>∃ a kvs k b v,x=.ref a /\ vs=[.ref b,v] /\ H a=some (.dT kvs) /\ H b=some (.tup (k.map kV)) /\ kvs.length < sizeLine ∧
 (∀ u,valV kvs k=some u->Q u H) /\ (valV kvs k=none->Q v (upd H a (.dT (putK kvs k v))))
section
variable {X:Cx}
theorem yk4 (hu:X.A.units + 1 < cLine):MtM X "dict.setdefault" rSd:=by
 intro pins s σ H x vs v us Q I rx rv h;obtain ⟨d,kvs,k,b,v0,rfl,rfl,e,eb,l,q1,q2⟩:=h;cases rx;cases rv with
 | cons r1 r2 =>
 cases r2 with
 | cons r2 r3 =>
 cases r3;rename_i u1 u2;cases (show u1=Value.ref b from r1);obtain ⟨z,hd,xs,ep,rel,dd⟩:=wm2 I.hok (.inl e);have hz:xs.length<=sizeLine:=by rw [<- Paired.length rel]; exact z
 refine wpAny_call_entry F.slot_dict_setdefault dd.of.typeIs F.entry_dict_setdefault ?_ (F.args_dict_setdefault_3 _ _ _);unfold Builtin.«dict.setdefault»; refine wpAny_bind ?_;unfold Builtin.Dict.keyAndDefault; refine wpAny_bind (wpAny_notOrdered_dict dd.of.typeIs ?_);refine (show wpAny _ _ (pure (d,Value.ref b,some u2)) _ _ s from wpAny_pure ?_);show wpAny _ _ (if (d == sysModules)=true then _ else (dictSetDefault d (.ref b) u2 >>= _)) _ _ s;rw [if_neg (by rw [hd]; exact Bool.false_ne_true)];have rv:=rel.val k;refine wpAny_bind (su1 (tupleKind_room_in1 hu) (vk0 I.hok eb) dd hz (λ p hp=>wpAny_pure ⟨p.2,rfl,?_⟩) λ hno h' dd' hs'=>wpAny_pure ⟨_,rfl,?_⟩)
 ·rw [hp,Option.map_some] at rv;cases ev:valV kvs k with
  | none=>rw [ev] at rv; exact rv.elim
  | some w'=>rw [ev] at rv; exact ⟨w',H,I.tok _,rv,q1 w' ev⟩
 ·rw [hno,Option.map_none] at rv;cases ev:valV kvs k with
  | some w'=>rw [ev] at rv; exact rv.elim
  | none =>
   have hl:(putK kvs k v0).length<=sizeLine:=by have:=xi0 kvs k v0; omega
   obtain ⟨ob,es,hq,h2,h3,h4,_,h5⟩:=dd';refine ⟨v0,upd H d (.dT (putK kvs k v0)),xz0 (ob:=.dT (putK kvs k v0)) I (by rw [e]; exact True.intro) hs' ⟨ob,hq⟩ ⟨hl,hd,_,(rel.put k eb r2).keeps λ c ys ec=>?_,ob,es,_,hq,h2,h3,h4,h5⟩,r2,q2 ev⟩;rw [yc0 (wg1 ec e (λ z=>nomatch z))]; exact ec
variable {o e:Expr} {es:List Expr} {to:TE3} {t:TA3} {apos cpos:Pos}
theorem xg4 (hu:X.A.units + 64 < cLine) (ho:RE X o to) (ha:RA X (e :: es) t) (hbase:attributeBase o "setdefault" X.env (eval o X.env)=eval o X.env:=by rfl)
    (hfew:((backTo cpos (starEach (e :: es) X.env)).all (λ x=>!x.1) && (backToKw cpos (keywordEach [] X.env)).all (λ x=>x.1.isSome)
     && decide [24])=true:=by rfl)
    (hline:(apos.endLine == cpos.line)=true:=by rfl) (hs:starEach (e :: es) X.env=[29] :: starEach es X.env:=by rfl) (hplain:(backTo cpos (starEach es X.env)).any (·.1)=false:=by rfl) :
    RE X (.Call (.Attribute o "setdefault" apos) (e :: es) [] cpos) (sdf3 to t):=by
 obtain ⟨va,pa,ra⟩:=ho;obtain ⟨vb,pb,rb⟩:=ha;refine ⟨_,uy2 PySem.F.plainAttrs_dict PySem.F.slot_dict_setdefault PySem.F.type_dict_setdefault (yk4 [1]) pa pb hbase hfew hline hs hplain,λ σ H Q ρ μ Q3 s m h k=>ra σ H _ ρ μ _ s m h λ x μ1 v H1 h1 k1 r1 m1=>?_⟩;split at h1
 ·next p =>
  split at h1
  ·next kvs0 e0 =>
   cases r1;obtain ⟨ws0,hw0,_⟩:=m1.dcl p kvs0 e0;refine ⟨.inr (.inr (.inl ⟨rfl,.inr ⟨ws0,hw0⟩⟩)),rb σ H1 _ ρ μ1 _ (s.mono k1) m1 h1 λ ds μ2 vs H2 h2 k2 r2 m2=>?_⟩;split at h2
   ·next y d =>
    cases r2 with
    | cons ry r2 =>
    cases r2 with
    | cons rd r2 =>
    cases r2;split at h2
    ·next kk kvs ek e =>
     obtain ⟨ws,hw,rk⟩:=m2.dcl p kvs e;obtain ⟨b,rfl,hb⟩:=vl0 ry ek;have hl:=rk.len;have hz:(90000:Nat) < sizeLine:=by decide
     refine ⟨p,ws,kL kk,b,_,rfl,rfl,hw,hb,by omega,λ u eu=>?_,λ eu=>?_⟩
     ·rcases rk.val (t:=kk) with ⟨_,z2⟩ | ⟨d',w',z1,z2,rd'⟩
      ·rw [eu] at z2; cases z2
      ·rw [eu] at z2; cases z2; rw [z1] at h2; exact k _ _ _ _ h2.2 (k1.trans k2) rd' m2
     ·rcases rk.val (t:=kk) with ⟨z1,_⟩ | ⟨d',w',_,z2,_⟩
      ·rw [z1] at h2; exact k _ _ _ _ h2.2 (k1.trans (k2.trans (Kp.wrD hw))) (rd.mono (Kp.wrD hw)) (m2.wrC hw (rk.put rd))
      ·rw [eu] at z2; cases z2
    ·exact h2.elim
   ·exact h2.elim
  ·exact h1.elim
 ·exact h1.elim
end
def sy0 (kvs:[18]) (k:List Int):List (List Int × D):=kvs.filter λ kv=>decide (kv.1 ≠ k)
def dm3 (pp:Bool) (to:TE3) (t:TA3):TE3:=λ ρ μ Q=>to ρ μ λ x μ1=>match x with
 | .ref p=>match μ1 p with
  | some (.dcl _)=>t ρ μ1 λ ds μ2=>match ds with
   | [y]=>match keyI y,μ2 p with
    | some k,some (.dcl kvs)=>match pp,valL kvs k with
     | true,some v=>Q v (updM μ2 p (.dcl (sy0 kvs k)))
     | true,none=>False
     | false,o=>Q (o.getD .non) μ2
    | _,_=>False
   | _=>False
  | _=>False
 | _=>False
theorem ud1 {K β:Type} [DecidableEq K]:∀ {xs:List (K × β)} {j:Nat} {k:K} {p:β},(xs.map (·.1)).Nodup->xs[j]?=some (k,p)->xs.eraseIdx j=xs.filter λ x=>decide (x.1 ≠ k)
 | [],_,_,_,_,h=>by simp at h
 | x :: r,0,k,p,nd,h=>by
  simp only [List.getElem?_cons_zero,Option.some.injEq] at h;subst h;rw [map_cons,nodup_cons] at nd;rw [List.eraseIdx_cons_zero,filter_cons,if_neg [20]];refine (List.filter_eq_self.mpr λ y hy=>decide_eq_true ?_).symm;exact λ e=>nd.1 (by rw [<- show y.1=k from e]; exact List.mem_map_of_mem (f:=(·.1)) hy)
 | x :: r,j + 1,k,p,nd,h=>by
  rw [getElem?_cons_succ] at h;rw [map_cons,nodup_cons] at nd;have hk:x.1 ≠ k:=λ e=>nd.1 (by rw [e]; exact List.mem_map.mpr ⟨_,mem_of_getElem? h,rfl⟩);rw [List.eraseIdx_cons_succ,filter_cons,if_pos (by simpa using hk),ud1 nd.2 h]
theorem yc1 {α β:Type} (f:α->β):∀ (l:List α) (j:Nat),(l.map f).eraseIdx j=(l.eraseIdx j).map f
 | [],_=>rfl
 | _ :: _,0=>rfl
 | _ :: l,j + 1=>congrArg _ (yc1 f l j)
theorem KT.dropK {H:Hp} {kvs:List (List Key × V)} {xs:List (List Key × Addr × Value)} (r:KT H kvs xs) (k:List Key):KT H (dropK kvs k) (xs.filter λ x=>decide (x.1 ≠ k)):=by
 unfold L2.dropK
 induction r with
 | nil=>exact .nil
 | @cons p q ps qs h t ih =>
  rw [filter_cons,filter_cons];by_cases e:p.1=k
  ·rw [if_neg (by simp [e]),if_neg (by simp [h.1.symm.trans e])]; exact ih
  ·rw [if_pos (by simp [e]),if_pos (by simp [show ¬ q.1=k from λ z=>e (h.1.trans z)])]; exact .cons h ih
theorem RelKl.drop {K:Fg} {H:Hp} {l:[18]} {vs:List (List Key × V)} (r:RelKl K H l vs) (t:List Int):RelKl K H (sy0 l t) (L2.dropK vs (kL t)):=by
 unfold sy0 L2.dropK
 induction r with
 | nil=>exact .nil
 | cons h _ ih =>
  rename_i t' d' v' l' vs' _;rw [filter_cons,filter_cons];by_cases e:t'=t
  ·rw [if_neg (by simp [e]),if_neg (by simp [e])]; exact ih
  ·rw [if_pos (by simp [e]),if_pos (by simp [show ¬ kL t'=kL t from λ z=>e (vc1 z)])]; exact .cons h ih
def rDm (pp:Bool):V->List V->Hp->VK->Prop:=λ x vs H Q=>∃ a kvs k b,x=.ref a /\ vs=[.ref b] /\ H a=some (.dT kvs) /\ H b=some (.tup (k.map kV)) ∧
 match pp,valV kvs k with
 | true,some v=>Q v (upd H a (.dT (L2.dropK kvs k)))
 | true,none=>False
 | false,o=>Q (o.getD .non) H
section
variable {prog:Program} {w:World} {K:Type} [DecidableEq K] {knd:HeapKind prog w K} {A:Around} {E:[4]} {s:[39]}
theorem vt2 {d a:Addr} {xs:List (K × Addr × Value)} {k:K} {ep:Nat} {p:Addr × Value} {Q:Option DictEntry->Shared->Prop} (hu:knd.room A) (hkey:knd.is s.heap k a) (hm:DHe knd s.heap d xs ep) (hsz:xs.length<=sizeLine) (hp:atKey xs k=some p)
    (h:∀ e h',e.val=p.2->DHe knd h' d (xs.filter λ x=>decide (x.1 ≠ k)) (ep + 1)->Heap.SameBut d s.heap h'->Q (some e) { s with heap:=h',toks:=s.toks + knd.draws k }) :
    wpAny [5] A (Builtin.Dict.takeOut d (.ref a)) Q E s:=by
 obtain ⟨o,es,ho,hc,hd,he,his,hn⟩:=hm;unfold Builtin.Dict.takeOut; try with_reducible refine wpAny_holding ?_
 refine wpAny_bind (knd.pyHash hu hkey (wpAny_bind (wpAny_dictFind_heap (s:={ s with toks:=s.toks + knd.draws k }) hu hkey ho hd he his hn (λ hno=>?_) λ j q hj=>?_)))
 ·rw [atKey_none_of_get hno] at hp; cases hp
 ·have hq:=atKey_of_get hn hj;rw [hp] at hq;cases hq;refine wpAny_bind (wpAny_dictEntries (s:={ s with toks:=s.toks + knd.draws k }) ho hd ?_); rw [entry_at he j,hj];refine wpAny_bind (wpAny_updateDictKeys (hz:=by have e:=size_of_entries he; omega) (s:={ s with toks:=s.toks + knd.draws k }) ho hd (wpAny_pure (h _ _ rfl ⟨_,_,Heap.get?_update_self _ ho (Obj.isFreed_of_dict (Obj.data_mapDictKeys hd _)),hc.mapDictKeys _,Obj.data_mapDictKeys hd _,?_,λ c mc=>?_,?_⟩ (Heap.SameBut.update ..))))
  ·rw [<- ud1 hn hj];obtain ⟨l⟩:=es;have he':l=xs.map (entryOfKey knd):=he;subst he';simpa using yc1 _ xs j
  ·exact knd.keeps (his c (List.mem_filter.mp mc).1) ho hd (Heap.SameBut.update ..)
  ·exact hn.sublist (List.filter_sublist.map _)
end
theorem hu1 {A:Around} {k:Nat} (hr:Room k A):A.units + 1 < cLine:=by have:=hr.un; omega
section
variable {X:Cx}
theorem mtDg (hu:X.A.units + 1 < cLine):MtM X "dict.get" (rDm false):=by
 intro pins s σ H x vs v us Q I rx rv h;obtain ⟨d,kvs,k,b,rfl,rfl,e,eb,q⟩:=h;cases rx;cases rv with
 | cons r1 r2 =>
 cases r2;exact wa4 hu I (DGet.t e eb) r1 λ w' s' I' rw'=>⟨_,H,I',rw',q⟩
theorem mtDp (hu:X.A.units + 1 < cLine):MtM X "dict.pop" (rDm true):=by
 intro pins s σ H x vs v us Q I rx rv h;obtain ⟨d,kvs,k,b,rfl,rfl,e,eb,q⟩:=h;cases rx;cases rv with
 | cons r1 r2 =>
 cases r2;rename_i u1;cases (show u1=Value.ref b from r1);obtain ⟨z,hd,xs,ep,rel,dd⟩:=wm2 I.hok (.inl e);have hz:xs.length<=sizeLine:=by rw [<- Paired.length rel]; exact z
 cases ev:valV kvs k with
 | none=>rw [ev] at q; exact q.elim
 | some v0 =>
  rw [ev] at q;have rv:=rel.val k;rw [ev] at rv;obtain ⟨w',hw',rw'⟩:=RelO.some_of rv;obtain ⟨p,hp,hp2⟩:=Option.map_eq_some_iff.mp hw';have dd':=dd;obtain ⟨o,es,ho,hc,hdt,he,his,hn⟩:=dd'
  have ne:es.isEmpty=false:=by
   obtain ⟨x,hx,hk⟩:=Option.map_eq_some_iff.mp hp;have:=List.mem_of_find?_eq_some hx;have l:=size_of_entries he;have:0 < xs.length:=List.length_pos_of_mem this;simp only [Array.isEmpty,decide_eq_false_iff_not];omega
  refine wpAny_call_entry F.slot_dict_pop dd.of.typeIs F.entry_dict_pop ?_ (F.args_dict_pop_2 _ _);unfold Builtin.«dict.pop»; refine wpAny_bind ?_;unfold Builtin.Dict.keyAndDefault; refine wpAny_bind (wpAny_notOrdered_dict dd.of.typeIs ?_);refine (show wpAny _ _ (pure (d,Value.ref b,none)) _ _ s from wpAny_pure ?_);show wpAny _ _ (dictEntries d >>= _) _ _ s;refine wpAny_bind (wpAny_dictEntries ho hdt ?_);refine wpAny_bind [32];rw [ne];refine (show wpAny _ _ (Builtin.Dict.takeOut d (.ref b) >>= _) _ _ s from wpAny_bind ?_);refine vt2 (tupleKind_room_in1 hu) (vk0 I.hok eb) dd hz hp λ en h' ev' dd2 hs=>?_;refine (show wpAny _ _ (letGo [en.key] [en.val] >>= _) _ _ _ from wpAny_bind (wpAny_letGo (wpAny_pure ⟨en.val,rfl,?_⟩)));rw [ev',hp2];obtain ⟨ob,es2,hq,h2,h3,h4,_,h5⟩:=dd2;refine ⟨v0,upd H d (.dT (L2.dropK kvs k)),xz0 (ob:=.dT (L2.dropK kvs k)) I (by rw [e]; exact True.intro) hs ⟨ob,hq⟩ ⟨Nat.le_trans (um2 kvs k) z,hd,_,(KT.dropK rel k).keeps λ c ys ec=>?_,ob,es2,_,hq,h2,h3,h4,h5⟩,rw',q⟩;rw [yc0 (wg1 ec e (λ z=>nomatch z))]; exact ec
variable {o e:Expr} {es:List Expr} {to:TE3} {t:TA3} {apos cpos:Pos} {nm:Str} {id:String}
theorem yi2 {pp:Bool} (sl:Slot "dict" nm id) (ty:typeOf (.builtin id)=pure (.type "method_descriptor")) (mt:MtM X id (rDm pp)) (ho:RE X o to) (ha:RA X (e :: es) t) (hpl:∀ n ∈ [nm],True:=by intros; trivial) (hbase:attributeBase o nm X.env (eval o X.env)=eval o X.env:=by rfl)
    (hfew:((backTo cpos (starEach (e :: es) X.env)).all (λ x=>!x.1) && (backToKw cpos (keywordEach [] X.env)).all (λ x=>x.1.isSome)
     && decide [24])=true:=by rfl)
    (hline:(apos.endLine == cpos.line)=true:=by rfl) (hs:starEach (e :: es) X.env=[29] :: starEach es X.env:=by rfl) (hplain:(backTo cpos (starEach es X.env)).any (·.1)=false:=by rfl) :
    RE X (.Call (.Attribute o nm apos) (e :: es) [] cpos) (dm3 pp to t):=by
 obtain ⟨va,pa,ra⟩:=ho;obtain ⟨vb,pb,rb⟩:=ha;refine ⟨_,uy2 PySem.F.plainAttrs_dict sl ty mt pa pb hbase hfew hline hs hplain,λ σ H Q ρ μ Q3 s m h k=>ra σ H _ ρ μ _ s m h λ x μ1 v H1 h1 k1 r1 m1=>?_⟩;split at h1
 ·next p =>
  split at h1
  ·next kvs0 e0 =>
   cases r1;obtain ⟨ws0,hw0,_⟩:=m1.dcl p kvs0 e0;refine ⟨.inr (.inr (.inl ⟨rfl,.inr ⟨ws0,hw0⟩⟩)),rb σ H1 _ ρ μ1 _ (s.mono k1) m1 h1 λ ds μ2 vs H2 h2 k2 r2 m2=>?_⟩;split at h2
   ·next y =>
    cases r2 with
    | cons ry r2 =>
    cases r2;split at h2
    ·next kk kvs ek e =>
     obtain ⟨ws,hw,rk⟩:=m2.dcl p kvs e;obtain ⟨b,rfl,hb⟩:=vl0 ry ek;refine ⟨p,ws,kL kk,b,rfl,rfl,hw,hb,?_⟩;rcases rk.val (t:=kk) with ⟨z1,z2⟩ | ⟨d',w',z1,z2,rd'⟩
     ·rw [z1] at h2;rw [z2];cases pp with
      | true=>exact h2.elim
      | false=>exact k _ _ _ _ h2 (k1.trans k2) .non m2
     ·rw [z1] at h2;rw [z2];cases pp with
      | true=>exact k _ _ _ _ h2 (k1.trans (k2.trans (Kp.wrD hw))) (rd'.mono (Kp.wrD hw)) (m2.wrC hw (rk.drop kk))
      | false=>exact k _ _ _ _ h2 (k1.trans k2) rd' m2
    ·exact h2.elim
   ·exact h2.elim
  ·exact h1.elim
 ·exact h1.elim
end
end Pv
namespace Pv
open PySem PySem.Spec PySem.W PyProof.Rows L2
abbrev P3:=List Key × Addr × Value
def fst3 (ps:List P3):List P3:=ps.foldl (λ xs p=>storedH xs p.1 p.2.1 p.2.2) []
section
variable {prog:Program} {w:World} {A:Around} {E:[4]} {R:Result->Shared->Prop} {s:[39]}
theorem ty3 {h h':Heap} {k:List Key} {a:Addr} (kp:KpH h h') (i:(tupleKind (wc0 prog w)).is h k a):(tupleKind (wc0 prog w)).is h' k a:=by
 obtain ⟨o,its,n,h1,h2⟩:=i;exact ⟨o,its,n,kp _ _ h1,h2⟩
theorem wz1 {a:Addr} {xs:Array Value} {k:Nat} {sl:Array (Option Value)} {Q:Option Value->Shared->Prop} (hx:s.heap.get? a=some { cls:=.type "list",dict:=none,data:=.seq xs k,slots:=sl }) (hA:A.handled=none)
    (h:∀ h' tk,KpH s.heap h'->Q none { s with heap:=h',toks:=tk }):wpAny [5] A (getAttr? (.ref a) "keys") Q E s:=by
 obtain ⟨hp,g,d,tk,os⟩:=s;have hT:∀ tk',(⟨hp,g,d,tk',os⟩:Shared).TypeIs (.ref a) "list" := λ _=>⟨_,hx,rfl⟩;have f1:=sub_AttributeError;have f3:=F.slot_list_getattribute.lookup;have f4:=F.slot_list_getattribute.bind (.ref a);have f5:=am_list_getattr_none;have hmiss:typeLookup (.type "list") "keys" = pure none:=am_miss_of_fast [12];unfold getAttr? getAttrBy? getAttrBy
 repeat (any_goals (first | assumption | exact hT _ | ((with_reducible show wpAny _ _ (call (Value.builtin "list.__getattribute__") _ _) _ _ _); refine call_meets F.slot_list_getattribute (hT _) am_entry_list_getattribute (F.args_list_getattribute_2 _ _) (meets_getattribute_miss_list a xs k sl "keys" _ hmiss [12]) ⟨hx,hA,λ h' tk' e hx'=>?_⟩) | wp_step))
 obtain ⟨t',u',he⟩:=hx'.there;show wpAny _ _ (getattributeRaised _ _ _ _ _ _ _) _ _ _;unfold getattributeRaised
 repeat (any_goals (first | assumption | wp_step))
 exact h _ _ hx'.keeps
theorem sp0:entryFor table "dict.update.loop" = some Builtin.«dict.update.loop» := entryFor_of_tree (by kernel_rfl)
theorem sh0:plainId "dict.update.loop" = true:=by decide +kernel
theorem tc2 {h h':Heap} {d:Addr} {xs:List P3} {ep:Nat} (x:DHe (tupleKind (wc0 prog w)) h d xs ep) (k1:∀ o,h.get? d=some o->h'.get? d=some o) (k2:∀ y ∈ xs,(tupleKind (wc0 prog w)).is h' y.1 y.2.1):DHe (tupleKind (wc0 prog w)) h' d xs ep:=by
 obtain ⟨o,es,h1,h2,h3,h4,_,h6⟩:=x;exact ⟨o,es,k1 _ h1,h2,h3,h4,k2,h6⟩
theorem zj3 {xs:List P3} {p y:P3} (h:y ∈ storedH xs p.1 p.2.1 p.2.2):(y.1=p.1 /\ y.2.1=p.2.1) \/ ∃ z ∈ xs,y.1=z.1 /\ y.2.1=z.2.1:=by
 unfold storedH at h;split at h
 ·obtain ⟨z,hz,rfl⟩:=List.mem_map.mp h;refine .inr ⟨z,hz,?_⟩;unfold putAt;split <;> exact ⟨rfl,rfl⟩
 ·rcases List.mem_append.mp h with h | h
  ·exact .inr ⟨y,h,rfl,rfl⟩
  ·rw [List.mem_singleton.mp h]; exact .inl ⟨rfl,rfl⟩
theorem yy0 (ps:List P3) (p:P3):fst3 (ps ++ [p])=storedH (fst3 ps) p.1 p.2.1 p.2.2:=by unfold fst3; rw [List.foldl_append]; rfl
theorem zb2:∀ {n:Nat} {ps:List P3} {y:P3},ps.length=n->y ∈ fst3 ps->∃ z ∈ ps,y.1=z.1 /\ y.2.1=z.2.1
 | 0,[],y,_,h=>nomatch h
 | n + 1,ps,y,e,h=>by
  have hn:ps ≠ []:=λ z=>by rw [z] at e; cases e
  have q:=List.dropLast_concat_getLast hn;rw [<- q,yy0] at h;rcases zj3 h with h | ⟨z,hz,h⟩
  ·exact ⟨_,List.getLast_mem hn,h⟩
  ·obtain ⟨u,hu,k⟩:=zb2 (n:=n) (ps:=ps.dropLast) (by rw [List.length_dropLast]; omega) hz;exact ⟨u,List.dropLast_subset ps hu,h.1.trans k.1,h.2.trans k.2⟩
theorem wj3 (xs:List P3) (k:List Key) (a:Addr) (v:Value):(storedH xs k a v).length<=xs.length + 1:=by
 unfold storedH;split
 ·rw [length_map]; omega
 ·simp
theorem wb2:∀ {n:Nat} {ps:List P3},ps.length=n->(fst3 ps).length<=ps.length
 | 0,[],_=>Nat.le_refl _
 | n + 1,ps,e=>by
  have hn:ps ≠ []:=λ z=>by rw [z] at e; cases e
  have q:=List.dropLast_concat_getLast hn;have ih:=wb2 (n:=n) (ps:=ps.dropLast) (by rw [List.length_dropLast]; omega);have l:=wj3 (fst3 ps.dropLast) (ps.getLast hn).1 (ps.getLast hn).2.1 (ps.getLast hn).2.2;rw [<- yy0,q] at l;rw [List.length_dropLast] at ih;omega
theorem xl4 {I S:Addr} {fp wr:List Addr} {P:Nat->Value->Prop} {St:Nat->Heap->Prop} {h0:Heap} {ps:List P3} (W:Walks prog w A.in1 I fp wr ps.length P St) (hS:S ∉ fp) (ua:A.units + 1 < cLine) (hl:ps.length<=sizeLine)
    (low:∀ b ∈ S :: wr,h0.objs.size<=b) (hv:∀ i v,P i v->∃ a p,v=.ref a /\ ps[i]?=some p /\ IsTup h0 a #[.ref p.2.1,p.2.2]) (hk:∀ p ∈ ps,(tupleKind (wc0 prog w)).is h0 p.1 p.2.1) :
    ∀ (k i:Nat) (j:Int) (tj:Tok) (s:[39]) (ep:Nat),ps.length - i=k->i<=ps.length->St i s.heap->KpH h0 s.heap->DHe (tupleKind (wc0 prog w)) s.heap S (fst3 (ps.take i)) ep ->
     (∀ h' tk ep',KpH h0 h'->DHe (tupleKind (wc0 prog w)) h' S (fst3 ps) ep'->R (.ok (.ret .none)) { s with heap:=h',toks:=tk }) ->
     codeAny [5] A (.builtin "dict.update.loop" ⟨[.ref S,.ref I,.int j tj,.none],[]⟩) R s:=by
 have nw:S ∉ wr:=λ h=>hS (W.sub _ h)
 have nl:∀ {b:Addr} {o:Obj},h0.get? b=some o->b ∉ wr /\ b ≠ S:=λ {b o} e =>
  ⟨λ z=>absurd (Heap.lt_size e) (Nat.not_lt.mpr (low b (mem_cons_of_mem _ z))),λ z=>absurd (Heap.lt_size e) (Nat.not_lt.mpr (low b (by rw [z]; exact mem_cons_self ..)))⟩
 have isk:∀ {h:Heap} {i:Nat},KpH h0 h->∀ y ∈ fst3 (ps.take i),(tupleKind (wc0 prog w)).is h y.1 y.2.1:=λ {h i} kp y hy=>by
  obtain ⟨z,hz,e1,e2⟩:=zb2 rfl hy;rw [e1,e2];exact ty3 kp (hk z (mem_of_mem_take hz))
 intro k
 induction k with
 | zero =>
  intro i j tj s ep hi1 hi st kp dd q;have:i=ps.length:=by omega
  subst this;refine codeAny_builtin sp0 ?_;rw [Around.under_plainId sh0 _];show wpAny _ A.in1 (pyNext (.ref I) >>= _) _ _ s;refine wpAny_bind (W.done s _ _ st λ h1 tk km=>?_);have kp1:KpH h0 h1:=λ b o e=>km b o (nl e).1 (kp b o e);have dd1:=tc2 dd (λ o e=>km S o nw e) (isk kp1);rw [List.take_length] at dd1;exact wpAny_pure (q h1 tk ep kp1 dd1)
 | succ k ih =>
  intro i j tj s ep hi1 hi st kp dd q;have lt:i < ps.length:=by omega
  refine codeAny_builtin sp0 ?_;rw [Around.under_plainId sh0 _];show wpAny _ A.in1 (pyNext (.ref I) >>= _) _ _ s;refine wpAny_bind (W.item i s _ _ lt st λ v h1 tk hP st1 km=>?_);obtain ⟨a,p,rfl,ep1,tb0⟩:=hv i v hP;have kp1:KpH h0 h1:=λ b o e=>km b o (nl e).1 (kp b o e);have tb:IsTup h1 a #[.ref p.2.1,p.2.2]:=tb0.keeps kp1;have dd1:=tc2 dd (λ o e=>km S o nw e) (isk kp1);have hp:=mem_of_getElem? ep1;have et:ps.take (i + 1)=ps.take i ++ [p]:=by rw [List.take_add_one,ep1]; rfl
  obtain ⟨ot,g1,g2,n,g3⟩:=tb;have tT:Shared.TypeIs { s with heap:=h1,toks:=tk } (.ref a) "tuple" := ⟨_,g1,g2⟩;refine wpAny_bind (wpAny_holding ?_);refine wpAny_bind (wpAny_tryCatch ?_);show wpAny _ _ (Builtin.Dict.pairItems (.ref a)) _ _ _;unfold Builtin.Dict.pairItems;refine wpAny_bind (wpAny_typeOf tT ?_);rw [if_pos [9]];refine wpAny_bind (wpAny_seqItems g1 g3 [32]);refine (show wpAny _ _ (holding [Value.ref p.2.1,p.2.2] (dictSet S (.ref p.2.1) p.2.2)) _ _ _ from wpAny_holding ?_);refine wc2 (s:={ s with heap:=h1,toks:=tk }) (tupleKind_room_in1 ua) (ty3 kp1 (hk p hp)) dd1 (Nat.le_trans (wb2 rfl) (by rw [length_take]; omega)) λ h2 ep2 _ dd2 sb=>?_;have kp2:KpH h0 h2:=λ b o e=>by rw [sb.2 b (nl e).2]; exact kp1 b o e
  refine wpAny_pure ⟨plainId_quiet sh0 _,ih (i + 1) (j + 1) 0 _ ep2 [1] lt (W.frame _ h1 _ st1 λ b hb o e=>?_) kp2 ?_ λ h' tk' ep' a b=>q h' tk' ep' a b⟩
  ·rw [sb.2 b (λ z=>hS (by rw [<- z]; exact hb))]; exact e
  ·rw [et,yy0]; exact dd2
theorem uc2 {l:Addr} {items:Array Value} {ps:List P3} {Q:[4]} (hh:A.handled=none) (hu:A.units + 16 < cLine) (hl:PlainL s.heap l items) (hz:items.size=ps.length) (hps:ps.length<=sizeLine)
    (hv:∀ (i:Nat) v,items[i]?=some v->∃ a p,v=.ref a /\ ps[i]?=some p /\ IsTup s.heap a #[.ref p.2.1,p.2.2]) (hk:∀ p ∈ ps,(tupleKind (wc0 prog w)).is s.heap p.1 p.2.1)
    (h:∀ (h':Heap) (tk ep:Nat),KpH s.heap h'->DHe (tupleKind (wc0 prog w)) h' s.heap.objs.size (fst3 ps) ep->Q (.ref s.heap.objs.size) { s with heap:=h',toks:=tk }) :
    wpAny [5] A (call (.type "dict") [.ref l]) Q E s:=by
 refine callType_codes (Q₁:=λ obj s₁=>obj=.ref s.heap.objs.size /\ s₁={ s with heap:=s.heap.push { cls:=.type "dict",data:=.dict #[] } }) F.kt_called_dict (F.kt_typeCall_dict_1 _) F.entry_dict_init (kt_code_dict_new _ ⟨rfl,rfl⟩) ?_;rintro obj s₁ ⟨rfl,rfl⟩;have tS:Shared.TypeIs { s with heap:=s.heap.push { cls:=.type "dict",data:=.dict #[] } } (.ref s.heap.objs.size) "dict" := ⟨_,Heap.get?_push_size _ rfl,rfl⟩;refine ⟨tS,F.args_dict_init_2 _ _,?_⟩;unfold Builtin.«dict.__init__»;refine wpAny_bind ?_;unfold Builtin.Dict.selfAndRest;refine wpAny_bind (wpAny_notOrdered_dict tS ?_);show wpAny _ _ (pure (s.heap.objs.size,[Value.ref l])) _ _ _;refine wpAny_pure ?_;show wpAny _ _ (Builtin.Dict.updateFrom "dict.__init__" s.heap.objs.size (.ref l) [] .none) _ _ _;unfold Builtin.Dict.updateFrom;obtain ⟨⟨ocls,odict,odata,oslots⟩,n,gl,cl,nl,dl⟩:=hl;dsimp only at cl nl dl;subst cl nl dl;have gl1:=Heap.get?_push_of_some { cls:=.type "dict",data:=.dict #[] } gl;refine wpAny_bind (wpAny_typeOf ⟨_,gl1,rfl⟩ ?_);rw [if_pos [9]];refine wpAny_bind (wz1 gl1 hh λ h1 tk1 kp1=>?_);rw [if_pos [9]];refine wpAny_bind (wpAny_rule ?_);have il:h1.IsList l items:=⟨_,kp1 _ _ gl1,rfl,n,rfl⟩;refine wpAny_bind (wpAny_pyIter_list (s:={ s with heap:=h1,toks:=tk1 }) il ?_);have kp0:KpH s.heap h1:=λ b o e=>kp1 b o (Heap.get?_push_of_some _ e);have gS:h1.get? s.heap.objs.size=some { cls:=.type "dict",data:=.dict #[] }:=kp1 _ _ (Heap.get?_push_size _ rfl);have lS:=Heap.lt_size gS;have ll:=Heap.lt_size (kp0 _ _ gl);have l0:=Heap.lt_size gl;refine wpAny_pure ⟨plainId_quiet sh0 _,xl4 (A:=A.in1) (h0:=s.heap) (ps:=ps) (S:=s.heap.objs.size) (I:=h1.objs.size) (fp:=[h1.objs.size,l]) (wr:=[h1.objs.size]) (P:=λ i v=>items[i]?=some v) (St:=λ i h=>h.IsListIter h1.objs.size l i /\ h.IsList l items) ?_ ?_ (show A.units + 1 + 1 < cLine by omega) hps ?_ hv hk (ps.length - 0) 0 0 0 _ 0 rfl (Nat.zero_le _) ?_ ?_ ?_ ?_⟩
 ·rw [<- hz]; exact Walks.list (by simp [hh]) _ l (Nat.ne_of_lt ll) items
 ·intro z;rcases List.mem_cons.mp z with z | z
  ·exact Nat.ne_of_lt lS z
  ·exact Nat.ne_of_gt l0 (List.mem_singleton.mp z)
 ·intro b hb;simp only [mem_cons,not_mem_nil,or_false] at hb;rcases hb with rfl | rfl
  ·exact Nat.le_refl _
  ·exact Nat.le_of_lt lS
 ·exact ⟨⟨_,Heap.get?_push_size _ rfl,rfl,rfl⟩,il.push _⟩
 ·exact λ b o e=>Heap.get?_push_of_some _ (kp0 b o e)
 ·exact ⟨_,#[],Heap.get?_push_of_some _ gS,⟨rfl,rfl,rfl⟩,rfl,rfl,λ x hx=>(nomatch hx),nodup_nil⟩
 ·intro h' tk ep a b;exact ⟨rfl,h h' tk ep a b⟩
end
def key2:D->Option (List Int × D)
 | .tup [y,v]=>(keyI y).map λ k=>(k,v)
 | _=>none
def tq0:List D->Option (List (List Int × D))
 | []=>some []
 | d :: l=>match key2 d,tq0 l with
  | some p,some r=>some (p :: r)
  | _,_=>none
def dof (l:[18]):List (List Int × D):=l.foldl (λ kvs p=>putL kvs p.1 p.2) []
def dolR:C3:=λ ds μ Q=>match ds with
 | [.ref p]=>match μ p with
  | some (.lst l)=>match tq0 l with
   | some ps=>ps.length<=sizeLine /\ ∀ r,μ r=none->Q (.ref r) (updM μ r (.dcl (dof ps)))
   | none=>False
  | _=>False
 | _=>False
def Prs (H:Hp):List V->List (List Key × Addr × V)->Prop:=Paired λ v p=>∃ a,v=.ref a /\ H a=some (.tup [.ref p.2.1,p.2.2]) /\ H p.2.1=some (.tup (p.1.map kV))
def dofV (ps:List (List Key × Addr × V)):List (List Key × V):=ps.foldl (λ kvs p=>putK kvs p.1 p.2.2) []
def rDol (K:Fg):List V->Hp->VK->Prop:=λ xs H Q=>∃ p vs ps,xs=[.ref p] /\ SqL K H p vs /\ Prs H vs ps /\ ps.length<=sizeLine /\ ∀ r,H r=none->Q (.ref r) (upd H r (.dT (dofV ps)))
theorem zu3 {K:Fg} {H:Hp}:∀ {l:List D} {vs:List V} {ps:[18]},RelDs K H l vs->tq0 l=some ps->∃ qs,Prs H vs qs /\ qs.length=ps.length /\ RelKl K H (dof ps) (dofV qs):=by
 have main:∀ {l:List D} {vs:List V} {ps:[18]},RelDs K H l vs->tq0 l=some ps->∃ qs,Prs H vs qs /\ qs.length=ps.length /\ ∀ a b,RelKl K H a b->RelKl K H (ps.foldl (λ kvs p=>putL kvs p.1 p.2) a) (qs.foldl (λ kvs p=>putK kvs p.1 p.2.2) b):=by
  intro l
  induction l with
  | nil=>intro vs ps r e; cases r; cases e; exact ⟨[],.nil,rfl,λ a b h=>h⟩
  | cons d l ih =>
   intro vs ps r e;cases r with
   | cons rd rs =>
   unfold tq0 at e;split at e
   ·next p ps' e1 e2 =>
    cases e;obtain ⟨qs,h1,h2,h3⟩:=ih rs e2;unfold key2 at e1;split at e1
    ·next y v =>
     obtain ⟨k,ek,rfl⟩:=Option.map_eq_some_iff.mp e1;cases rd with
     | tup ha rl =>
     cases rl with
     | cons ry rl =>
     cases rl with
     | cons rv rl =>
     cases rl;obtain ⟨b,rfl,hb⟩:=vl0 ry ek;exact ⟨(kL k,b,_) :: qs,.cons ⟨_,rfl,ha,hb⟩ h1,by rw [length_cons,length_cons,h2],λ a b' h=>h3 _ _ (h.put rv)⟩
    ·cases e1
   ·cases e
 intro l vs ps r e;obtain ⟨qs,h1,h2,h3⟩:=main r e;exact ⟨qs,h1,h2,h3 _ _ .nil⟩
section
variable {X:Cx}
theorem zj2 {pins:[8]} {σ:L2.St} {H:Hp} {s:[39]} (I:L2.Inv X pins σ H s) {vs:List V} {qs:List (List Key × Addr × V)} (h:Prs H vs qs):∀ {its:[22]},Vals vs its->∃ ps:List P3,ps.length=its.length /\ (∀ (i:Nat) v,its[i]?=some v->∃ a p,v=.ref a /\ ps[i]?=some p /\ IsTup s.heap a #[.ref p.2.1,p.2.2]) ∧
    (∀ p ∈ ps,(tupleKind (wc0 X.prog X.w)).is s.heap p.1 p.2.1) /\ ∀ kvs xs,KT H kvs xs->KT H (qs.foldl (λ kvs p=>putK kvs p.1 p.2.2) kvs) (ps.foldl (λ xs p=>storedH xs p.1 p.2.1 p.2.2) xs):=by
 unfold Prs at h
 induction h with
 | nil=>intro its r; cases r; exact ⟨[],rfl,λ i v e=>by simp at e,λ p hp=>(nomatch hp),λ _ _ h=>h⟩
 | @cons v q vs qs hq t ih =>
  intro its r;obtain ⟨a,rfl,h1,h2⟩:=hq;cases r with
  | cons ra rs =>
  obtain ⟨ps,p1,p2,p3,p4⟩:=ih rs;cases ra;obtain ⟨_,us,ru,tu⟩:=(show ObjOk X.prog X.w H s.heap a (.tup [.ref q.2.1,q.2.2]) from I.hok a _ h1);cases ru with
  | cons r1 ru =>
  cases ru with
  | cons r2 ru =>
  cases ru;cases r1;refine ⟨(q.1,q.2.1,_) :: ps,by rw [length_cons,length_cons,p1],λ i v e=>?_,λ p hp=>?_,λ kvs xs hk=>p4 _ _ (hk.put q.1 h2 r2)⟩
  ·cases i with
   | zero=>cases e; exact ⟨a,_,rfl,rfl,tu⟩
   | succ i=>exact p2 i v (by simpa using e)
  ·rcases List.mem_cons.mp hp with rfl | hp
   ·exact vk0 I.hok h2
   ·exact p3 p hp
theorem tg1 (qs:List (List Key × Addr × V)):(dofV qs).length<=qs.length:=by
 have:∀ (qs:List (List Key × Addr × V)) kvs,(qs.foldl (λ kvs p=>putK kvs p.1 p.2.2) kvs).length<=kvs.length + qs.length:=by
  intro qs
  induction qs with
  | nil=>intro kvs; exact Nat.le_refl _
  | cons q qs ih=>intro kvs; have:=ih (putK kvs q.1 q.2.2); have:=xi0 kvs q.1 q.2.2; rw [foldl_cons,length_cons]; omega
 have:=this qs [];simpa [dofV] using this
theorem wn2 (hc:X.calm=true) (hu:X.A.units + 64 < cLine):CallR X (.type "dict") (rDol X.K):=by
 intro pins s σ H xs us Q I r h;obtain ⟨p,vs,qs,rfl,hq,hp,hl,k⟩:=h;cases r with
 | cons r rr =>
  cases rr;cases r;obtain ⟨its,rv,pl,hz⟩:=I.list hq;obtain ⟨ps,p1,p2,p3,p4⟩:=zj2 I hp rv;have lq:=Paired.length hp;have lv:=rv.length;refine uc2 (I.ok.hd hc) [1] pl (by rw [p1,size_toArray]) [1] (λ i v e=>p2 i v (by simpa using e)) p3 λ h' tk ep kp dd=>?_;obtain ⟨o,es,h1,h2,h3,h4,_,h6⟩:=dd;have hf:=I.hok.fresh (Nat.le_refl s.heap.objs.size);refine ⟨.ref _,_,I.laid (t':=tk) kp [26] (show ObjOk X.prog X.w _ h' _ (.dT (dofV qs)) from ⟨Nat.le_trans (tg1 qs) hl,?_,_,(p4 _ _ .nil).keeps λ b ys e=>?_,o,es,ep,h1,h2,h3,h4,h6⟩),rfl,k _ hf⟩
  ·exact beq_eq_false_iff_ne.mpr (Ne.symm (Nat.ne_of_lt I.big))
  ·rw [yc0 (xf0 e hf)]; exact e
theorem vs3 (hu:X.A.units + 64 < cLine) (hc:X.calm=true:=by rfl):RC X (.type "dict") dolR:=by
 refine ⟨_,wn2 hc hu,λ xs vs H Q μ Q3 m rx h k=>?_⟩;unfold dolR at h;split at h
 ·next p =>
  split at h
  ·next l e =>
   split at h
   ·next ps ek =>
    cases rx with
    | cons r rr =>
    cases rr;cases r;obtain ⟨us,hq,rl⟩:=m.lst p l e;obtain ⟨qs,h1,h2,h3⟩:=zu3 rl ek;refine ⟨p,us,qs,rfl,SqL.of hq,h1,by omega,λ r hr=>k _ _ _ _ (h.2 r (m.free hr)) (Kp.new hr) (.ref r) ?_⟩;have z:=(m.newC hr).wrC sd0 (h3.mono (Kp.new hr))
    rwa [xh0,ss2] at z
   ·exact h.elim
  ·exact h.elim
 ·exact h.elim
end
end Pv
namespace Pv
open PySem
abbrev zj0:D:=.ktp [.int 0,.int 1]
abbrev ti0:D:=.int 2500
def xnames:List Str:=["NoPicture", "NoRoom"]
def subX (cls c:Str):Option Bool:=if xnames.contains c then some (cls == c || cls == "PenError" || cls == "ValueError") else none
def okX (c:Str):Bool:=xnames.contains c
def sn2:List Str:=["picture", "stroke", "place"]
def ut2 (XE:XE3) (spx_q12:XE3->Sp3):TS3 :=
 (seq3 (for3 (is3 (v3 0)) (gn3 1) (drop3 (call3 (spx_q12 XE) (cons3 (v3 1) nil3)))) (for3 (ir23 (cons3 [21] (cons3 (call3 lenR [28]) nil3))) (gn3 2) (ifs3 (b3 (o3 ge3R (o3 ixR (v3 0) (o3 subR (v3 2) [21])) (o3 ixR (v3 0) (v3 2)))) (vb1 XE "NoPicture" (cons3 (c3 (.str "the strokes of a picture rise, each once")) nil3)) next3)))
def yf3:List Str:=["stroke"]
def yi3 (XE:XE3):TS3 :=
 (ifs3 (or3 (b3 (o3 neR (call3 lenR [28]) (c3 (.int 3)))) (b3 (o3 (inR true) (o3 ixR (v3 0) (c3 (.int 2))) (c3 zj0)))) (vb1 XE "NoPicture" (cons3 (c3 (.str "there is no such stroke")) nil3)) next3)
def xf3:List Str:=["stroke"]
def xi3:TS3 :=
 (seq3 (ifs3 (b3 (o3 eqR (o3 ixR (v3 0) (c3 (.int 2))) [19])) (ret3 (tup3 (cons3 (tup3 (cons3 (o3 ixR (v3 0) [19]) (cons3 (o3 ixR (v3 0) [21]) nil3))) (cons3 (tup3 (cons3 (o3 addR (o3 ixR (v3 0) [19]) [21]) (cons3 (o3 ixR (v3 0) [21]) nil3))) nil3)))) next3) (ret3 (tup3 (cons3 (tup3 (cons3 (o3 ixR (v3 0) [19]) (cons3 (o3 ixR (v3 0) [21]) nil3))) (cons3 (tup3 (cons3 (o3 ixR (v3 0) [19]) (cons3 (o3 addR (o3 ixR (v3 0) [21]) [21]) nil3))) nil3)))))
def ze3:List Str:=["picture", "least", "greatest", "corner"]
def vi0 (sp_q14:Sp3):TS3 :=
 (ret3 (o3 addR (v3 3) (tup3 (cons3 (call3 tq1 (cons3 (comp3 [none] (is3 (v3 2)) (gn3 0) tt3 (o3 ixR (v3 0) [19])) nil3)) (cons3 (call3 tq1 (cons3 (comp3 [none] (is3 (v3 2)) (gn3 0) tt3 (o3 ixR (v3 0) [21])) nil3)) nil3)))))
def uf0 (sp_q14:Sp3):TS3 :=
 (seq3 (set3 3 (tup3 (cons3 (call3 uq1 (cons3 (comp3 [none] (is3 (v3 1)) (gn3 0) tt3 (o3 ixR (v3 0) [19])) nil3)) (cons3 (call3 uq1 (cons3 (comp3 [none] (is3 (v3 1)) (gn3 0) tt3 (o3 ixR (v3 0) [21])) nil3)) nil3)))) (vi0 sp_q14))
def zm0 (sp_q14:Sp3):TS3 :=
 (seq3 (set3 2 (comp3 [none] (is3 (v3 0)) (gn3 0) tt3 (o3 ixR (call3 sp_q14 [28]) [21]))) (uf0 sp_q14))
def wm0 (sp_q14:Sp3):TS3 :=
 (seq3 (set3 1 (comp3 [none] (is3 (v3 0)) (gn3 0) tt3 (o3 ixR (call3 sp_q14 [28]) [19]))) (zm0 sp_q14))
def wh3 (sp_q14:Sp3):TS3 :=
 (seq3 (ifs3 (b3 (o3 eqR (call3 lenR [28]) [19])) (ret3 (c3 .non)) next3) (wm0 sp_q14))
def ye3:List Str:=["picture", "at", "seen", "pieces", "stroke"]
def zh3 (XE:XE3) (spx_q10:XE3->Sp3) (sp_q25 sp_q29:Sp3):TS3 :=
 (seq3 (drop3 (call3 (spx_q10 XE) [28])) (seq3 (set3 1 (call3 sp_q29 [28])) (seq3 (set3 2 dnl3) (seq3 (set3 3 (lst3 nil3)) (seq3 (for3 (is3 (v3 0)) (gn3 4) (ifs3 (b3 (o3 (dinR true) (v3 4) (v3 2))) (drop3 (mt3 appR (v3 3) (cons3 (call3 sp_q25 (cons3 (v3 4) (cons3 (v3 1) (cons3 (v3 2) nil3)))) nil3))) next3)) (ret3 (v3 3)))))))
def vd3:List Str:=["picture", "at", "stroke", "point"]
def ug3 (sp_q14:Sp3):TS3 :=
 (seq3 (set3 1 dnl3) (seq3 (for3 (is3 (v3 0)) (gn3 2) (for3 (is3 (call3 sp_q14 (cons3 (v3 2) nil3))) (gn3 3) (drop3 (mt3 appR (sdf3 (v3 1) (cons3 (v3 3) (cons3 (lst3 nil3) nil3))) (cons3 (v3 2) nil3))))) (ret3 (v3 1))))
def xe3:List Str:=["stroke", "at", "seen", "piece", "place", "here", "point"]
def yh3 (sp_q14 sp_q31:Sp3):TS3 :=
 (seq3 (vc2 (v3 2) (v3 0) (c3 (.bl true))) (seq3 (set3 3 (lst3 [28])) (seq3 (set3 4 [19]) (seq3 (ws1 (b3 (o3 ltR (v3 4) (call3 lenR (cons3 (v3 3) nil3)))) (seq3 (set3 5 (o3 ixR (v3 3) (v3 4))) (seq3 (for3 (is3 (call3 sp_q14 (cons3 (v3 5) nil3))) (gn3 6) (drop3 (mt3 extR (v3 3) (cons3 (call3 sp_q31 (cons3 (o3 dgR (v3 1) (v3 6)) (cons3 (v3 2) nil3))) nil3)))) (set3 4 (o3 addR (v3 4) [21]))))) (ret3 (call3 tupR (cons3 (call3 srtR (cons3 (v3 3) nil3)) nil3)))))))
def zd3:List Str:=["strokes", "seen", "taken", "stroke"]
def wg3:TS3 :=
 (seq3 (set3 2 (comp3 [none,some 1] (is3 (v3 0)) (gn3 0) (b3 (o3 (dinR true) (v3 0) (v3 1))) (v3 0))) (seq3 (for3 (is3 (v3 2)) (gn3 3) (vc2 (v3 1) (v3 3) (c3 (.bl true)))) (ret3 (v3 2))))
def td3:List Str:=["picture", "box", "strokes", "unseen", "rooms", "cell"]
def ut0 (XE:XE3) (sp_q9:Sp3) (spx_q10:XE3->Sp3) (spx_q11:XE3->Sp3) (sp_q23 sp_q30:Sp3):TS3 :=
 (ret3 (v3 4))
def tt0 (XE:XE3) (sp_q9:Sp3) (spx_q10:XE3->Sp3) (spx_q11:XE3->Sp3) (sp_q23 sp_q30:Sp3):TS3 :=
 (seq3 (for3 (is3 (call3 sp_q9 (cons3 (v3 1) nil3))) (gn3 5) (ifs3 (b3 (o3 (dinR false) (v3 5) (v3 3))) (drop3 (mt3 appR (v3 4) (cons3 (call3 sp_q30 (cons3 (v3 5) (cons3 (v3 2) (cons3 (v3 3) nil3)))) nil3))) next3)) (ut0 XE sp_q9 spx_q10 spx_q11 sp_q23 sp_q30))
def xu0 (XE:XE3) (sp_q9:Sp3) (spx_q10:XE3->Sp3) (spx_q11:XE3->Sp3) (sp_q23 sp_q30:Sp3):TS3 :=
 (seq3 (set3 4 (lst3 nil3)) (tt0 XE sp_q9 spx_q10 spx_q11 sp_q23 sp_q30))
def yu0 (XE:XE3) (sp_q9:Sp3) (spx_q10:XE3->Sp3) (spx_q11:XE3->Sp3) (sp_q23 sp_q30:Sp3):TS3 :=
 (seq3 (drop3 (call3 sp_q30 (cons3 (tup3 (cons3 (o3 subR (o3 ixR (v3 1) [19]) [21]) (cons3 (o3 subR (o3 ixR (v3 1) [21]) [21]) nil3))) (cons3 (v3 2) (cons3 (v3 3) nil3))))) (xu0 XE sp_q9 spx_q10 spx_q11 sp_q23 sp_q30))
def zu0 (XE:XE3) (sp_q9:Sp3) (spx_q10:XE3->Sp3) (spx_q11:XE3->Sp3) (sp_q23 sp_q30:Sp3):TS3 :=
 (seq3 (set3 3 (call3 dolR (cons3 (comp3 [none] (is3 (call3 sp_q9 (cons3 (v3 1) nil3))) (gn3 0) tt3 (tup3 (cons3 (v3 0) (cons3 (c3 (.bl true)) nil3)))) nil3))) (yu0 XE sp_q9 spx_q10 spx_q11 sp_q23 sp_q30))
def wu0 (XE:XE3) (sp_q9:Sp3) (spx_q10:XE3->Sp3) (spx_q11:XE3->Sp3) (sp_q23 sp_q30:Sp3):TS3 :=
 (seq3 (set3 2 (call3 dolR (cons3 (comp3 [none] (is3 (v3 0)) (gn3 0) tt3 (tup3 (cons3 (v3 0) (cons3 (c3 (.bl true)) nil3)))) nil3))) (zu0 XE sp_q9 spx_q10 spx_q11 sp_q23 sp_q30))
def zk0 (XE:XE3) (sp_q9:Sp3) (spx_q10:XE3->Sp3) (spx_q11:XE3->Sp3) (sp_q23 sp_q30:Sp3):TS3 :=
 (seq3 (drop3 (call3 (spx_q11 XE) (cons3 (v3 1) nil3))) (wu0 XE sp_q9 spx_q10 spx_q11 sp_q23 sp_q30))
def vu0 (XE:XE3) (sp_q9:Sp3) (spx_q10:XE3->Sp3) (spx_q11:XE3->Sp3) (sp_q23 sp_q30:Sp3):TS3 :=
 (seq3 (ifs3 (b3 (o3 (isNR false) (v3 1) (c3 .non))) (ret3 (lst3 nil3)) next3) (zk0 XE sp_q9 spx_q10 spx_q11 sp_q23 sp_q30))
def uu0 (XE:XE3) (sp_q9:Sp3) (spx_q10:XE3->Sp3) (spx_q11:XE3->Sp3) (sp_q23 sp_q30:Sp3):TS3 :=
 (seq3 (set3 1 (call3 sp_q23 [28])) (vu0 XE sp_q9 spx_q10 spx_q11 sp_q23 sp_q30))
def sg3 (XE:XE3) (sp_q9:Sp3) (spx_q10:XE3->Sp3) (spx_q11:XE3->Sp3) (sp_q23 sp_q30:Sp3):TS3 :=
 (seq3 (drop3 (call3 (spx_q10 XE) [28])) (uu0 XE sp_q9 spx_q10 spx_q11 sp_q23 sp_q30))
def zf3:List Str:=["box"]
def zi3 (XE:XE3):TS3 :=
 (ifs3 (b3 (o3 gtR (o3 mulR (o3 addR (o3 subR (o3 ixR (v3 0) (c3 (.int 2))) (o3 ixR (v3 0) [19])) (c3 (.int 2))) (o3 addR (o3 subR (o3 ixR (v3 0) (c3 (.int 3))) (o3 ixR (v3 0) [21])) (c3 (.int 2)))) (c3 ti0))) (vb1 XE "NoRoom" (cons3 (c3 (.str "the picture is too wide or too high")) nil3)) next3)
def N_q9:List Str:=["box", "cells", "x"]
def t_q9:TS3 :=
 (seq3 (set3 1 (lst3 nil3)) (seq3 (for3 (ir23 (cons3 (o3 subR (o3 ixR (v3 0) [19]) [21]) (cons3 (o3 addR (o3 ixR (v3 0) (c3 (.int 2))) [21]) nil3))) (gn3 2) (drop3 (mt3 extR (v3 1) (cons3 (comp3 [none,some 2] (ir23 (cons3 (o3 subR (o3 ixR (v3 0) [21]) [21]) (cons3 (o3 addR (o3 ixR (v3 0) (c3 (.int 3))) [21]) nil3))) (gn3 0) tt3 (tup3 (cons3 (v3 1) [28]))) nil3)))) (ret3 (v3 1))))
def wd3:List Str:=["cell", "strokes", "unseen", "taken", "place", "here", "near"]
def vg3 (sp_q18:Sp3):TS3 :=
 (seq3 (drop3 (dm3 true (v3 2) [28])) (seq3 (set3 3 (lst3 [28])) (seq3 (set3 4 [19]) (seq3 (ws1 (b3 (o3 ltR (v3 4) (call3 lenR (cons3 (v3 3) nil3)))) (seq3 (set3 5 (o3 ixR (v3 3) (v3 4))) (seq3 (for3 (is3 (call3 sp_q18 (cons3 (v3 5) (cons3 (v3 1) nil3)))) (gn3 6) (ifs3 (b3 (o3 (dinR false) (v3 6) (v3 2))) (seq3 (drop3 (dm3 true (v3 2) (cons3 (v3 6) nil3))) (drop3 (mt3 appR (v3 3) (cons3 (v3 6) nil3)))) next3)) (set3 4 (o3 addR (v3 4) [21]))))) (ret3 (call3 un1 (cons3 (v3 3) nil3)))))))
def ve3:List Str:=["cell", "strokes"]
def uh3 (sp_q28:Sp3):TS3 :=
 (ret3 (comp3 [none,some 1] (is3 (call3 sp_q28 [28])) (gn3 0) (b3 (o3 (dinR true) (o3 ixR (v3 0) [21]) (v3 1))) (o3 ixR (v3 0) [19])))
def ud3:List Str:=["cell", "x", "y", "east", "north", "west", "south"]
def tg3:TS3 :=
 (seq3 (set3 1 (o3 ixR (v3 0) [19])) (seq3 (set3 2 (o3 ixR (v3 0) [21])) (seq3 (set3 3 (tup3 (cons3 (tup3 (cons3 (o3 addR (v3 1) [21]) (cons3 (v3 2) nil3))) (cons3 (tup3 (cons3 (o3 addR (v3 1) [21]) (cons3 (v3 2) (cons3 [21] nil3)))) nil3)))) (seq3 (set3 4 (tup3 (cons3 (tup3 (cons3 (v3 1) (cons3 (o3 addR (v3 2) [21]) nil3))) (cons3 (tup3 (cons3 (v3 1) (cons3 (o3 addR (v3 2) [21]) (cons3 [19] nil3)))) nil3)))) (seq3 (set3 5 (tup3 (cons3 (tup3 (cons3 (o3 subR (v3 1) [21]) (cons3 (v3 2) nil3))) (cons3 (tup3 (cons3 (v3 1) (cons3 (v3 2) (cons3 [21] nil3)))) nil3)))) (seq3 (set3 6 (tup3 (cons3 (tup3 (cons3 (v3 1) (cons3 (o3 subR (v3 2) [21]) nil3))) (cons3 (tup3 (cons3 (v3 1) (cons3 (v3 2) (cons3 [19] nil3)))) nil3)))) (ret3 (tup3 (cons3 (v3 3) (cons3 (v3 4) (cons3 (v3 5) (cons3 (v3 6) nil3))))))))))))
def sd3:List Str:=["picture", "cell"]
def xh3 (XE:XE3) (sp_q19:Sp3) (spx_q27:XE3->Sp3):TS3 :=
 (ret3 (dm3 false (call3 sp_q19 (cons3 (call3 (spx_q27 XE) [28]) nil3)) (cons3 (v3 1) nil3)))
def we3:List Str:=["rooms", "numbers", "number", "cell"]
def vh3:TS3 :=
 (seq3 (set3 1 dnl3) (seq3 (for3 (ir3 (cons3 (call3 lenR [28]) nil3)) (gn3 2) (for3 (is3 (o3 ixR (v3 0) (v3 2))) (gn3 3) (vc2 (v3 1) (v3 3) (v3 2)))) (ret3 (v3 1))))
def yd3:List Str:=["picture", "rooms", "numbers", "walls", "stroke", "sides", "number"]
def wt0 (XE:XE3) (sp_q8 sp_q19:Sp3) (spx_q27:XE3->Sp3):TS3 :=
 (ret3 (comp3 [none] (is3 (v3 3)) (gn3 0) tt3 (call3 tupR [28])))
def yk0 (XE:XE3) (sp_q8 sp_q19:Sp3) (spx_q27:XE3->Sp3):TS3 :=
 (seq3 (for3 (is3 (v3 0)) (gn3 4) (seq3 (set3 5 (comp3 [none,some 2] (is3 (call3 sp_q8 (cons3 (v3 4) nil3))) (gn3 0) tt3 (dm3 false (v3 1) [28]))) (ifs3 (b3 (o3 neR (o3 ixR (v3 5) [19]) (o3 ixR (v3 5) [21]))) (for3 (is3 (v3 5)) (gn3 6) (ifs3 (b3 (o3 (isNR true) (v3 6) (c3 .non))) (drop3 (mt3 appR (o3 ixR (v3 3) (v3 6)) (cons3 (v3 4) nil3))) next3)) next3))) (wt0 XE sp_q8 sp_q19 spx_q27))
def vh0 (XE:XE3) (sp_q8 sp_q19:Sp3) (spx_q27:XE3->Sp3):TS3 :=
 (seq3 (set3 3 (comp3 [none] (is3 (v3 1)) (gn3 0) tt3 (lst3 nil3))) (yk0 XE sp_q8 sp_q19 spx_q27))
def vt0 (XE:XE3) (sp_q8 sp_q19:Sp3) (spx_q27:XE3->Sp3):TS3 :=
 (seq3 (set3 2 (call3 sp_q19 (cons3 (v3 1) nil3))) (vh0 XE sp_q8 sp_q19 spx_q27))
def zg3 (XE:XE3) (sp_q8 sp_q19:Sp3) (spx_q27:XE3->Sp3):TS3 :=
 (seq3 (set3 1 (call3 (spx_q27 XE) [28])) (vt0 XE sp_q8 sp_q19 spx_q27))
def N_q8:List Str:=["stroke", "x", "y"]
def t_q8:TS3 :=
 (seq3 (set3 1 (o3 ixR (v3 0) [19])) (seq3 (set3 2 (o3 ixR (v3 0) [21])) (seq3 (ifs3 (b3 (o3 eqR (o3 ixR (v3 0) (c3 (.int 2))) [19])) (ret3 (tup3 (cons3 (tup3 (cons3 (v3 1) (cons3 (o3 subR (v3 2) [21]) nil3))) (cons3 (tup3 (cons3 (v3 1) (cons3 (v3 2) nil3))) nil3)))) next3) (ret3 (tup3 (cons3 (tup3 (cons3 (o3 subR (v3 1) [21]) (cons3 (v3 2) nil3))) (cons3 (tup3 (cons3 (v3 1) (cons3 (v3 2) nil3))) nil3)))))))
def se3:List Str:=["picture"]
def sh3 (XE:XE3) (spx_q24:XE3->Sp3):TS3 :=
 (seq3 (ifs3 (b3 (o3 neR (call3 lenR (cons3 (call3 (spx_q24 XE) [28]) nil3)) [21])) (ret3 (c3 (.bl false))) next3) never3)
def N_q7:List Str:=["picture"]
def t_q7 (XE:XE3) (spx_q15:XE3->Sp3):TS3 :=
 (seq3 (ifs3 (not3 (b3 (call3 (spx_q15 XE) [28]))) (ret3 (c3 .non)) next3) (seq3 never3 never3))
def N_q4:List Str:=["script", "k", "cell"]
def t_q4:TS3 :=
 (seq3 (set3 2 [19]) (seq3 (ifs3 (b3 (o3 ltR (v3 1) (call3 lenR [28]))) (set3 2 (o3 ixR (v3 0) (v3 1))) next3) (seq3 (ifs3 (b3 (o3 geR (v3 2) (o3 powR (c3 (.int 10)) (c3 (.int 18))))) (ret3 (lst3 (cons3 (o3 subR (v3 2) (o3 powR (c3 (.int 10)) (c3 (.int 18)))) (cons3 [21] nil3)))) next3) (ret3 (lst3 (cons3 (o3 modR (o3 addR (v3 2) (o3 mulR (c3 (.int 7919)) (v3 1))) (c3 (.int 2147483647))) (cons3 [19] nil3)))))))
def N_q5:List Str:=["state", "many", "found", "mixed"]
def t_q5:TS3 :=
 (seq3 (ifs3 (and3 (b3 (o3 eqR (o3 ixR (v3 0) [21]) [21])) (b3 (o3 gtR (o3 ixR (v3 0) [19]) [19]))) (seq3 (set3 2 (o3 modR (o3 ixR (v3 0) [19]) (v3 1))) (seq3 (asg3 (o3 fdivR (o3 ixR (v3 0) [19]) (v3 1)) (sub3 (v3 0) [19])) (ret3 (v3 2)))) next3) (seq3 (asg3 [19] (sub3 (v3 0) [21])) (seq3 (asg3 (o3 modR (o3 addR (o3 mulR (o3 ixR (v3 0) [19]) (c3 (.int 48271))) (c3 (.int 69621))) (c3 (.int 2147483647))) (sub3 (v3 0) [19])) (seq3 (set3 3 (o3 modR (o3 addR (o3 mulR (o3 ixR (v3 0) [19]) (o3 ixR (v3 0) [19])) (o3 mulR (c3 (.int 16807)) (o3 ixR (v3 0) [19]))) (c3 (.int 2147483629)))) (seq3 (set3 3 (o3 modR (o3 addR (o3 mulR (v3 3) (v3 3)) (o3 mulR (c3 (.int 39373)) (v3 3))) (c3 (.int 2147483587)))) (ret3 (o3 modR (o3 fdivR (v3 3) (c3 (.int 8))) (v3 1))))))))
def N_q3:List Str:=["state", "most", "wide", "high", "found", "k", "x", "y", "way"]
def sn0 (sp_q5:Sp3):TS3 :=
 (ret3 (call3 tupR (cons3 (uj3 (vj3 (cons3 (v3 4) nil3))) nil3)))
def xo0 (sp_q5:Sp3):TS3 :=
 (seq3 (for3 (ir3 (cons3 (call3 sp_q5 (cons3 (v3 0) (cons3 (o3 addR (v3 1) [21]) nil3))) nil3)) (gn3 5) (seq3 (set3 6 (o3 subR (call3 sp_q5 (cons3 (v3 0) (cons3 (v3 2) nil3))) (c3 (.int 2)))) (seq3 (set3 7 (o3 subR (call3 sp_q5 (cons3 (v3 0) (cons3 (v3 3) nil3))) (c3 (.int 2)))) (seq3 (set3 8 (call3 sp_q5 (cons3 (v3 0) (cons3 (c3 (.int 6)) nil3)))) (ifs3 (b3 (o3 ltR (v3 8) (c3 (.int 4)))) (drop3 (mt3 appR (v3 4) (cons3 (tup3 (cons3 (v3 6) (cons3 (v3 7) (cons3 (o3 modR (v3 8) (c3 (.int 2))) nil3)))) nil3))) (set3 4 (o3 addR (v3 4) (lst3 (cons3 (tup3 (cons3 (v3 6) (cons3 (v3 7) (cons3 [19] nil3)))) (cons3 (tup3 (cons3 (v3 6) (cons3 (v3 7) (cons3 [21] nil3)))) (cons3 (tup3 (cons3 (v3 6) (cons3 (o3 addR (v3 7) [21]) (cons3 [19] nil3)))) (cons3 (tup3 (cons3 (o3 addR (v3 6) [21]) (cons3 (v3 7) (cons3 [21] nil3)))) nil3)))))))))))) (sn0 sp_q5))
def yo0 (sp_q5:Sp3):TS3 :=
 (seq3 (set3 4 (lst3 nil3)) (xo0 sp_q5))
def zo0 (sp_q5:Sp3):TS3 :=
 (seq3 (set3 3 (o3 addR (c3 (.int 2)) (call3 sp_q5 (cons3 (v3 0) (cons3 (c3 (.int 5)) nil3))))) (yo0 sp_q5))
def t_q3 (sp_q5:Sp3):TS3 :=
 (seq3 (set3 2 (o3 addR (c3 (.int 2)) (call3 sp_q5 (cons3 (v3 0) (cons3 (c3 (.int 5)) nil3))))) (zo0 sp_q5))
def N_q6:List Str:=["e", "flags"]
def t_q6:TS3 :=
 (seq3 (set3 1 (lst3 (cons3 (isx3 (v3 0) (subX "NoWord")) (cons3 (isx3 (v3 0) (subX "NoPicture")) (cons3 (isx3 (v3 0) (subX "NoRoom")) (cons3 (isx3 (v3 0) (subX "NoStep")) nil3)))))) (ret3 (o3 addR (v3 1) (lst3 (cons3 (isx3 (v3 0) (subX "NoNumber")) (cons3 (isx3 (v3 0) (subX "BadNote")) (cons3 (isx3 (v3 0) (subX "ValueError")) nil3)))))))
def N_q0:List Str:=["way", "lines"]
def t_q0 (XE:XE3) (spx_q7:XE3->Sp3) (spx_q15:XE3->Sp3) (spx_q26:XE3->Sp3) (spx_q27:XE3->Sp3) (spx_q35:XE3->Sp3):TS3 :=
 (ifs3 (b3 (o3 eqR (v3 0) [19])) (drop3 (call3 (spx_q27 XE) (cons3 (v3 1) nil3))) (ifs3 (b3 (o3 eqR (v3 0) [21])) (drop3 (call3 (spx_q26 XE) (cons3 (v3 1) (cons3 (tup3 (cons3 [19] (cons3 [19] nil3))) nil3)))) (ifs3 (b3 (o3 eqR (v3 0) (c3 (.int 2)))) (drop3 (call3 (spx_q35 XE) (cons3 (v3 1) nil3))) (ifs3 (b3 (o3 eqR (v3 0) (c3 (.int 3)))) (drop3 (call3 (spx_q15 XE) (cons3 (v3 1) nil3))) (drop3 (call3 (spx_q7 XE) (cons3 (v3 1) nil3)))))))
def N_q2:List Str:=["way", "lines", "flags", "e"]
def t_q2 (spx_q0:XE3->Sp3) (sp_q6:Sp3):TS3 :=
 (seq3 (set3 2 (lst3 nil3)) (seq3 (try3 3 spx_q0 uq2 okX (cons3 (v3 0) (cons3 (v3 1) nil3)) (set3 2 (call3 sp_q6 (cons3 (v3 3) nil3)))) (ret3 (v3 2))))
def N_q1:List Str:=["state", "lines", "at", "some", "way"]
def tu0 (sp_q5:Sp3):TS3 :=
 (ret3 (o3 addR (v3 1) (tup3 (cons3 (tup3 (cons3 (c3 (.int 9)) (cons3 (c3 (.int 9)) (cons3 [21] nil3)))) (cons3 (tup3 (cons3 (c3 (.int 9)) (cons3 (c3 (.int 9)) (cons3 [21] nil3)))) nil3)))))
def su0 (sp_q5:Sp3):TS3 :=
 (seq3 (ifs3 (b3 (o3 eqR (v3 4) (c3 (.int 6)))) (ret3 (o3 addR (v3 1) (tup3 (cons3 (tup3 (cons3 (c3 (.int 3)) (cons3 (c3 (.int 3)) (cons3 [19] nil3)))) (cons3 (tup3 (cons3 (c3 (.int 3)) (cons3 (c3 (.int 2)) (cons3 [21] nil3)))) nil3))))) next3) (tu0 sp_q5))
def xv0 (sp_q5:Sp3):TS3 :=
 (seq3 (ifs3 (b3 (o3 ltR (v3 4) (c3 (.int 6)))) (ret3 (o3 addR (o3 addR (sl3 slR (v3 1) np3 (pt3 (v3 2))) (tup3 (cons3 (o3 ixR (v3 3) (v3 4)) nil3))) (sl3 slR (v3 1) (pt3 (v3 2)) np3))) next3) (su0 sp_q5))
def yv0 (sp_q5:Sp3):TS3 :=
 (seq3 (set3 4 (call3 sp_q5 (cons3 (v3 0) (cons3 (c3 (.int 8)) nil3)))) (xv0 sp_q5))
def zv0 (sp_q5:Sp3):TS3 :=
 (seq3 (set3 3 (lst3 (cons3 (tup3 (cons3 [19] (cons3 [19] (cons3 (c3 (.int 2)) nil3)))) (cons3 (tup3 (cons3 [19] (cons3 [19] (cons3 (un3 negR [21]) nil3)))) (cons3 (tup3 (cons3 [19] (cons3 [19] (cons3 (o3 powR (c3 (.int 10)) (c3 (.int 20))) nil3)))) (cons3 (tup3 (cons3 [19] (cons3 [19] nil3))) (cons3 (tup3 nil3) (cons3 (tup3 (cons3 [19] (cons3 [19] (cons3 [19] (cons3 [19] nil3))))) nil3)))))))) (yv0 sp_q5))
def t_q1 (sp_q5:Sp3):TS3 :=
 (seq3 (set3 2 (call3 sp_q5 (cons3 (v3 0) (cons3 (o3 addR (call3 lenR (cons3 (v3 1) nil3)) [21]) nil3)))) (zv0 sp_q5))
def ue3:List Str:=["script", "state", "bad", "way", "wide", "high", "lines", "due"]
def xa1 (sp_q1 sp_q2 sp_q3 sp_q4 sp_q5:Sp3):TS3 :=
 (ret3 (o3 (eqN false) (comp3 [none,some 6] (ir3 (cons3 (c3 (.int 5)) nil3)) (gn3 0) tt3 (call3 sp_q2 (cons3 (v3 0) (cons3 (v3 1) nil3)))) (lst3 (cons3 (v3 7) (cons3 (v3 7) (cons3 (v3 7) (cons3 (lst3 nil3) (cons3 (lst3 nil3) nil3))))))))
def ui1 (sp_q1 sp_q2 sp_q3 sp_q4 sp_q5:Sp3):TS3 :=
 (seq3 (ifs3 (b3 (o3 gtR (o3 mulR (o3 addR (v3 4) (c3 (.int 2))) (o3 addR (v3 5) (c3 (.int 2)))) (c3 (.int 2500)))) (set3 7 (lst3 (cons3 (c3 (.bl false)) (cons3 (c3 (.bl false)) (cons3 (c3 (.bl true)) (cons3 (c3 (.bl false)) (cons3 (c3 (.bl false)) (cons3 (c3 (.bl false)) (cons3 (c3 (.bl true)) nil3))))))))) next3) (xa1 sp_q1 sp_q2 sp_q3 sp_q4 sp_q5))
def uf2 (sp_q1 sp_q2 sp_q3 sp_q4 sp_q5:Sp3):TS3 :=
 (seq3 (set3 7 (lst3 nil3)) (ui1 sp_q1 sp_q2 sp_q3 sp_q4 sp_q5))
def ti1 (sp_q1 sp_q2 sp_q3 sp_q4 sp_q5:Sp3):TS3 :=
 (seq3 (set3 6 (call3 tupR (cons3 (call3 srtR (cons3 (lst3 (cons3 (tup3 (cons3 [19] (cons3 [19] (cons3 [19] nil3)))) (cons3 (tup3 (cons3 (o3 subR (v3 4) [21]) (cons3 (v3 5) (cons3 [19] nil3)))) nil3))) nil3)) nil3))) (uf2 sp_q1 sp_q2 sp_q3 sp_q4 sp_q5))
def tf2 (sp_q1 sp_q2 sp_q3 sp_q4 sp_q5:Sp3):TS3 :=
 (seq3 (set3 5 (call3 maxR (cons3 [21] (cons3 (v3 5) nil3)))) (ti1 sp_q1 sp_q2 sp_q3 sp_q4 sp_q5))
def sf2 (sp_q1 sp_q2 sp_q3 sp_q4 sp_q5:Sp3):TS3 :=
 (seq3 (set3 5 (o3 addR (o3 addR (o3 subR (o3 fdivR (c3 (.int 2500)) (o3 addR (v3 4) (c3 (.int 2)))) (c3 (.int 4))) (call3 sp_q5 (cons3 (v3 1) (cons3 (c3 (.int 5)) nil3)))) (o3 mulR (o3 mulR (call3 sp_q5 (cons3 (v3 1) (cons3 (c3 (.int 2)) nil3))) (call3 sp_q5 (cons3 (v3 1) (cons3 (c3 (.int 3)) nil3)))) (o3 powR (c3 (.int 10)) (c3 (.int 12)))))) (tf2 sp_q1 sp_q2 sp_q3 sp_q4 sp_q5))
def xg2 (sp_q1 sp_q2 sp_q3 sp_q4 sp_q5:Sp3):TS3 :=
 (seq3 (set3 4 (o3 addR [21] (call3 sp_q5 (cons3 (v3 1) (cons3 (c3 (.int 60)) nil3))))) (sf2 sp_q1 sp_q2 sp_q3 sp_q4 sp_q5))
def yg2 (sp_q1 sp_q2 sp_q3 sp_q4 sp_q5:Sp3):TS3 :=
 (seq3 (ifs3 (b3 (o3 gtR (call3 sp_q5 (cons3 (v3 1) (cons3 (c3 (.int 8)) nil3))) [19])) (ret3 (c3 (.bl true))) next3) (xg2 sp_q1 sp_q2 sp_q3 sp_q4 sp_q5))
def si1 (sp_q1 sp_q2 sp_q3 sp_q4 sp_q5:Sp3):TS3 :=
 (seq3 (for3 (ir3 (cons3 (c3 (.int 5)) nil3)) (gn3 3) (ifs3 (b3 (o3 neR (call3 sp_q2 (cons3 (v3 3) (cons3 (v3 2) nil3))) (lst3 (cons3 (c3 (.bl false)) (cons3 (c3 (.bl true)) (cons3 (c3 (.bl false)) (cons3 (c3 (.bl false)) (cons3 (c3 (.bl false)) (cons3 (c3 (.bl false)) (cons3 (c3 (.bl true)) nil3)))))))))) (ret3 (c3 (.bl false))) next3)) (yg2 sp_q1 sp_q2 sp_q3 sp_q4 sp_q5))
def zg2 (sp_q1 sp_q2 sp_q3 sp_q4 sp_q5:Sp3):TS3 :=
 (seq3 (set3 2 (call3 sp_q1 (cons3 (v3 1) (cons3 (call3 sp_q3 (cons3 (v3 1) (cons3 (c3 (.int 6)) nil3))) nil3)))) (si1 sp_q1 sp_q2 sp_q3 sp_q4 sp_q5))
def th3 (sp_q1 sp_q2 sp_q3 sp_q4 sp_q5:Sp3):TS3 :=
 (seq3 (set3 1 (call3 sp_q4 (cons3 (v3 0) (cons3 [19] nil3)))) (zg2 sp_q1 sp_q2 sp_q3 sp_q4 sp_q5))
end Pv
namespace Pv
open PySem PySem.Spec PyProof.Rows L2
section
variable {P:Program} {w:World} {K:Fg} {mg:[23]} {base:Heap}
theorem sc_q10:FnScope sn2 ["picture"] (va0 yq1):=[2]
theorem wp3 {k:Nat} {f:Addr} {cdv:Value} {A:Around} {outer:List Env} {s:[39]} {H:Hp} {E:XK} {XE:XE3} (EX:EXok K mg XE E) {spx_q12:XE3->Sp3} {k_q12:Nat} (c_q12:CalX P w K mg base k_q12 "check_stroke" ["stroke"] spx_q12) (l_q12:k_q12<=k) {C_NoPicture:Addr} (O_NoPicture:OwnCls "NoPicture" C_NoPicture [.type "ValueError",.type "Exception",.type "BaseException",.type "object"] "ValueError.__new__" mg base) (z_len:mg "len" = none) (z_range:mg "range" = none) (hr:Room k (A.deeper (envOfC "check_picture" (va0 yq1) s.heap.objs.size f cdv))) :
    RSs (cxOf (CXn P w) P w K mg base sn2 "check_picture" (va0 yq1) f cdv A outer s H E) (vb0 yq1) (ut2 XE spx_q12) :=
 (sa0 (sf0 PassesOwn.leaving rfl (xe0 (ya0 0)) (zc0 (i:=1) sc_q10.nd) (yb0 (vd0 (we0 EX (c_q12.mono l_q12) hr (xa0 (ya0 1) ta0))))) (yb0 (sf0 PassesOwn.leaving rfl (vo0 z_range ua0 (wd0 tw0 z_len tk0 (xa0 (ya0 0) ta0))) (zc0 (i:=2) sc_q10.nd) (yb0 (zf0 (tc0 (vi4 (hu64 hr)) (uc0 q_ix (ya0 0) (sb0 yj0 (ya0 2) ua0)) (uc0 q_ix (ya0 0) (ya0 2))) (yb0 (ww0 EX O_NoPicture excBase_ValueError [9] excBase_ValueError (xa0 yw1 ta0))) zd0)))))
theorem vl3:FnScope yf3 ["stroke"] (va0 sp1):=[2]
theorem yp3 {k:Nat} {f:Addr} {cdv:Value} {A:Around} {outer:List Env} {s:[39]} {H:Hp} {E:XK} {XE:XE3} (EX:EXok K mg XE E) {C_NoPicture:Addr} (O_NoPicture:OwnCls "NoPicture" C_NoPicture [.type "ValueError",.type "Exception",.type "BaseException",.type "object"] "ValueError.__new__" mg base) (z_len:mg "len" = none) (g_WAYS:Gd K mg "WAYS" zj0) (hr:Room k (A.deeper (envOfC "check_stroke" (va0 sp1) s.heap.objs.size f cdv))) :
    RSs (cxOf (CXn P w) P w K mg base yf3 "check_stroke" (va0 sp1) f cdv A outer s H E) (vb0 sp1) (yi3 XE) :=
 (yb0 (zf0 (xm3 (ve4 (tc0 (q_ne (hu64 hr)) (wd0 tw0 z_len tk0 (xa0 (ya0 0) ta0)) ua0) (ym3 (tc0 (yw2 (hu65 hr)) [15] (re_g g_WAYS))))) (yb0 (ww0 EX O_NoPicture excBase_ValueError [9] excBase_ValueError (xa0 yw1 ta0))) zd0))
theorem wl3:FnScope xf3 ["stroke"] (va0 tp1):=[2]
theorem xp3 {k:Nat} {f:Addr} {cdv:Value} {A:Around} {outer:List Env} {s:[39]} {H:Hp} {E:XK} (hr:Room k (A.deeper (envOfC "ends_of" (va0 tp1) s.heap.objs.size f cdv))) :
    RSs (cxOf CX0 P w K mg base xf3 "ends_of" (va0 tp1) f cdv A outer s H E).nox (vb0 tp1) (xi3) :=
 (sa0 (zf0 (tc0 (q_eq (hu64 hr)) [15] ua0) (yb0 (vc0 (ub0 (xa0 (ub0 (xa0 [15] (xa0 [15] ta0))) (xa0 (ub0 (xa0 (sb0 ze0 [15] ua0) (xa0 [15] ta0))) ta0))))) zd0) (yb0 (vc0 (ub0 (xa0 (ub0 (xa0 [15] (xa0 [15] ta0))) (xa0 (ub0 (xa0 [15] (xa0 (sb0 ze0 [15] ua0) ta0))) ta0))))))
theorem sc_q23:FnScope ze3 ["picture"] (va0 zp1):=[2]
theorem zo3 {k:Nat} {f:Addr} {cdv:Value} {A:Around} {outer:List Env} {s:[39]} {H:Hp} {E:XK} {sp_q14:Sp3} {k_q14:Nat} (c_q14:Cal P w K mg base k_q14 "ends_of" ["stroke"] sp_q14) (l_q14:k_q14<=k) (z_len:mg "len" = none) (z_max:mg "max" = none) (z_min:mg "min" = none) (hr:Room k (A.deeper (envOfC "picture_box" (va0 zp1) s.heap.objs.size f cdv))) :
    RSs (cxOf CX0 P w K mg base ze3 "picture_box" (va0 zp1) f cdv A outer s H E).nox (vb0 zp1) (wh3 sp_q14) :=
 (sa0 (zf0 (tc0 (q_eq (hu64 hr)) (wd0 tw0 z_len tk0 (xa0 (ya0 0) ta0)) ua0) (yb0 (vc0 xk1)) zd0) (sa0 (zw0 (i:=1) sc_q23.nd (NN:=["stroke"]) [12] [12] [12] (xe0 (ya0 0)) (λ _ _ _ _ _=>(zc0 (i:=0) (show List.Nodup (["stroke"]:List Str) by decide +kernel))) (λ _ _ _ _ _=>yf0) (λ _ _ _ _ _=>(uc0 q_ix (xc0 (c_q14.mono l_q14) hr (xa0 (ya0 0) ta0)) ua0))) (sa0 (zw0 (i:=2) sc_q23.nd (NN:=["stroke"]) [12] [12] [12] (xe0 (ya0 0)) (λ _ _ _ _ _=>(zc0 (i:=0) (show List.Nodup (["stroke"]:List Str) by decide +kernel))) (λ _ _ _ _ _=>yf0) (λ _ _ _ _ _=>(uc0 q_ix (xc0 (c_q14.mono l_q14) hr (xa0 (ya0 0) ta0)) ua0))) (sa0 (wb0 (i:=3) sc_q23.nd (ub0 (xa0 (wd0 (wp2 rfl) z_min zs2 (xa0 (vj0 (NN:=["point"]) [12] [12] [12] (xe0 (ya0 1)) (λ _ _ _ _ _=>(zc0 (i:=0) (show List.Nodup (["point"]:List Str) by decide +kernel))) (λ _ _ _ _ _=>yf0) (λ _ _ _ _ _=>[15])) ta0)) (xa0 (wd0 (wp2 rfl) z_min zs2 (xa0 (vj0 (NN:=["point"]) [12] [12] [12] (xe0 (ya0 1)) (λ _ _ _ _ _=>(zc0 (i:=0) (show List.Nodup (["point"]:List Str) by decide +kernel))) (λ _ _ _ _ _=>yf0) (λ _ _ _ _ _=>[15])) ta0)) ta0)))) (yb0 (vc0 (sb0 ze0 (ya0 3) (ub0 (xa0 (wd0 (vp2 rfl) z_max ze2 (xa0 (vj0 (NN:=["point"]) [12] [12] [12] (xe0 (ya0 2)) (λ _ _ _ _ _=>(zc0 (i:=0) (show List.Nodup (["point"]:List Str) by decide +kernel))) (λ _ _ _ _ _=>yf0) (λ _ _ _ _ _=>[15])) ta0)) (xa0 (wd0 (vp2 rfl) z_max ze2 (xa0 (vj0 (NN:=["point"]) [12] [12] [12] (xe0 (ya0 2)) (λ _ _ _ _ _=>(zc0 (i:=0) (show List.Nodup (["point"]:List Str) by decide +kernel))) (λ _ _ _ _ _=>yf0) (λ _ _ _ _ _=>[15])) ta0)) ta0))))))))))
theorem sc_q24:FnScope ye3 ["picture"] (va0 yp1):=[2]
theorem yo3 {k:Nat} {f:Addr} {cdv:Value} {A:Around} {outer:List Env} {s:[39]} {H:Hp} {E:XK} {XE:XE3} (EX:EXok K mg XE E) {spx_q10:XE3->Sp3} {k_q10:Nat} (c_q10:CalX P w K mg base k_q10 "check_picture" ["picture"] spx_q10) (l_q10:k_q10<=k) {sp_q25:Sp3} {k_q25:Nat} (c_q25:Cal P w K mg base k_q25 "piece_with" ["stroke", "at", "seen"] sp_q25) (l_q25:k_q25<=k) {sp_q29:Sp3} {k_q29:Nat} (c_q29:Cal P w K mg base k_q29 "strokes_at" ["picture"] sp_q29) (l_q29:k_q29<=k) (hr:Room k (A.deeper (envOfC "picture_pieces" (va0 yp1) s.heap.objs.size f cdv))) :
    RSs (cxOf (CXn P w) P w K mg base ye3 "picture_pieces" (va0 yp1) f cdv A outer s H E) (vb0 yp1) (zh3 XE spx_q10 sp_q25 sp_q29) :=
 (sa0 (vd0 (we0 EX (c_q10.mono l_q10) hr (xa0 (ya0 0) ta0))) (sa0 (wb0 (i:=1) sc_q24.nd (xc0 (c_q29.mono l_q29) hr (xa0 (ya0 0) ta0))) (sa0 (wb0 (i:=2) sc_q24.nd zw1) (sa0 (wb0 (i:=3) sc_q24.nd (ye0 ta0)) (sa0 (sf0 PassesOwn.leaving rfl (xe0 (ya0 0)) (zc0 (i:=4) sc_q24.nd) (yb0 (zf0 (tc0 (uw1 (hu64 hr)) (ya0 4) (ya0 2)) (yb0 (vd0 (zh0 (ya0 3) (xa0 (xc0 (c_q25.mono l_q25) hr (xa0 (ya0 4) (xa0 (ya0 1) (xa0 (ya0 2) ta0)))) ta0)))) zd0))) (yb0 (vc0 (ya0 3))))))))
theorem sc_q29:FnScope vd3 ["picture"] (va0 wo1):=[2]
theorem wn3 {k:Nat} {f:Addr} {cdv:Value} {A:Around} {outer:List Env} {s:[39]} {H:Hp} {E:XK} {sp_q14:Sp3} {k_q14:Nat} (c_q14:Cal P w K mg base k_q14 "ends_of" ["stroke"] sp_q14) (l_q14:k_q14<=k) (hr:Room k (A.deeper (envOfC "strokes_at" (va0 wo1) s.heap.objs.size f cdv))) :
    RSs (cxOf CX0 P w K mg base vd3 "strokes_at" (va0 wo1) f cdv A outer s H E).nox (vb0 wo1) (ug3 sp_q14) :=
 (sa0 (wb0 (i:=1) sc_q29.nd zw1) (sa0 (sf0 PassesOwn.never rfl (xe0 (ya0 0)) (zc0 (i:=2) sc_q29.nd) (yb0 (sf0 PassesOwn.never rfl (xe0 (xc0 (c_q14.mono l_q14) hr (xa0 (ya0 2) ta0))) (zc0 (i:=3) sc_q29.nd) (yb0 (vd0 (zh0 (xg4 (hu64 hr) (ya0 1) (xa0 (ya0 3) (xa0 (ye0 ta0) ta0))) (xa0 (ya0 2) ta0))))))) (yb0 (vc0 (ya0 1)))))
theorem sc_q25:FnScope xe3 ["stroke", "at", "seen"] (va0 xp1):=[2]
theorem xo3 {k:Nat} {f:Addr} {cdv:Value} {A:Around} {outer:List Env} {s:[39]} {H:Hp} {E:XK} {sp_q14:Sp3} {k_q14:Nat} (c_q14:Cal P w K mg base k_q14 "ends_of" ["stroke"] sp_q14) (l_q14:k_q14<=k) {sp_q31:Sp3} {k_q31:Nat} (c_q31:Cal P w K mg base k_q31 "take_unseen" ["strokes", "seen"] sp_q31) (l_q31:k_q31<=k) (z_len:mg "len" = none) (z_sorted:mg "sorted" = none) (z_tuple:mg "tuple" = none) (hr:Room k (A.deeper (envOfC "piece_with" (va0 xp1) s.heap.objs.size f cdv))) :
    RSs (cxOf CX0 P w K mg base xe3 "piece_with" (va0 xp1) f cdv A outer s H E).nox (vb0 xp1) (yh3 sp_q14 sp_q31) :=
 (sa0 (uf1 (hu64 hr) (ya0 2) (ya0 0) tg0) (sa0 (wb0 (i:=3) sc_q25.nd (ye0 (xa0 (ya0 0) ta0))) (sa0 (wb0 (i:=4) sc_q25.nd ua0) (sa0 (vj1 PassesOwn.never (tc0 q_lt (ya0 4) (wd0 tw0 z_len tk0 (xa0 (ya0 3) ta0))) (sa0 (wb0 (i:=5) sc_q25.nd (uc0 q_ix (ya0 3) (ya0 4))) (sa0 (sf0 PassesOwn.never rfl (xe0 (xc0 (c_q14.mono l_q14) hr (xa0 (ya0 5) ta0))) (zc0 (i:=6) sc_q25.nd) (yb0 (vd0 (wb1 (ya0 3) (xa0 (xc0 (c_q31.mono l_q31) hr (xa0 (yg4 (hu64 hr) (ya0 1) (ya0 6)) (xa0 (ya0 2) ta0))) ta0))))) (yb0 (wb0 (i:=4) sc_q25.nd (sb0 ze0 (ya0 4) ua0)))))) (yb0 (vc0 (yh0 uw0 z_tuple vn0 (xa0 (wd0 zk1 z_sorted uk0 (xa0 (ya0 3) ta0)) ta0))))))))
theorem sc_q31:FnScope zd3 ["strokes", "seen"] (va0 yo1):=[2]
theorem yn3 {k:Nat} {f:Addr} {cdv:Value} {A:Around} {outer:List Env} {s:[39]} {H:Hp} {E:XK} (hr:Room k (A.deeper (envOfC "take_unseen" (va0 yo1) s.heap.objs.size f cdv))) :
    RSs (cxOf CX0 P w K mg base zd3 "take_unseen" (va0 yo1) f cdv A outer s H E).nox (vb0 yo1) (wg3) :=
 (sa0 (yw0 (i:=2) sc_q31.nd (NN:=["stroke", "seen"]) (js:=[none,some 1]) rfl yz0 (xe0 (ya0 0)) (λ _ _ _ _ _=>(zc0 (i:=0) (show List.Nodup (["stroke", "seen"]:List Str) by decide +kernel))) (λ _ _ _ _ _=>(zv1 (tc0 (uw1 (hu64 hr)) (ya0 0) (ya0 1)))) (λ _ _ _ _ _=>(ya0 0)) (by intro _; rfl)) (sa0 (sf0 PassesOwn.never rfl (xe0 (ya0 2)) (zc0 (i:=3) sc_q31.nd) (yb0 (uf1 (hu64 hr) (ya0 1) (ya0 3) tg0))) (yb0 (vc0 (ya0 2)))))
theorem sc_q27:FnScope td3 ["picture"] (va0 uo1):=[2]
theorem tn3 {k:Nat} {f:Addr} {cdv:Value} {A:Around} {outer:List Env} {s:[39]} {H:Hp} {E:XK} {XE:XE3} (EX:EXok K mg XE E) {sp_q9:Sp3} {k_q9:Nat} (c_q9:Cal P w K mg base k_q9 "cells_round" ["box"] sp_q9) (l_q9:k_q9<=k) {spx_q10:XE3->Sp3} {k_q10:Nat} (c_q10:CalX P w K mg base k_q10 "check_picture" ["picture"] spx_q10) (l_q10:k_q10<=k) {spx_q11:XE3->Sp3} {k_q11:Nat} (c_q11:CalX P w K mg base k_q11 "check_size" ["box"] spx_q11) (l_q11:k_q11<=k) {sp_q23:Sp3} {k_q23:Nat} (c_q23:Cal P w K mg base k_q23 "picture_box" ["picture"] sp_q23) (l_q23:k_q23<=k) {sp_q30:Sp3} {k_q30:Nat} (c_q30:Cal P w K mg base k_q30 "take_cells" ["cell", "strokes", "unseen"] sp_q30) (l_q30:k_q30<=k) (z_dict:mg "dict" = none) (hr:Room k (A.deeper (envOfC "rooms_of" (va0 uo1) s.heap.objs.size f cdv))) :
    RSs (cxOf (CXn P w) P w K mg base td3 "rooms_of" (va0 uo1) f cdv A outer s H E) (vb0 uo1) (sg3 XE sp_q9 spx_q10 spx_q11 sp_q23 sp_q30) :=
 (sa0 (vd0 (we0 EX (c_q10.mono l_q10) hr (xa0 (ya0 0) ta0))) (sa0 (wb0 (i:=1) sc_q27.nd (xc0 (c_q23.mono l_q23) hr (xa0 (ya0 0) ta0))) (sa0 (zf0 (tc0 wi4 (ya0 1) xk1) (yb0 (vc0 (ye0 ta0))) zd0) (sa0 (vd0 (we0 EX (c_q11.mono l_q11) hr (xa0 (ya0 1) ta0))) (sa0 (wb0 (i:=2) sc_q27.nd (yh0 (vs3 (hu64 hr)) z_dict we2 (xa0 (vj0 (NN:=["stroke"]) [12] [12] [12] (xe0 (ya0 0)) (λ _ _ _ _ _=>(zc0 (i:=0) (show List.Nodup (["stroke"]:List Str) by decide +kernel))) (λ _ _ _ _ _=>yf0) (λ _ _ _ _ _=>(ub0 (xa0 (ya0 0) (xa0 tg0 ta0))))) ta0))) (sa0 (wb0 (i:=3) sc_q27.nd (yh0 (vs3 (hu64 hr)) z_dict we2 (xa0 (vj0 (NN:=["cell"]) [12] [12] [12] (xe0 (xc0 (c_q9.mono l_q9) hr (xa0 (ya0 1) ta0))) (λ _ _ _ _ _=>(zc0 (i:=0) (show List.Nodup (["cell"]:List Str) by decide +kernel))) (λ _ _ _ _ _=>yf0) (λ _ _ _ _ _=>(ub0 (xa0 (ya0 0) (xa0 tg0 ta0))))) ta0))) (sa0 (vd0 (xc0 (c_q30.mono l_q30) hr (xa0 (ub0 (xa0 (sb0 yj0 (uc0 q_ix (ya0 1) ua0) ua0) (xa0 (sb0 yj0 (uc0 q_ix (ya0 1) ua0) ua0) ta0))) (xa0 (ya0 2) (xa0 (ya0 3) ta0))))) (sa0 (wb0 (i:=4) sc_q27.nd (ye0 ta0)) (sa0 (sf0 PassesOwn.leaving rfl (xe0 (xc0 (c_q9.mono l_q9) hr (xa0 (ya0 1) ta0))) (zc0 (i:=5) sc_q27.nd) (yb0 (zf0 (tc0 (up2 (hu64 hr)) (ya0 5) (ya0 3)) (yb0 (vd0 (zh0 (ya0 4) (xa0 (xc0 (c_q30.mono l_q30) hr (xa0 (ya0 5) (xa0 (ya0 2) (xa0 (ya0 3) ta0)))) ta0)))) zd0))) (yb0 (vc0 (ya0 4))))))))))))
theorem ul3:FnScope zf3 ["box"] (va0 xq1):=[2]
theorem zp3 {k:Nat} {f:Addr} {cdv:Value} {A:Around} {outer:List Env} {s:[39]} {H:Hp} {E:XK} {XE:XE3} (EX:EXok K mg XE E) {C_NoRoom:Addr} (O_NoRoom:OwnCls "NoRoom" C_NoRoom [.type "ValueError",.type "Exception",.type "BaseException",.type "object"] "ValueError.__new__" mg base) (g_MOST_CELLS:Gd K mg "MOST_CELLS" ti0) (hr:Room k (A.deeper (envOfC "check_size" (va0 xq1) s.heap.objs.size f cdv))) :
    RSs (cxOf (CXn P w) P w K mg base zf3 "check_size" (va0 xq1) f cdv A outer s H E) (vb0 xq1) (zi3 XE) :=
 (yb0 (zf0 (tc0 q_gt (sb0 uq0 (sb0 ze0 (sb0 yj0 [15] [15]) ua0) (sb0 ze0 (sb0 yj0 [15] [15]) ua0)) (re_g g_MOST_CELLS)) (yb0 (ww0 EX O_NoRoom excBase_ValueError [9] excBase_ValueError (xa0 yw1 ta0))) zd0))
theorem sc_q9:FnScope N_q9 ["box"] (va0 s_q9):=[2]
theorem ue4 {k:Nat} {f:Addr} {cdv:Value} {A:Around} {outer:List Env} {s:[39]} {H:Hp} {E:XK} (z_range:mg "range" = none) (hr:Room k (A.deeper (envOfC "cells_round" (va0 s_q9) s.heap.objs.size f cdv))) :
    RSs (cxOf CX0 P w K mg base N_q9 "cells_round" (va0 s_q9) f cdv A outer s H E).nox (vb0 s_q9) (t_q9) :=
 (sa0 (wb0 (i:=1) sc_q9.nd (ye0 ta0)) (sa0 (sf0 PassesOwn.never rfl (vo0 z_range (sb0 yj0 [15] ua0) (sb0 ze0 [15] ua0)) (zc0 (i:=2) sc_q9.nd) (yb0 (vd0 (wb1 (ya0 1) (xa0 (yn0 (NN:=["y", "x"]) (js:=[none,some 2]) rfl yz0 (vo0 z_range (sb0 yj0 [15] ua0) (sb0 ze0 [15] ua0)) (λ _ _ _ _ _=>(zc0 (i:=0) (show List.Nodup (["y", "x"]:List Str) by decide +kernel))) (λ _ _ _ _ _=>yf0) (λ _ _ _ _ _=>(ub0 (xa0 (ya0 1) (xa0 (ya0 0) ta0)))) (by intro _; rfl)) ta0))))) (yb0 (vc0 (ya0 1)))))
theorem sc_q30:FnScope wd3 ["cell", "strokes", "unseen"] (va0 zo1):=[2]
theorem zn3 {k:Nat} {f:Addr} {cdv:Value} {A:Around} {outer:List Env} {s:[39]} {H:Hp} {E:XK} {sp_q18:Sp3} {k_q18:Nat} (c_q18:Cal P w K mg base k_q18 "neighbours_of" ["cell", "strokes"] sp_q18) (l_q18:k_q18<=k) (z_len:mg "len" = none) (z_sorted:mg "sorted" = none) (hr:Room k (A.deeper (envOfC "take_cells" (va0 zo1) s.heap.objs.size f cdv))) :
    RSs (cxOf CX0 P w K mg base wd3 "take_cells" (va0 zo1) f cdv A outer s H E).nox (vb0 zo1) (vg3 sp_q18) :=
 (sa0 (vd0 (yi2 slot_dict_pop type_dict_pop (mtDp (hu1 hr)) (ya0 2) (xa0 (ya0 0) ta0))) (sa0 (wb0 (i:=3) sc_q30.nd (ye0 (xa0 (ya0 0) ta0))) (sa0 (wb0 (i:=4) sc_q30.nd ua0) (sa0 (vj1 PassesOwn.never (tc0 q_lt (ya0 4) (wd0 tw0 z_len tk0 (xa0 (ya0 3) ta0))) (sa0 (wb0 (i:=5) sc_q30.nd (uc0 q_ix (ya0 3) (ya0 4))) (sa0 (sf0 PassesOwn.never rfl (xe0 (xc0 (c_q18.mono l_q18) hr (xa0 (ya0 5) (xa0 (ya0 1) ta0)))) (zc0 (i:=6) sc_q30.nd) (yb0 (zf0 (tc0 (up2 (hu64 hr)) (ya0 6) (ya0 2)) (sa0 (vd0 (yi2 slot_dict_pop type_dict_pop (mtDp (hu1 hr)) (ya0 2) (xa0 (ya0 6) ta0))) (yb0 (vd0 (zh0 (ya0 3) (xa0 (ya0 6) ta0))))) zd0))) (yb0 (wb0 (i:=4) sc_q30.nd (sb0 ze0 (ya0 4) ua0)))))) (yb0 (vc0 (wd0 ww1 z_sorted uk0 (xa0 (ya0 3) ta0))))))))
theorem yl3:FnScope ve3 ["cell", "strokes"] (va0 vp1):=[2]
theorem vo3 {k:Nat} {f:Addr} {cdv:Value} {A:Around} {outer:List Env} {s:[39]} {H:Hp} {E:XK} {sp_q28:Sp3} {k_q28:Nat} (c_q28:Cal P w K mg base k_q28 "sides_of_cell" ["cell"] sp_q28) (l_q28:k_q28<=k) (hr:Room k (A.deeper (envOfC "neighbours_of" (va0 vp1) s.heap.objs.size f cdv))) :
    RSs (cxOf CX0 P w K mg base ve3 "neighbours_of" (va0 vp1) f cdv A outer s H E).nox (vb0 vp1) (uh3 sp_q28) :=
 (yb0 (vc0 (yn0 (NN:=["side", "strokes"]) (js:=[none,some 1]) rfl yz0 (xe0 (xc0 (c_q28.mono l_q28) hr (xa0 (ya0 0) ta0))) (λ _ _ _ _ _=>(zc0 (i:=0) (show List.Nodup (["side", "strokes"]:List Str) by decide +kernel))) (λ _ _ _ _ _=>(zv1 (tc0 (uw1 (hu64 hr)) [15] (ya0 1)))) (λ _ _ _ _ _=>[15]) (by intro _; rfl))))
theorem sc_q28:FnScope ud3 ["cell"] (va0 vo1):=[2]
theorem vn3 {k:Nat} {f:Addr} {cdv:Value} {A:Around} {outer:List Env} {s:[39]} {H:Hp} {E:XK} (hr:Room k (A.deeper (envOfC "sides_of_cell" (va0 vo1) s.heap.objs.size f cdv))) :
    RSs (cxOf CX0 P w K mg base ud3 "sides_of_cell" (va0 vo1) f cdv A outer s H E).nox (vb0 vo1) (tg3) :=
 (sa0 (wb0 (i:=1) sc_q28.nd [15]) (sa0 (wb0 (i:=2) sc_q28.nd [15]) (sa0 (wb0 (i:=3) sc_q28.nd (ub0 (xa0 (ub0 (xa0 (sb0 ze0 (ya0 1) ua0) (xa0 (ya0 2) ta0))) (xa0 (ub0 (xa0 (sb0 ze0 (ya0 1) ua0) (xa0 (ya0 2) (xa0 ua0 ta0)))) ta0)))) (sa0 (wb0 (i:=4) sc_q28.nd (ub0 (xa0 (ub0 (xa0 (ya0 1) (xa0 (sb0 ze0 (ya0 2) ua0) ta0))) (xa0 (ub0 (xa0 (ya0 1) (xa0 (sb0 ze0 (ya0 2) ua0) (xa0 ua0 ta0)))) ta0)))) (sa0 (wb0 (i:=5) sc_q28.nd (ub0 (xa0 (ub0 (xa0 (sb0 yj0 (ya0 1) ua0) (xa0 (ya0 2) ta0))) (xa0 (ub0 (xa0 (ya0 1) (xa0 (ya0 2) (xa0 ua0 ta0)))) ta0)))) (sa0 (wb0 (i:=6) sc_q28.nd (ub0 (xa0 (ub0 (xa0 (ya0 1) (xa0 (sb0 yj0 (ya0 2) ua0) ta0))) (xa0 (ub0 (xa0 (ya0 1) (xa0 (ya0 2) (xa0 ua0 ta0)))) ta0)))) (yb0 (vc0 (ub0 (xa0 (ya0 3) (xa0 (ya0 4) (xa0 (ya0 5) (xa0 (ya0 6) ta0)))))))))))))
theorem xl3:FnScope sd3 ["picture", "cell"] (va0 to1):=[2]
theorem sn3 {k:Nat} {f:Addr} {cdv:Value} {A:Around} {outer:List Env} {s:[39]} {H:Hp} {E:XK} {XE:XE3} (EX:EXok K mg XE E) {sp_q19:Sp3} {k_q19:Nat} (c_q19:Cal P w K mg base k_q19 "numbers_of_cells" ["rooms"] sp_q19) (l_q19:k_q19<=k) {spx_q27:XE3->Sp3} {k_q27:Nat} (c_q27:CalX P w K mg base k_q27 "rooms_of" ["picture"] spx_q27) (l_q27:k_q27<=k) (hr:Room k (A.deeper (envOfC "room_at" (va0 to1) s.heap.objs.size f cdv))) :
    RSs (cxOf (CXn P w) P w K mg base sd3 "room_at" (va0 to1) f cdv A outer s H E) (vb0 to1) (xh3 XE sp_q19 spx_q27) :=
 (yb0 (vc0 (yi2 slot_dict_get type_dict_get (mtDg (hu1 hr)) (xc0 (c_q19.mono l_q19) hr (xa0 (we0 EX (c_q27.mono l_q27) hr (xa0 (ya0 0) ta0)) ta0)) (xa0 (ya0 1) ta0))))
theorem sc_q19:FnScope we3 ["rooms"] (va0 wp1):=[2]
theorem wo3 {k:Nat} {f:Addr} {cdv:Value} {A:Around} {outer:List Env} {s:[39]} {H:Hp} {E:XK} (z_len:mg "len" = none) (z_range:mg "range" = none) (hr:Room k (A.deeper (envOfC "numbers_of_cells" (va0 wp1) s.heap.objs.size f cdv))) :
    RSs (cxOf CX0 P w K mg base we3 "numbers_of_cells" (va0 wp1) f cdv A outer s H E).nox (vb0 wp1) (vh3) :=
 (sa0 (wb0 (i:=1) sc_q19.nd zw1) (sa0 (sf0 PassesOwn.never rfl (wk0 z_range (wd0 tw0 z_len tk0 (xa0 (ya0 0) ta0))) (zc0 (i:=2) sc_q19.nd) (yb0 (sf0 PassesOwn.never rfl (xe0 (uc0 q_ix (ya0 0) (ya0 2))) (zc0 (i:=3) sc_q19.nd) (yb0 (uf1 (hu64 hr) (ya0 1) (ya0 3) (ya0 2)))))) (yb0 (vc0 (ya0 1)))))
theorem sc_q35:FnScope yd3 ["picture"] (va0 xo1):=[2]
theorem xn3 {k:Nat} {f:Addr} {cdv:Value} {A:Around} {outer:List Env} {s:[39]} {H:Hp} {E:XK} {XE:XE3} (EX:EXok K mg XE E) {sp_q8:Sp3} {k_q8:Nat} (c_q8:Cal P w K mg base k_q8 "cells_beside" ["stroke"] sp_q8) (l_q8:k_q8<=k) {sp_q19:Sp3} {k_q19:Nat} (c_q19:Cal P w K mg base k_q19 "numbers_of_cells" ["rooms"] sp_q19) (l_q19:k_q19<=k) {spx_q27:XE3->Sp3} {k_q27:Nat} (c_q27:CalX P w K mg base k_q27 "rooms_of" ["picture"] spx_q27) (l_q27:k_q27<=k) (z_tuple:mg "tuple" = none) (hr:Room k (A.deeper (envOfC "walls_of" (va0 xo1) s.heap.objs.size f cdv))) :
    RSs (cxOf (CXn P w) P w K mg base yd3 "walls_of" (va0 xo1) f cdv A outer s H E) (vb0 xo1) (zg3 XE sp_q8 sp_q19 spx_q27) :=
 (sa0 (wb0 (i:=1) sc_q35.nd (we0 EX (c_q27.mono l_q27) hr (xa0 (ya0 0) ta0))) (sa0 (wb0 (i:=2) sc_q35.nd (xc0 (c_q19.mono l_q19) hr (xa0 (ya0 1) ta0))) (sa0 (zw0 (i:=3) sc_q35.nd (NN:=["room"]) [12] [12] [12] (xe0 (ya0 1)) (λ _ _ _ _ _=>(zc0 (i:=0) (show List.Nodup (["room"]:List Str) by decide +kernel))) (λ _ _ _ _ _=>yf0) (λ _ _ _ _ _=>(ye0 ta0))) (sa0 (sf0 PassesOwn.leaving rfl (xe0 (ya0 0)) (zc0 (i:=4) sc_q35.nd) (sa0 (yw0 (i:=5) sc_q35.nd (NN:=["cell", "numbers"]) (js:=[none,some 2]) rfl tm2 (xe0 (xc0 (c_q8.mono l_q8) hr (xa0 (ya0 4) ta0))) (λ _ _ _ _ _=>(zc0 (i:=0) (show List.Nodup (["cell", "numbers"]:List Str) by decide +kernel))) (λ _ _ _ _ _=>yf0) (λ _ _ _ _ _=>(yi2 slot_dict_get type_dict_get (mtDg (hu1 hr)) (ya0 1) (xa0 (ya0 0) ta0))) (by intro _; rfl)) (yb0 (zf0 (tc0 (q_ne (hu64 hr)) (uc0 q_ix (ya0 5) ua0) (uc0 q_ix (ya0 5) ua0)) (yb0 (sf0 PassesOwn.leaving rfl (xe0 (ya0 5)) (zc0 (i:=6) sc_q35.nd) (yb0 (zf0 (tc0 vi2 (ya0 6) xk1) (yb0 (vd0 (zh0 (uc0 q_ix (ya0 3) (ya0 6)) (xa0 (ya0 4) ta0)))) zd0)))) zd0)))) (yb0 (vc0 (vj0 (NN:=["strokes"]) [12] [12] [12] (xe0 (ya0 3)) (λ _ _ _ _ _=>(zc0 (i:=0) (show List.Nodup (["strokes"]:List Str) by decide +kernel))) (λ _ _ _ _ _=>yf0) (λ _ _ _ _ _=>(yh0 uw0 z_tuple vn0 (xa0 (ya0 0) ta0))))))))))
theorem sc_q8:FnScope N_q8 ["stroke"] (va0 s_q8):=[2]
theorem te4 {k:Nat} {f:Addr} {cdv:Value} {A:Around} {outer:List Env} {s:[39]} {H:Hp} {E:XK} (hr:Room k (A.deeper (envOfC "cells_beside" (va0 s_q8) s.heap.objs.size f cdv))) :
    RSs (cxOf CX0 P w K mg base N_q8 "cells_beside" (va0 s_q8) f cdv A outer s H E).nox (vb0 s_q8) (t_q8) :=
 (sa0 (wb0 (i:=1) sc_q8.nd [15]) (sa0 (wb0 (i:=2) sc_q8.nd [15]) (sa0 (zf0 (tc0 (q_eq (hu64 hr)) [15] ua0) (yb0 (vc0 (ub0 (xa0 (ub0 (xa0 (ya0 1) (xa0 (sb0 yj0 (ya0 2) ua0) ta0))) (xa0 (ub0 (xa0 (ya0 1) (xa0 (ya0 2) ta0))) ta0))))) zd0) (yb0 (vc0 (ub0 (xa0 (ub0 (xa0 (sb0 yj0 (ya0 1) ua0) (xa0 (ya0 2) ta0))) (xa0 (ub0 (xa0 (ya0 1) (xa0 (ya0 2) ta0))) ta0))))))))
theorem zl3:FnScope se3 ["picture"] (va0 up1):=[2]
theorem to3 {k:Nat} {f:Addr} {cdv:Value} {A:Around} {outer:List Env} {s:[39]} {H:Hp} {E:XK} {XE:XE3} (EX:EXok K mg XE E) {spx_q24:XE3->Sp3} {k_q24:Nat} (c_q24:CalX P w K mg base k_q24 "picture_pieces" ["picture"] spx_q24) (l_q24:k_q24<=k) (z_len:mg "len" = none) (hr:Room k (A.deeper (envOfC "is_ring" (va0 up1) s.heap.objs.size f cdv))) :
    RSs (cxOf (CXn P w) P w K mg base se3 "is_ring" (va0 up1) f cdv A outer s H E) (vb0 up1) (sh3 XE spx_q24) :=
 (sa0 (zf0 (tc0 (q_ne (hu64 hr)) (wd0 tw0 z_len tk0 (xa0 (we0 EX (c_q24.mono l_q24) hr (xa0 (ya0 0) ta0)) ta0)) ua0) (yb0 (vc0 tg0)) zd0) (yb0 vw0))
theorem xd4:FnScope N_q7 ["picture"] (va0 s_q7):=[2]
theorem se4 {k:Nat} {f:Addr} {cdv:Value} {A:Around} {outer:List Env} {s:[39]} {H:Hp} {E:XK} {XE:XE3} (EX:EXok K mg XE E) {spx_q15:XE3->Sp3} {k_q15:Nat} (c_q15:CalX P w K mg base k_q15 "is_ring" ["picture"] spx_q15) (l_q15:k_q15<=k) (hr:Room k (A.deeper (envOfC "area_of" (va0 s_q7) s.heap.objs.size f cdv))) :
    RSs (cxOf (CXn P w) P w K mg base N_q7 "area_of" (va0 s_q7) f cdv A outer s H E) (vb0 s_q7) (t_q7 XE spx_q15) :=
 (sa0 (zf0 (sm3 (tm3 (we0 EX (c_q15.mono l_q15) hr (xa0 (ya0 0) ta0)))) (yb0 (vc0 xk1)) zd0) (sa0 vw0 (yb0 vw0)))
theorem sc_q4:FnScope N_q4 ["script", "k"] (va0 s_q4):=[2]
theorem zf4 {k:Nat} {f:Addr} {cdv:Value} {A:Around} {outer:List Env} {s:[39]} {H:Hp} {E:XK} (z_len:mg "len" = none) (hr:Room k (A.deeper (envOfC "_law_state" (va0 s_q4) s.heap.objs.size f cdv))) :
    RSs (cxOf CX0 P w K mg base N_q4 "_law_state" (va0 s_q4) f cdv A outer s H E).nox (vb0 s_q4) (t_q4) :=
 (sa0 (wb0 (i:=2) sc_q4.nd ua0) (sa0 (zf0 (tc0 q_lt (ya0 1) (wd0 tw0 z_len tk0 (xa0 (ya0 0) ta0))) (yb0 (wb0 (i:=2) sc_q4.nd (uc0 q_ix (ya0 0) (ya0 1)))) zd0) (sa0 (zf0 (tc0 q_ge (ya0 2) (sb0 wi2 ua0 ua0)) (yb0 (vc0 (ye0 (xa0 (sb0 yj0 (ya0 2) (sb0 wi2 ua0 ua0)) (xa0 ua0 ta0))))) zd0) (yb0 (vc0 (ye0 (xa0 (sb0 tf1 (sb0 ze0 (ya0 2) (sb0 uq0 ua0 (ya0 1))) ua0) (xa0 ua0 ta0))))))))
theorem sc_q5:FnScope N_q5 ["state", "many"] (va0 s_q5):=[2]
theorem yf4 {k:Nat} {f:Addr} {cdv:Value} {A:Around} {outer:List Env} {s:[39]} {H:Hp} {E:XK} (hr:Room k (A.deeper (envOfC "_law_take" (va0 s_q5) s.heap.objs.size f cdv))) :
    RSs (cxOf CX0 P w K mg base N_q5 "_law_take" (va0 s_q5) f cdv A outer s H E).nox (vb0 s_q5) (t_q5) :=
 (sa0 (zf0 (xm3 (zm3 (tc0 (q_eq (hu64 hr)) [15] ua0) (wv2 (tc0 q_gt [15] ua0)))) (sa0 (wb0 (i:=2) sc_q5.nd (sb0 tf1 [15] (ya0 1))) (sa0 (wv1 (sb0 vw1 [15] (ya0 1)) (tv1 (ya0 0) ua0)) (yb0 (vc0 (ya0 2))))) zd0) (sa0 (wv1 ua0 (tv1 (ya0 0) ua0)) (sa0 (wv1 (sb0 tf1 (sb0 ze0 (sb0 uq0 [15] ua0) ua0) ua0) (tv1 (ya0 0) ua0)) (sa0 (wb0 (i:=3) sc_q5.nd (sb0 tf1 (sb0 ze0 (sb0 uq0 [15] [15]) (sb0 uq0 ua0 [15])) ua0)) (sa0 (wb0 (i:=3) sc_q5.nd (sb0 tf1 (sb0 ze0 (sb0 uq0 (ya0 3) (ya0 3)) (sb0 uq0 ua0 (ya0 3))) ua0)) (yb0 (vc0 (sb0 tf1 (sb0 vw1 (ya0 3) ua0) (ya0 1)))))))))
theorem sc_q3:FnScope N_q3 ["state", "most"] (va0 s_q3):=[2]
theorem wf4 {k:Nat} {f:Addr} {cdv:Value} {A:Around} {outer:List Env} {s:[39]} {H:Hp} {E:XK} {sp_q5:Sp3} {k_q5:Nat} (c_q5:Cal P w K mg base k_q5 "_law_take" ["state", "many"] sp_q5) (l_q5:k_q5<=k) (z_range:mg "range" = none) (z_set:mg "set" = none) (z_sorted:mg "sorted" = none) (z_tuple:mg "tuple" = none) (hr:Room k (A.deeper (envOfC "_law_lines" (va0 s_q3) s.heap.objs.size f cdv))) :
    RSs (cxOf CX0 P w K mg base N_q3 "_law_lines" (va0 s_q3) f cdv A outer s H E).nox (vb0 s_q3) (t_q3 sp_q5) :=
 (sa0 (wb0 (i:=2) sc_q3.nd (sb0 ze0 ua0 (xc0 (c_q5.mono l_q5) hr (xa0 (ya0 0) (xa0 ua0 ta0))))) (sa0 (wb0 (i:=3) sc_q3.nd (sb0 ze0 ua0 (xc0 (c_q5.mono l_q5) hr (xa0 (ya0 0) (xa0 ua0 ta0))))) (sa0 (wb0 (i:=4) sc_q3.nd (ye0 ta0)) (sa0 (sf0 PassesOwn.never rfl (wk0 z_range (xc0 (c_q5.mono l_q5) hr (xa0 (ya0 0) (xa0 (sb0 ze0 (ya0 1) ua0) ta0)))) (zc0 (i:=5) sc_q3.nd) (sa0 (wb0 (i:=6) sc_q3.nd (sb0 yj0 (xc0 (c_q5.mono l_q5) hr (xa0 (ya0 0) (xa0 (ya0 2) ta0))) ua0)) (sa0 (wb0 (i:=7) sc_q3.nd (sb0 yj0 (xc0 (c_q5.mono l_q5) hr (xa0 (ya0 0) (xa0 (ya0 3) ta0))) ua0)) (sa0 (wb0 (i:=8) sc_q3.nd (xc0 (c_q5.mono l_q5) hr (xa0 (ya0 0) (xa0 ua0 ta0)))) (yb0 (zf0 (tc0 q_lt (ya0 8) ua0) (yb0 (vd0 (zh0 (ya0 4) (xa0 (ub0 (xa0 (ya0 6) (xa0 (ya0 7) (xa0 (sb0 tf1 (ya0 8) ua0) ta0)))) ta0)))) (yb0 (wb0 (i:=4) sc_q3.nd (sb0 ze0 (ya0 4) (ye0 (xa0 (ub0 (xa0 (ya0 6) (xa0 (ya0 7) (xa0 ua0 ta0)))) (xa0 (ub0 (xa0 (ya0 6) (xa0 (ya0 7) (xa0 ua0 ta0)))) (xa0 (ub0 (xa0 (ya0 6) (xa0 (sb0 ze0 (ya0 7) ua0) (xa0 ua0 ta0)))) (xa0 (ub0 (xa0 (sb0 ze0 (ya0 6) ua0) (xa0 (ya0 7) (xa0 ua0 ta0)))) ta0)))))))))))))) (yb0 (vc0 (yh0 uw0 z_tuple vn0 (xa0 (tv2 (vv2 (ya0 4) z_set (hu64 hr)) z_sorted) ta0))))))))
theorem sc_q6:FnScope N_q6 ["e"] (va0 s_q6):=[2]
theorem xf4 {k:Nat} {f:Addr} {cdv:Value} {A:Around} {outer:List Env} {s:[39]} {H:Hp} {E:XK} {C_BadNote:Addr} (m_BadNote:mg "BadNote" = some (.ref C_BadNote)) (x_BadNote:∀ c C b,subX "BadNote" c=some b->nsIn K mainGlobals c=some (some (.ref C))->ExcK K C /\ kitOne K (.ref C) (.ref C_BadNote)=some b) {C_NoNumber:Addr} (m_NoNumber:mg "NoNumber" = some (.ref C_NoNumber)) (x_NoNumber:∀ c C b,subX "NoNumber" c=some b->nsIn K mainGlobals c=some (some (.ref C))->ExcK K C /\ kitOne K (.ref C) (.ref C_NoNumber)=some b) {C_NoPicture:Addr} (m_NoPicture:mg "NoPicture" = some (.ref C_NoPicture)) (x_NoPicture:∀ c C b,subX "NoPicture" c=some b->nsIn K mainGlobals c=some (some (.ref C))->ExcK K C /\ kitOne K (.ref C) (.ref C_NoPicture)=some b) {C_NoRoom:Addr} (m_NoRoom:mg "NoRoom" = some (.ref C_NoRoom)) (x_NoRoom:∀ c C b,subX "NoRoom" c=some b->nsIn K mainGlobals c=some (some (.ref C))->ExcK K C /\ kitOne K (.ref C) (.ref C_NoRoom)=some b) {C_NoStep:Addr} (m_NoStep:mg "NoStep" = some (.ref C_NoStep)) (x_NoStep:∀ c C b,subX "NoStep" c=some b->nsIn K mainGlobals c=some (some (.ref C))->ExcK K C /\ kitOne K (.ref C) (.ref C_NoStep)=some b) {C_NoWord:Addr} (m_NoWord:mg "NoWord" = some (.ref C_NoWord)) (x_NoWord:∀ c C b,subX "NoWord" c=some b->nsIn K mainGlobals c=some (some (.ref C))->ExcK K C /\ kitOne K (.ref C) (.ref C_NoWord)=some b) (x_ValueError:∀ c C b,subX "ValueError" c=some b->nsIn K mainGlobals c=some (some (.ref C))->ExcK K C /\ kitOne K (.ref C) (.type "ValueError")=some b) (z_ValueError:mg "ValueError" = none) (z_isinstance:mg "isinstance" = none) (hr:RoomM k (A.deeper (envOfC "_law_which" (va0 s_q6) s.heap.objs.size f cdv))) :
    RSs (cxM CX0 P w K mg base N_q6 "_law_which" (va0 s_q6) f cdv A outer s H E).nox (vb0 s_q6) (t_q6) :=
 (sa0 (wb0 (i:=1) sc_q6.nd (ye0 (xa0 (so0 (ya0 0) (sr0 rfl m_NoWord) (λ _ h=>h) x_NoWord z_isinstance) (xa0 (so0 (ya0 0) (sr0 rfl m_NoPicture) (λ _ h=>h) x_NoPicture z_isinstance) (xa0 (so0 (ya0 0) (sr0 rfl m_NoRoom) (λ _ h=>h) x_NoRoom z_isinstance) (xa0 (so0 (ya0 0) (sr0 rfl m_NoStep) (λ _ h=>h) x_NoStep z_isinstance) ta0)))))) (yb0 (vc0 (sb0 ze0 (ya0 1) (ye0 (xa0 (so0 (ya0 0) (sr0 rfl m_NoNumber) (λ _ h=>h) x_NoNumber z_isinstance) (xa0 (so0 (ya0 0) (sr0 rfl m_BadNote) (λ _ h=>h) x_BadNote z_isinstance) (xa0 (so0 (ya0 0) (ty2 rfl z_ValueError uz0 (show RelV (.ty "ValueError") (.type "ValueError") from rfl)) (λ _ h=>h) x_ValueError z_isinstance) ta0))))))))
theorem yd4:FnScope N_q0 ["way", "lines"] (va0 s_q0):=[2]
theorem tf4 {k:Nat} {f:Addr} {cdv:Value} {A:Around} {outer:List Env} {s:[39]} {H:Hp} {E:XK} {XE:XE3} (EX:EXok K mg XE E) {spx_q7:XE3->Sp3} {k_q7:Nat} (c_q7:CalX P w K mg base k_q7 "area_of" ["picture"] spx_q7) (l_q7:k_q7<=k) {spx_q15:XE3->Sp3} {k_q15:Nat} (c_q15:CalX P w K mg base k_q15 "is_ring" ["picture"] spx_q15) (l_q15:k_q15<=k) {spx_q26:XE3->Sp3} {k_q26:Nat} (c_q26:CalX P w K mg base k_q26 "room_at" ["picture", "cell"] spx_q26) (l_q26:k_q26<=k) {spx_q27:XE3->Sp3} {k_q27:Nat} (c_q27:CalX P w K mg base k_q27 "rooms_of" ["picture"] spx_q27) (l_q27:k_q27<=k) {spx_q35:XE3->Sp3} {k_q35:Nat} (c_q35:CalX P w K mg base k_q35 "walls_of" ["picture"] spx_q35) (l_q35:k_q35<=k) (hr:Room k (A.deeper (envOfC "_law_asked" (va0 s_q0) s.heap.objs.size f cdv))) :
    RSs (cxOf (CXn P w) P w K mg base N_q0 "_law_asked" (va0 s_q0) f cdv A outer s H E) (vb0 s_q0) (t_q0 XE spx_q7 spx_q15 spx_q26 spx_q27 spx_q35) :=
 (yb0 (zf0 (tc0 (q_eq (hu64 hr)) (ya0 0) ua0) (yb0 (vd0 (we0 EX (c_q27.mono l_q27) hr (xa0 (ya0 1) ta0)))) (yb0 (zf0 (tc0 (q_eq (hu64 hr)) (ya0 0) ua0) (yb0 (vd0 (we0 EX (c_q26.mono l_q26) hr (xa0 (ya0 1) (xa0 (ub0 (xa0 ua0 (xa0 ua0 ta0))) ta0))))) (yb0 (zf0 (tc0 (q_eq (hu64 hr)) (ya0 0) ua0) (yb0 (vd0 (we0 EX (c_q35.mono l_q35) hr (xa0 (ya0 1) ta0)))) (yb0 (zf0 (tc0 (q_eq (hu64 hr)) (ya0 0) ua0) (yb0 (vd0 (we0 EX (c_q15.mono l_q15) hr (xa0 (ya0 1) ta0)))) (yb0 (vd0 (we0 EX (c_q7.mono l_q7) hr (xa0 (ya0 1) ta0))))))))))))
theorem sc_q2:FnScope N_q2 ["way", "lines"] (va0 s_q2):=[2]
theorem vf4 {k:Nat} {f:Addr} {cdv:Value} {A:Around} {outer:List Env} {s:[39]} {H:Hp} {E:XK} {spx_q0:XE3->Sp3} {k_q0:Nat} (c_q0:CalX P w K mg base k_q0 "_law_asked" ["way", "lines"] spx_q0) (l_q0:k_q0<=k) {sp_q6:Sp3} {k_q6:Nat} (c_q6:CalM P w K mg base k_q6 "_law_which" ["e"] sp_q6) (l_q6:k_q6<=k) {C_PenError:Addr} (m_PenError:mg "PenError" = some (.ref C_PenError)) (k2_PenError:kitCls K (.ref C_PenError) (.type "BaseException")=some true) (k3:kitCls K (.type "type") (.type "tuple")=some false) (ok_PenError:∀ c,okX c=true->∃ C,nsIn K mainGlobals c=some (some (.ref C)) /\ mg c=some (.ref C) /\ kitCls K (.ref C) (.ref C_PenError)=some true) (hr:Room k (A.deeper (envOfC "_law_flags" (va0 s_q2) s.heap.objs.size f cdv))) :
    RSs (cxOf CX0 P w K mg base N_q2 "_law_flags" (va0 s_q2) f cdv A outer s H E).nox (vb0 s_q2) (t_q2 spx_q0 sp_q6) :=
 (sa0 (wb0 (i:=2) sc_q2.nd (ye0 ta0)) (sa0 (uv2 (i:=3) (c_q0.mono l_q0) hr (xa0 (ya0 0) (xa0 (ya0 1) ta0)) (λ _=>(yb0 (wb0 (i:=2) sc_q2.nd (zi2 (c_q6.mono l_q6) (RoomM.of hr _) (xa0 (ya0 3) ta0))))) sc_q2.nd m_PenError k2_PenError k3 ok_PenError) (yb0 (vc0 (ya0 2)))))
theorem sc_q1:FnScope N_q1 ["state", "lines"] (va0 s_q1):=[2]
theorem uf4 {k:Nat} {f:Addr} {cdv:Value} {A:Around} {outer:List Env} {s:[39]} {H:Hp} {E:XK} {sp_q5:Sp3} {k_q5:Nat} (c_q5:Cal P w K mg base k_q5 "_law_take" ["state", "many"] sp_q5) (l_q5:k_q5<=k) (z_len:mg "len" = none) (hr:Room k (A.deeper (envOfC "_law_bad" (va0 s_q1) s.heap.objs.size f cdv))) :
    RSs (cxOf CX0 P w K mg base N_q1 "_law_bad" (va0 s_q1) f cdv A outer s H E).nox (vb0 s_q1) (t_q1 sp_q5) :=
 (sa0 (wb0 (i:=2) sc_q1.nd (xc0 (c_q5.mono l_q5) hr (xa0 (ya0 0) (xa0 (sb0 ze0 (wd0 tw0 z_len tk0 (xa0 (ya0 1) ta0)) ua0) ta0)))) (sa0 (wb0 (i:=3) sc_q1.nd (ye0 (xa0 (ub0 (xa0 ua0 (xa0 ua0 (xa0 ua0 ta0)))) (xa0 (ub0 (xa0 ua0 (xa0 ua0 (xa0 (sf4 yi4 ua0) ta0)))) (xa0 (ub0 (xa0 ua0 (xa0 ua0 (xa0 (sb0 wi2 ua0 ua0) ta0)))) (xa0 (ub0 (xa0 ua0 (xa0 ua0 ta0))) (xa0 (ub0 ta0) (xa0 (ub0 (xa0 ua0 (xa0 ua0 (xa0 ua0 (xa0 ua0 ta0))))) ta0)))))))) (sa0 (wb0 (i:=4) sc_q1.nd (xc0 (c_q5.mono l_q5) hr (xa0 (ya0 0) (xa0 ua0 ta0)))) (sa0 (zf0 (tc0 q_lt (ya0 4) ua0) (yb0 (vc0 (sb0 ze0 (sb0 ze0 (sj1 q_sl (ya0 1) uv1 (vv1 (ya0 2))) (ub0 (xa0 (uc0 q_ix (ya0 3) (ya0 4)) ta0))) (sj1 q_sl (ya0 1) (vv1 (ya0 2)) uv1)))) zd0) (sa0 (zf0 (tc0 (q_eq (hu64 hr)) (ya0 4) ua0) (yb0 (vc0 (sb0 ze0 (ya0 1) (ub0 (xa0 (ub0 (xa0 ua0 (xa0 ua0 (xa0 ua0 ta0)))) (xa0 (ub0 (xa0 ua0 (xa0 ua0 (xa0 ua0 ta0)))) ta0)))))) zd0) (yb0 (vc0 (sb0 ze0 (ya0 1) (ub0 (xa0 (ub0 (xa0 ua0 (xa0 ua0 (xa0 ua0 ta0)))) (xa0 (ub0 (xa0 ua0 (xa0 ua0 (xa0 ua0 ta0)))) ta0)))))))))))
theorem sc_q16:FnScope ue3 ["script"] (va0 vq0):=[2]
theorem uo3 {k:Nat} {f:Addr} {cdv:Value} {A:Around} {outer:List Env} {s:[39]} {H:Hp} {E:XK} {sp_q1:Sp3} {k_q1:Nat} (c_q1:Cal P w K mg base k_q1 "_law_bad" ["state", "lines"] sp_q1) (l_q1:k_q1<=k) {sp_q2:Sp3} {k_q2:Nat} (c_q2:Cal P w K mg base k_q2 "_law_flags" ["way", "lines"] sp_q2) (l_q2:k_q2<=k) {sp_q3:Sp3} {k_q3:Nat} (c_q3:Cal P w K mg base k_q3 "_law_lines" ["state", "most"] sp_q3) (l_q3:k_q3<=k) {sp_q4:Sp3} {k_q4:Nat} (c_q4:Cal P w K mg base k_q4 "_law_state" ["script", "k"] sp_q4) (l_q4:k_q4<=k) {sp_q5:Sp3} {k_q5:Nat} (c_q5:Cal P w K mg base k_q5 "_law_take" ["state", "many"] sp_q5) (l_q5:k_q5<=k) (z_max:mg "max" = none) (z_range:mg "range" = none) (z_sorted:mg "sorted" = none) (z_tuple:mg "tuple" = none) (hr:Room k (A.deeper (envOfC "law" (va0 vq0) s.heap.objs.size f cdv))) :
    RSs (cxOf CX0 P w K mg base ue3 "law" (va0 vq0) f cdv A outer s H E).nox (vb0 vq0) (th3 sp_q1 sp_q2 sp_q3 sp_q4 sp_q5) :=
 (sa0 (wb0 (i:=1) sc_q16.nd (xc0 (c_q4.mono l_q4) hr (xa0 (ya0 0) (xa0 ua0 ta0)))) (sa0 (wb0 (i:=2) sc_q16.nd (xc0 (c_q1.mono l_q1) hr (xa0 (ya0 1) (xa0 (xc0 (c_q3.mono l_q3) hr (xa0 (ya0 1) (xa0 ua0 ta0))) ta0)))) (sa0 (sf0 PassesOwn.never rfl (wk0 z_range ua0) (zc0 (i:=3) sc_q16.nd) (yb0 (zf0 (tc0 (q_ne (hu64 hr)) (xc0 (c_q2.mono l_q2) hr (xa0 (ya0 3) (xa0 (ya0 2) ta0))) (ye0 (xa0 tg0 (xa0 tg0 (xa0 tg0 (xa0 tg0 (xa0 tg0 (xa0 tg0 (xa0 tg0 ta0))))))))) (yb0 (vc0 tg0)) zd0))) (sa0 (zf0 (tc0 q_gt (xc0 (c_q5.mono l_q5) hr (xa0 (ya0 1) (xa0 ua0 ta0))) ua0) (yb0 (vc0 tg0)) zd0) (sa0 (wb0 (i:=4) sc_q16.nd (sb0 ze0 ua0 (xc0 (c_q5.mono l_q5) hr (xa0 (ya0 1) (xa0 ua0 ta0))))) (sa0 (wb0 (i:=5) sc_q16.nd (sb0 ze0 (sb0 ze0 (sb0 yj0 (sb0 vw1 ua0 (sb0 ze0 (ya0 4) ua0)) ua0) (xc0 (c_q5.mono l_q5) hr (xa0 (ya0 1) (xa0 ua0 ta0)))) (sb0 uq0 (sb0 uq0 (xc0 (c_q5.mono l_q5) hr (xa0 (ya0 1) (xa0 ua0 ta0))) (xc0 (c_q5.mono l_q5) hr (xa0 (ya0 1) (xa0 ua0 ta0)))) (sb0 wi2 ua0 ua0)))) (sa0 (wb0 (i:=5) sc_q16.nd (wd0 (zi4 rfl) z_max ze2 (xa0 ua0 (xa0 (ya0 5) ta0)))) (sa0 (wb0 (i:=6) sc_q16.nd (yh0 uw0 z_tuple vn0 (xa0 (wd0 zk1 z_sorted uk0 (xa0 (ye0 (xa0 (ub0 (xa0 ua0 (xa0 ua0 (xa0 ua0 ta0)))) (xa0 (ub0 (xa0 (sb0 yj0 (ya0 4) ua0) (xa0 (ya0 5) (xa0 ua0 ta0)))) ta0))) ta0)) ta0))) (sa0 (wb0 (i:=7) sc_q16.nd (ye0 ta0)) (sa0 (zf0 (tc0 q_gt (sb0 uq0 (sb0 ze0 (ya0 4) ua0) (sb0 ze0 (ya0 5) ua0)) ua0) (yb0 (wb0 (i:=7) sc_q16.nd (ye0 (xa0 tg0 (xa0 tg0 (xa0 tg0 (xa0 tg0 (xa0 tg0 (xa0 tg0 (xa0 tg0 ta0)))))))))) zd0) (yb0 (vc0 (vp3 (ui4 (hu64 hr)) (yn0 (NN:=["way", "lines"]) (js:=[none,some 6]) rfl yz0 (wk0 z_range ua0) (λ _ _ _ _ _=>(zc0 (i:=0) (show List.Nodup (["way", "lines"]:List Str) by decide +kernel))) (λ _ _ _ _ _=>yf0) (λ _ _ _ _ _=>(xc0 (c_q2.mono l_q2) hr (xa0 (ya0 0) (xa0 (ya0 1) ta0)))) (by intro _; rfl)) (ye0 (xa0 (ya0 7) (xa0 (ya0 7) (xa0 (ya0 7) (xa0 (ye0 ta0) (xa0 (ye0 ta0) ta0)))))))))))))))))))
end
end Pv
namespace Mw
abbrev Pen:=Int × Int × Int
def cs (h:Int):Int:=if h=0 then 1 else if h=2 then -1 else 0
def sn (h:Int):Int:=if h=1 then 1 else if h=3 then -1 else 0
def led (p q:Pen):Pen:=(p.1 + q.1 * cs p.2.2 - q.2.1 * sn p.2.2,p.2.1 + q.1 * sn p.2.2 + q.2.1 * cs p.2.2,(p.2.2 + q.2.2) % 4)
def st:Pen:=(0,0,0)
def pw (p:Pen):Nat->Pen
 | 0=>st
 | n + 1=>led (pw p n) p
def rep (p:Pen) (n:Int):Pen:=if p.2.2=0 then (p.1 * n,p.2.1 * n,0) else pw p (n % 4).toNat
inductive Dd where
 | go (n:Int) | jump (n:Int) | turn (n:Int) | times (n:Int) (w:List Dd)
def G:Int:=99999999999999999999
mutual
def sk:Dd->Int
 | .go n=>n
 | .times n w=>n * sks w
 | _=>0
def sks:List Dd->Int
 | []=>0
 | d :: r=>sk d + sks r
end
mutual
def dn:Dd->Int
 | .times n w=>n * dns w
 | _=>1
def dns:List Dd->Int
 | []=>0
 | d :: r=>dn d + dns r
end
mutual
def pd:Dd->Pen
 | .go n=>(n,0,0)
 | .jump n=>(n,0,0)
 | .turn n=>(0,0,n % 4)
 | .times n w=>rep (pb w) n
def pb:List Dd->Pen
 | []=>st
 | d :: r=>led (pd d) (pb r)
end
end Mw
namespace Mw
def ab (x:Int):Int:=if x < 0 then -x else x
def pm (p:Pen):Int:=max (ab p.1) (ab p.2.1)
end Mw
namespace Pv
abbrev Pt:=Int × Int
def e0 (s:T3):Pt:=(s.1,s.2.1)
def e1 (s:T3):Pt:=(s.1 + 1 - s.2.2,s.2.1 + s.2.2)
theorem e_ne (s:T3):e0 s ≠ e1 s:=λ h=>by
 unfold e0 e1 at h;injection h with h1 h2
 omega
def has (p:Pt) (s:T3):Bool:=decide (e0 s=p) || decide (e1 s=p)
theorem zr2 (s:T3):has (e0 s) s=true:=by unfold has; simp
theorem yr2 (s:T3):has (e1 s) s=true:=by unfold has; simp
theorem xr2 {p:Pt} {s:T3} (h:has p s=true):p=e0 s \/ p=e1 s:=by
 unfold has at h;rw [Bool.or_eq_true,decide_eq_true_eq,decide_eq_true_eq] at h;exact h.imp Eq.symm Eq.symm
def tch (a b:T3):Prop:=∃ p,has p a=true /\ has p b=true
theorem tch.symm {a b:T3} (h:tch a b):tch b a:=let ⟨p,x,y⟩:=h; ⟨p,y,x⟩
inductive Conn (ts:List T3) (a:T3):T3->Prop
 | refl:Conn ts a a
 | step {b c:T3}:Conn ts a b->c ∈ ts->tch b c->Conn ts a c
theorem Conn.cl {ts u:List T3} {a b:T3} (hu:∀ x ∈ u,∀ c ∈ ts,tch x c->c ∈ u) (ha:a ∈ u) (h:Conn ts a b):b ∈ u:=by
 induction h with
 | refl=>exact ha
 | step _ hc ht ih=>exact hu _ ih _ hc ht
theorem Conn.trans {ts:List T3} {a b c:T3} (h:Conn ts a b) (k:Conn ts b c):Conn ts a c:=by
 induction k with
 | refl=>exact h
 | step _ hc ht ih=>exact .step ih hc ht
theorem Conn.symm {ts:List T3} {a b:T3} (ha:a ∈ ts) (h:Conn ts a b):Conn ts b a:=by
 have key:∀ {b},Conn ts a b->b ∈ ts /\ Conn ts b a:=by
  intro b h
  induction h with
  | refl=>exact ⟨ha,.refl⟩
  | step _ hc ht ih=>exact ⟨hc,(Conn.step .refl ih.1 ht.symm).trans ih.2⟩
 exact (key h).2
structure IsP (ts:List T3) (us:List (List T3)):Prop where
 perm:us.flatten.Perm ts
 ne:∀ u ∈ us,u ≠ []
 up:∀ u ∈ us,u.Pairwise le3
 cl:∀ u ∈ us,∀ a ∈ u,∀ c ∈ ts,tch a c->c ∈ u
 co:∀ u ∈ us,∀ a ∈ u,∀ b ∈ u,Conn ts a b
end Pv
namespace Pv
open PySem Mw
theorem kn_go_jump:((("go" : Str)=("jump" : Str))=False):=eq_false [9]
theorem kn_go_turn:((("go" : Str)=("turn" : Str))=False):=eq_false [9]
theorem kn_go_times:((("go" : Str)=("times" : Str))=False):=eq_false [9]
theorem kn_jump_go:((("jump" : Str)=("go" : Str))=False):=eq_false [9]
theorem kn_jump_turn:((("jump" : Str)=("turn" : Str))=False):=eq_false [9]
theorem kn_jump_times:((("jump" : Str)=("times" : Str))=False):=eq_false [9]
theorem kn_turn_go:((("turn" : Str)=("go" : Str))=False):=eq_false [9]
theorem kn_turn_jump:((("turn" : Str)=("jump" : Str))=False):=eq_false [9]
theorem kn_turn_times:((("turn" : Str)=("times" : Str))=False):=eq_false [9]
theorem kn_times_go:((("times" : Str)=("go" : Str))=False):=eq_false [9]
theorem kn_times_jump:((("times" : Str)=("jump" : Str))=False):=eq_false [9]
theorem kn_times_turn:((("times" : Str)=("turn" : Str))=False):=eq_false [9]
theorem kp_go:(["go", "jump", "turn"]:List Str).contains "go" = true:=by decide
theorem kp_jump:(["go", "jump", "turn"]:List Str).contains "jump" = true:=by decide
theorem kp_turn:(["go", "jump", "turn"]:List Str).contains "turn" = true:=by decide
theorem kp_times:(["go", "jump", "turn"]:List Str).contains "times" = false:=by decide
theorem kz_go:(["go", "times"]:List Str).contains "go" = true:=by decide
theorem kz_jump:(["go", "times"]:List Str).contains "jump" = false:=by decide
theorem kz_turn:(["go", "times"]:List Str).contains "turn" = false:=by decide
theorem kz_times:(["go", "times"]:List Str).contains "times" = true:=by decide
theorem cst0:((0:Nat):Int)=0:=rfl
theorem cst1:((1:Nat):Int)=1:=rfl
theorem cst2:((2:Nat):Int)=2:=rfl
theorem cst3:((3:Nat):Int)=3:=rfl
local macro_rules | `(tactic| simp_arith [$xs,*] $[$l]?)=>`(tactic| simp only [$xs,*,Pv.seq3,Pv.next3,Pv.never3,Pv.brk3,Pv.cnt3,Pv.drop3,Pv.ret3,Pv.retN3,Pv.ifs3,Pv.gn3,Pv.gnil3,Pv.gcons3,Pv.gtup3,Pv.set3,Pv.asg3,Pv.par3,Pv.sub3,Pv.for3,Pv.is3,Pv.ir3,Pv.ir23,Pv.v3,Pv.c3,Pv.o3,Pv.un3,Pv.b3,Pv.and3,Pv.or3,Pv.not3,Pv.andV3,Pv.orV3,Pv.notV3,Pv.if3,Pv.nil3,Pv.cons3,Pv.tup3,Pv.lst3,Pv.call3,Pv.mt3,Pv.comp3,Pv.tt3,Pv.getI,List.set_cons_zero,List.set_cons_succ,Pv.int2,Pv.int20,Pv.subR,Pv.mulR,Pv.intR,Pv.sl3,Pv.np3,Pv.pt3,Pv.slR,Pv.modR,Pv.fdivR,Pv.powR,Pv.ltR,Pv.leR,Pv.gtR,Pv.geR,Pv.negR,Pv.addR,Pv.eqR_ii,Pv.eqR_ss,Pv.eqR_bb,Pv.eqR_is,Pv.neR_ii,Pv.neR_ss,Pv.neR_bb,Pv.inR,Pv.ixR,Pv.lenR,Pv.absR,Pv.tupR,Pv.sumR,Pv.tyN,Pv.isIn,Pv.isiR,Pv.appR,Pv.extR,Pv.smt3,Pv.joinR,Pv.splitR,Pv.startsR,Pv.pop3,Pv.lrev3,Pv.strR,Pv.start3,map_cons,map_nil,List.cons_append,nil_append,length_cons,length_nil,List.replicate,Pv.atI0,Pv.atI1,Pv.atI2,Nat.reduceAdd,Nat.reduceSub,Nat.zero_add,reduceIte,Pv.strs?,Bool.not_true,Bool.not_false,Bool.false_eq_true,if_false,if_true,decide_eq_true_eq,Bool.not_eq_true',decide_eq_false_iff_not,Pv.ixN0,Pv.ixN1,Pv.ixN2,true_and,and_true,Pv.cst0,Pv.cst1,Pv.cst2,Pv.cst3,Int.reduceEq,Option.bind_none,Option.bind_some,Pv.kn_go_jump,Pv.kn_go_turn,Pv.kn_go_times,Pv.kn_jump_go,Pv.kn_jump_turn,Pv.kn_jump_times,Pv.kn_turn_go,Pv.kn_turn_jump,Pv.kn_turn_times,Pv.kn_times_go,Pv.kn_times_jump,Pv.kn_times_turn,Pv.kp_go,Pv.kp_jump,Pv.kp_turn,Pv.kp_times,Pv.kz_go,Pv.kz_jump,Pv.kz_turn,Pv.kz_times] $[$l]?)
def wy (s:T3):Prop:=s.2.2=0 \/ s.2.2=1
def gx (s:T3):Int:=s.1 + 1 - s.2.2
def gy (s:T3):Int:=s.2.1 + s.2.2
def encQ (p:Int × Int):D:=.tup [.int p.1,.int p.2]
def decT (d:D):T3:=(t3? d).getD (0,0,0)
theorem z2:2<=sizeLine:=by decide
theorem z3:3<=sizeLine:=by decide
def sl0:Sp3:=λ ds μ Q=>∃ s,ds=[encT s] /\ wy s /\ Q (.tup [encQ (s.1,s.2.1),encQ (gx s,gy s)]) μ
theorem ur3 (ds:List D) (μ:Mu) (Q:VK3) (h:sl0 ds μ Q):xi3 { nx:=λ _ μ'=>Q .non μ',rt:=Q } (start3 xf3 ds) μ:=by
 obtain ⟨⟨x,y,w⟩,rfl,hw,q⟩:=h;rcases hw with e | e
 ·dsimp only at e; subst e;simp only [gx,gy,Int.sub_zero,Int.add_zero] at q;exact ⟨z2,z2,z2,q⟩
 ·dsimp only at e; subst e;simp only [gx,gy,Int.add_sub_cancel] at q;exact ⟨z2,z2,z2,q⟩
def Lt (a b:T3):Prop:=lt3 a b=true
def Pc (ts:List T3):Prop:=ts.Pairwise Lt /\ (∀ t ∈ ts,wy t) /\ ts.length < 60
theorem sh1 {ts:List T3} {i:Int} (h0:0<=i) (h1:i < ts.length):∃ h:i.toNat < ts.length,atI [38] i=some (encT ts[i.toNat]):=by
 have h2:i.toNat < ts.length:=by omega
 refine ⟨h2,?_⟩;unfold atI ixN;rw [if_pos h0,if_pos (by rw [length_map]; omega)];simp [getElem?_eq_getElem h2]
theorem sj3 {p:Addr} {ts:List T3} {μ:Mu} {Q:VK3} (h:μ p=some (.lst [38])) (h64:ts.length < 1000) (k:∀ us:List T3,us.Perm ts->us.Pairwise le3->∀ r,μ r=none->Q (.ref r) (updM μ r (.lst (us.map encT)))):srtR [.ref p] μ Q:=by
 unfold srtR;simp only [h,tt1]
 exact ⟨by have:(1000:Nat) < sizeLine:=by decide
           omega,k⟩
theorem wf2 {p:Addr} {l:List D} {μ:Mu} {Q:VK3} (h:μ p=some (.lst l)) (k:Q (.tup l) μ):tupR [.ref p] μ Q:=by
 unfold tupR;simp only [h];exact k
theorem zl {ts:List T3} (h:ts.length < 60):[38].length<=sizeLine:=by
 have:(100:Nat) < sizeLine:=by decide
 rw [length_map];omega
def tk3 (t:T3):List Int:=[t.1,t.2.1,t.2.2]
def encI (xs:List Int):D:=.tup (xs.map D.int)
def okS (xs:List Int):Prop:=∃ t,xs=tk3 t /\ wy t
theorem okS3 {a b c:Int} (h:okS [a,b,c]):c=0 \/ c=1:=by
 obtain ⟨⟨x,y,z⟩,e,hw⟩:=h;simp only [tk3,List.cons.injEq,and_true] at e;rw [e.2.2];exact hw
def uv0 (XE:XE3):Sp3:=λ ds μ Q=>∃ xs,ds=[encI xs] /\ xs.length<=4 /\ ((okS xs /\ Q .non μ) \/ (¬ okS xs /\ XE "NoPicture" μ))
theorem in_w {c:Int} (h:¬ (c=0 \/ c=1)) (μ:Mu) (K:VK3):inR true (.int c) zj0 μ K=K (.bl true) μ:=by
 show inD true (.int c) zj0 μ K=_;unfold inD;rw [show datM μ (.int c)=some (.int c) from rfl,show datM μ zj0=some (.tuple [.int 0,.int 1]) from rfl];dsimp only
 have e:(([.int 0,.int 1]:List PyData).any λ e=>PyData.eqv e (.int c))=false:=by
  have h1:¬ (0:Int)=c:=λ z=>h (.inl z.symm);have h2:¬ (1:Int)=c:=λ z=>h (.inr z.symm);simp [PyData.eqv,h1,h2]
 rw [e];have d1:(PyData.int c).depth<=64:=by simp [PyData.depth]
 have d2:(PyData.tuple [.int 0,.int 1]).depth<=64:=by simp [PyData.depth,PyData.depthAll]
 exact propext ⟨λ h=>h.2,λ k=>⟨⟨d1,d2⟩,k⟩⟩
theorem vk4 (μ:Mu) (K:VK3) (c:Int) (h:c=0 \/ c=1):inR true (.int c) zj0 μ K=K (.bl false) μ:=by
 show inD true (.int c) zj0 μ K=_;unfold inD;rw [show datM μ (.int c)=some (.int c) from rfl,show datM μ zj0=some (.tuple [.int 0,.int 1]) from rfl];dsimp only
 have e:(([.int 0,.int 1]:List PyData).any λ e=>PyData.eqv e (.int c))=true:=by
  rcases h with rfl | rfl <;> simp [PyData.eqv]
 rw [e];have d1:(PyData.int c).depth<=64:=by simp [PyData.depth]
 have d2:(PyData.tuple [.int 0,.int 1]).depth<=64:=by simp [PyData.depth,PyData.depthAll]
 exact propext ⟨λ h=>h.2,λ k=>⟨⟨d1,d2⟩,k⟩⟩
theorem tr3 (XE:XE3) (ds:List D) (μ:Mu) (Q:VK3) (h:uv0 XE ds μ Q):yi3 XE { nx:=λ _ μ'=>Q .non μ',rt:=Q } (start3 yf3 ds) μ:=by
 obtain ⟨xs,rfl,hl,g⟩:=h;have z1:1<=sizeLine:=by decide
 match xs,hl with
 | [],_ =>
  rcases g with ⟨⟨t,e,_⟩,_⟩ | ⟨_,x⟩
  ·cases e
  ·exact ⟨z1,x⟩
 | [a],_ =>
  rcases g with ⟨⟨t,e,_⟩,_⟩ | ⟨_,x⟩
  ·cases e
  ·exact ⟨z1,x⟩
 | [a,b],_ =>
  rcases g with ⟨⟨t,e,_⟩,_⟩ | ⟨_,x⟩
  ·cases e
  ·exact ⟨z1,x⟩
 | [a,b,c,d],_ =>
  rcases g with ⟨⟨t,e,_⟩,_⟩ | ⟨_,x⟩
  ·cases e
  ·exact ⟨z1,x⟩
 | [a,b,c],_ =>
  show inR true (.int c) zj0 μ (λ d μ1=>match d with
   | .bl c=>(if c=true then _ else _)
   | _=>False)
  rcases g with ⟨g,q⟩ | ⟨g,x⟩
  ·rw [vk4 μ _ c (okS3 g)];exact q
  ·rw [in_w λ z=>g ⟨(a,b,c),rfl,z⟩];exact ⟨z1,x⟩
 | _ :: _ :: _ :: _ :: _ :: _,hl=>exact absurd hl (by simp only [length_cons]; omega)
def BadL (l:List (List Int)):Prop:=(∃ (ts:List T3) (xs:List Int) (rest:List (List Int)),l=ts.map tk3 ++ xs :: rest /\ (∀ t ∈ ts,wy t) /\ xs.length<=4 /\ ¬ okS xs) \/ (∃ ts:List T3,l=ts.map tk3 /\ (∀ t ∈ ts,wy t) /\ ts.length < 60 /\ ¬ ts.Pairwise Lt)
def GbP (XE:XE3) (μ:Mu) (d:D) (R:List T3->Prop):Prop:=(∃ ts:List T3,d=.tup [38] /\ Pc ts /\ R ts) \/ (∃ l,d=.tup (l.map encI) /\ BadL l /\ XE "NoPicture" μ)
theorem GbP.imp {XE:XE3} {μ:Mu} {d:D} {R R':List T3->Prop} (g:GbP XE μ d R) (k:∀ ts,d=.tup ([38])->Pc ts->R ts->R' ts):GbP XE μ d R':=by
 rcases g with ⟨ts,e,hp,r⟩ | b
 ·exact .inl ⟨ts,e,hp,k ts e hp r⟩
 ·exact .inr b
theorem tn0 (ts:List T3):(ts.map tk3).map encI=ts.map encT:=by
 rw [map_map];rfl
theorem zk4 {a b c:T3} (h:Lt a b) (k:Lt b c):Lt a c:=by
 obtain ⟨x1,x2,x3⟩:=a;obtain ⟨y1,y2,y3⟩:=b;obtain ⟨z1,z2,z3⟩:=c;simp only [Lt,lt3,Bool.or_eq_true,Bool.and_eq_true,decide_eq_true_eq,beq_iff_eq] at h k ⊢;omega
theorem us2:∀ {ts:List T3},(∀ k,(h:k + 1 < ts.length)->Lt (ts[k]'(by omega)) ts[k + 1])->ts.Pairwise Lt
 | [],_=>.nil
 | [t],_=>pairwise_singleton ..
 | t :: u :: ts,h=>by
  have ih:=us2 (ts:=u :: ts) λ k hk=>h (k + 1) (by simpa using hk);have h0:Lt t u:=h 0 [20];refine List.Pairwise.cons (λ x hx=>?_) ih;rcases List.mem_cons.mp hx with rfl | hx
  ·exact h0
  ·exact zk4 h0 (List.rel_of_pairwise_cons ih hx)
def va1 (XE:XE3):Sp3:=λ ds μ Q=>∃ d,ds=[d] /\ GbP XE μ d (λ _=>Q .non μ)
theorem vc3 {XE:XE3} {Q:VK3} {μ:Mu} {ts:List T3} {dd:Option D} (hl:ts.length < 60) (g:(ts.Pairwise Lt /\ Q .non μ) \/ (¬ ts.Pairwise Lt /\ XE "NoPicture" μ)) :
    (for3 (ir23 (cons3 [21] (cons3 (call3 lenR [28]) nil3))) (gn3 2) (ifs3 (b3 (o3 ge3R (o3 ixR (v3 0) (o3 subR (v3 2) [21])) (o3 ixR (v3 0) (v3 2)))) (vb1 XE "NoPicture" (cons3 (c3 (.str "the strokes of a picture rise, each once")) nil3)) next3)) { nx:=λ _ μ'=>Q .non μ',rt:=Q } [some (.tup [38]),dd,none] μ:=by
 refine ⟨⟨by decide,by decide,by rw [length_map]; omega,by rw [length_map]; omega⟩,?_⟩;refine wf0 (λ l ρ ν=>ν=μ /\ ∃ (k:Nat) (pp:Option D),l=rngD (1 + (k:Int)) (ts.length - 1 - k) /\ ρ=[some (.tup [38]),dd,pp] /\ k<=ts.length /\ ∀ j,j < k->(h:j + 1 < ts.length)->Lt (ts[j]'(by omega)) ts[j + 1]) ?_ (λ _ _ _ _=>trivial) ?_ ?_
 ·refine ⟨rfl,0,none,?_,rfl,Nat.zero_le _,λ j hj=>absurd hj (Nat.not_lt_zero _)⟩;rw [length_map,show ((ts.length:Int) - 1).toNat=ts.length - 1 - 0 by omega];simp
 ·rintro ρ μ2 ⟨rfl,k,pp,el,rfl,hk,hj⟩
  have e0:ts.length - 1 - k=0:=by
   cases c:ts.length - 1 - k with
   | zero=>rfl
   | succ c'=>rw [c,ui0] at el; cases el
  have up:ts.Pairwise Lt:=us2 λ j hj'=>hj j [1] hj';rcases g with ⟨_,q⟩ | ⟨n,_⟩
  ·exact q
  ·exact absurd up n
 ·rintro x rest ρ μ2 ⟨rfl,k,pp,e,rfl,hk,hj⟩;cases n:ts.length - 1 - k with
  | zero=>rw [n] at e; simp [rngD] at e
  | succ m =>
   rw [n,ui0] at e;simp only [List.cons.injEq] at e;obtain ⟨rfl,rfl⟩:=e;obtain ⟨b1,e1⟩:=sh1 (ts:=ts) (i:=1 + (k:Int) - 1) [1] [1];obtain ⟨b2,e2⟩:=sh1 (ts:=ts) (i:=1 + (k:Int)) [1] [1];have i1:(1 + (k:Int) - 1).toNat=k:=by omega
   have i2:(1 + (k:Int)).toNat=k + 1:=by omega
   simp only [i1] at e1;simp only [i2] at e2;have k1:k + 1 < ts.length:=by omega
   by_cases c:lt3 ts[k] ts[k + 1]=true
   ·simp_arith [e1,e2,encT,ge3R,c]
    refine ⟨k + 1,_,?_,rfl,by omega,λ j hj' h=>?_⟩
    ·rw [show ts.length - 1 - (k + 1)=m by omega];congr 1
    ·by_cases z:j=k
     ·subst z; exact c
     ·exact hj j [1] h
   ·have c':lt3 ts[k] ts[k + 1]=false:=by simpa using c
    simp_arith [e1,e2,encT,ge3R,c']
    rcases g with ⟨up,_⟩ | ⟨_,x⟩
    ·exact absurd (List.pairwise_iff_getElem.mp up k (k + 1) [1] k1 [1]) c
    ·exact ⟨show 1<=sizeLine by decide,x⟩
theorem xs3 (XE:XE3) (ds:List D) (μ:Mu) (Q:VK3) (h:va1 XE ds μ Q):ut2 XE uv0 { nx:=λ _ μ'=>Q .non μ',rt:=Q } (start3 sn2 ds) μ:=by
 obtain ⟨d,rfl,g⟩:=h
 have good:∀ ts:List T3,(∀ t ∈ ts,wy t)->ts.length < 60->((ts.Pairwise Lt /\ Q .non μ) \/ (¬ ts.Pairwise Lt /\ XE "NoPicture" μ))->ut2 XE uv0 { nx:=λ _ μ'=>Q .non μ',rt:=Q } (start3 sn2 [.tup [38]]) μ:=λ ts h2 h3 g=>by
  refine wf0 (λ l ρ μ'=>μ'=μ /\ ∃ (us:List T3) (dd:Option D),l=us.map encT /\ (∀ t ∈ us,wy t) /\ ρ=[some (.tup [38]),dd,none]) ?_ (λ _ _ _ _=>trivial) ?_ ?_
  ·exact ⟨rfl,ts,none,rfl,h2,rfl⟩
  ·rintro ρ μ' ⟨rfl,us,dd,e,_,rfl⟩;exact vc3 h3 g
  ·rintro x rest ρ μ' ⟨rfl,us,dd,e,hw,rfl⟩;cases us with
   | nil=>cases e
   | cons t us =>
    rw [map_cons] at e;injection e with e1 e2
    subst e1 e2;exact ⟨tk3 t,rfl,(show 3<=4 by decide),.inl ⟨⟨t,rfl,hw t (mem_cons_self ..)⟩,rfl,us,_,rfl,λ s hs=>hw s (mem_cons_of_mem _ hs),rfl⟩⟩
 rcases g with ⟨ts,rfl,hp,q⟩ | ⟨l,rfl,hb,x⟩
 ·exact good ts hp.2.1 hp.2.2 (.inl ⟨hp.1,q⟩)
 ·rcases hb with ⟨ts,xs,rest,rfl,hw,h4,hn⟩ | ⟨ts,rfl,hw,hl,hn⟩
  ·refine wf0 (λ l ρ μ'=>μ'=μ /\ ∃ (us:List T3) (dd:Option D),l=(us.map tk3 ++ xs :: rest).map encI /\ (∀ t ∈ us,wy t) /\ ∃ o0,ρ=[o0,dd,none]) ?_ (λ _ _ _ _=>trivial) ?_ ?_
   ·exact ⟨rfl,ts,none,rfl,hw,_,rfl⟩
   ·rintro ρ μ' ⟨rfl,us,dd,e,_,_⟩;exfalso;have:=congrArg List.length e;simp at this
   ·rintro y r ρ μ' ⟨rfl,us,dd,e,hw',o0,rfl⟩;cases us with
    | nil =>
     rw [map_nil,nil_append,map_cons] at e;injection e with e1 e2
     subst e1;exact ⟨xs,rfl,h4,.inr ⟨hn,x⟩⟩
    | cons t us =>
     rw [map_cons,List.cons_append,map_cons] at e;injection e with e1 e2
     subst e1 e2;exact ⟨tk3 t,rfl,(show 3<=4 by decide),.inl ⟨⟨t,rfl,hw' t (mem_cons_self ..)⟩,rfl,us,_,rfl,λ s hs=>hw' s (mem_cons_of_mem _ hs),_,rfl⟩⟩
  ·rw [tn0];exact good ts hw hl (.inr ⟨hn,x⟩)
theorem vj4 {ks us:List T3} (hn:ks.Nodup) (hw:∀ t ∈ ks,wy t) (hl:ks.length < 60) (a1:us.Perm ks) (a2:us.Pairwise le3):Pc us:=by
 have hn':us.Nodup:=a1.nodup_iff.mpr hn;refine ⟨?_,λ t ht=>hw t (a1.mem_iff.mp ht),by rw [a1.length_eq]; exact hl⟩;have both:us.Pairwise λ a b=>le3 a b /\ a ≠ b:=List.Pairwise.and a2 hn';refine both.imp λ {a b} h=>?_;obtain ⟨x1,x2,x3⟩:=a;obtain ⟨y1,y2,y3⟩:=b;obtain ⟨h1,h2⟩:=h;unfold le3 at h1;unfold Lt;simp only [ne_eq,Prod.mk.injEq] at h2;simp only [lt3,Bool.or_eq_false_iff,Bool.and_eq_false_iff,decide_eq_false_iff_not,beq_eq_false_iff_ne,ne_eq] at h1;simp only [lt3,Bool.or_eq_true,Bool.and_eq_true,decide_eq_true_eq,beq_iff_eq];omega
theorem vp0 {p:Addr} {l:List D} {i:Int} {d:D} {μ:Mu} {K:VK3} (h:μ p=some (.lst l)) (e:atI l i=some d) (k:K d μ):ixR (.ref p) (.int i) μ K:=by
 unfold ixR;simp only [h,e];exact k
theorem lt_le {a b:T3} (h:Lt a b):le3 a b:=by
 obtain ⟨x1,x2,x3⟩:=a;obtain ⟨y1,y2,y3⟩:=b;simp only [Lt,lt3,Bool.or_eq_true,Bool.and_eq_true,decide_eq_true_eq,beq_iff_eq] at h;simp only [le3,lt3,Bool.or_eq_false_iff,Bool.and_eq_false_iff,decide_eq_false_iff_not,beq_eq_false_iff_ne,ne_eq];omega
theorem wv3 {ts:List T3} (h:Pc ts):ts.Nodup:=h.1.imp λ {a b} h e=>by
 subst e;simp [Lt,lt3] at h
theorem xn2 {S:Mu->Prop} {p:Addr} {tc:TT3} {Q:VK3} {l:List D} {o:Option D} {rest:St3} {μ:Mu} (f:D->Bool) (hp:μ p=none) (hl:l.length<=sizeLine) (hS:∀ μ',Ext μ μ'->S μ')
    (hx:∀ x ∈ l,∀ μ' R,Ext μ μ'->R (f x) μ'->tc (some x :: rest) μ' R) (hQ:∀ μ',Ext μ μ'->μ' p=some (.lst (l.filter f))->Q (.ref p) μ'):ud2 S p (gn3 0) tc (v3 0) Q l (o :: rest) (updM μ p (.lst [])):=by
 refine ⟨λ r ys ρ μ'=>Ext μ μ' /\ μ' p=some (.lst ys) /\ (∃ o',ρ=o' :: rest) /\ ∃ a,a ++ r=l /\ ys=a.filter f,?_,?_,?_,?_⟩
 ·exact ⟨Ext.new hp,za0,⟨o,rfl⟩,[],rfl,rfl⟩
 ·rintro r ys ρ μ' ⟨h1,h2,_⟩;exact ⟨hS _ h1,h2⟩
 ·rintro ys ρ μ' ⟨h1,h2,_,a,e,rfl⟩;rw [append_nil] at e;subst e;exact hQ _ h1 h2
 ·rintro x r ys ρ μ' ⟨h1,h2,⟨o',rfl⟩,a,e,rfl⟩;refine ⟨?_,?_⟩
  ·have h3:=congrArg List.length e;rw [length_append,length_cons] at h3;have:=length_filter_le f a;omega
  ·refine hx x (by rw [<- e]; simp) μ' _ h1 ?_;have e2:(a ++ [x]) ++ r=l:=by rw [<- e]; simp
   cases c:f x with
   | true =>
    refine ⟨h2,λ b v hb=>?_,za0,⟨_,rfl⟩,a ++ [x],e2,?_⟩
    ·rw [xb0 (zb0 hb hp)];exact h1 b v hb
    ·rw [filter_append];simp [c]
   | false =>
    refine ⟨h1,h2,⟨_,rfl⟩,a ++ [x],e2,?_⟩;rw [filter_append];simp [c]
theorem yb3 (g:T3->Bool) (A:List T3):(A.map encT).filter (λ d=>g (decT d))=(A.filter g).map encT:=by
 rw [List.filter_map];rfl
def uh0:Sp3:=λ ds μ Q=>∃ (ns:List Int) (k:Int),ds=[.fls (ns.map D.int),.int k] /\ 0<=k /\ ∀ a b p,0<=a->μ p=none->Q (.ref p) (updM μ p (.lst [.int a,.int b]))
theorem sg4 (ds:List D) (μ:Mu) (Q:VK3) (h:uh0 ds μ Q):t_q4 { nx:=λ _ μ'=>Q .non μ',rt:=Q } (start3 N_q4 ds) μ:=by
 obtain ⟨ns,k,rfl,hk,q⟩:=h;have e:((10:Int) ^ (18:Int).toNat)=1000000000000000000:=by decide
 have c:CPow 10 18:=⟨by decide,by decide,by decide⟩
 simp_arith [t_q4,N_q4,c,e]
 have key:∀ i:Int,(if 1000000000000000000<=i then 2<=sizeLine /\ ∀ p,μ p=none->Q (.ref p) (updM μ p (.lst [.int (i - 1000000000000000000),.int 1]))
     else CMul 7919 k /\ (0:Int) < 2147483647 /\ 2<=sizeLine /\ ∀ p,μ p=none->Q (.ref p) (updM μ p (.lst [.int ((i + 7919 * k) % 2147483647),.int 0]))):=by
  intro i;split
  ·exact ⟨by decide,λ p hp=>q _ _ p [1] hp⟩
  ·exact ⟨.inl (.inl [9]),by decide,by decide,λ p hp=>q _ _ p (Int.emod_nonneg _ [9]) hp⟩
 split
 ·next h1 =>
  obtain ⟨d,hd,e⟩:=yb4 (l:=ns.map D.int) hk h1;obtain ⟨i,_,rfl⟩:=List.mem_map.mp hd
  simp_arith [e]
  exact key i
 ·exact key 0
def spTk:Sp3:=λ ds μ Q=>∃ (p:Addr) (m a b:Int),ds=[.ref p,.int m] /\ 0 < m /\ m < 2 ^ 80 /\ μ p=some (.lst [.int a,.int b]) /\ 0<=a ∧
 ∀ r a' b',0<=r->r < m->0<=a'->Q (.int r) (updM μ p (.lst [.int a',.int b']))
theorem tg4 (ds:List D) (μ:Mu) (Q:VK3) (h:spTk ds μ Q):t_q5 { nx:=λ _ μ'=>Q .non μ',rt:=Q } (start3 N_q5 ds) μ:=by
 obtain ⟨p,m,a,b,rfl,h1,h2,h3,h4,q⟩:=h
 simp_arith [t_q5,N_q5,h3]
 have main:CMul a 48271 /\ (0:Int) < 2147483647 /\ (∀ c:Int,c=(a * 48271 + 69621) % 2147483647->CMul c c /\ CMul 16807 c /\ (0:Int) < 2147483629 /\ ∀ e:Int,e=(c * c + 16807 * c) % 2147483629->CMul e e /\ CMul 39373 e /\ (0:Int) < 2147483587 /\ ((0:Int) < 8 /\ (8:Int) < 2 ^ 120) /\ 0 < m ∧
     Q (.int ((e * e + 39373 * e) % 2147483587 / 8 % m)) (updM μ p (.lst [.int c,.int 0]))):=by
  refine ⟨.inl (.inr [9]),by decide,λ c hc=>?_⟩;have n1:0<=c:=by rw [hc]; exact Int.emod_nonneg _ [9]
  have n2:c < 2147483647:=by rw [hc]; exact Int.emod_lt_of_pos _ [9]
  refine ⟨.inl (.inl [1]),.inl (.inl [9]),by decide,λ e he=>?_⟩;have n3:0<=e:=by rw [he]; exact Int.emod_nonneg _ [9]
  have n4:e < 2147483629:=by rw [he]; exact Int.emod_lt_of_pos _ [9]
  exact ⟨.inl (.inl [1]),.inl (.inl [9]),by decide,⟨by decide,by decide⟩,h1,q _ _ _ (Int.emod_nonneg _ [1]) (Int.emod_lt_of_pos _ h1) n1⟩
 obtain ⟨m1,m2,m3⟩:=main;obtain ⟨m4,m5,m6,m7⟩:=m3 _ rfl;obtain ⟨m8,m9,m10,m11,m12,m13⟩:=m7 _ rfl;split
 ·split
  ·refine ⟨h1,⟨h1,by omega⟩,?_⟩;exact q _ _ _ (Int.emod_nonneg _ [1]) (Int.emod_lt_of_pos _ h1) (Int.ediv_nonneg h4 [1])
  ·simp_arith [za0,xh0]
   exact ⟨m1,m2,m4,m5,m6,m8,m9,m10,m11,m12,m13⟩
 ·simp_arith [za0,xh0]
  exact ⟨m1,m2,m4,m5,m6,m8,m9,m10,m11,m12,m13⟩
def BB1:List Bool:=[false,true,false,false,false,false,true]
def BB2:List Bool:=[false,false,true,false,false,false,true]
theorem sx10:subX "NoWord" "NoPicture" = some false:=by decide
theorem sx11:subX "NoPicture" "NoPicture" = some true:=by decide
theorem sx12:subX "NoRoom" "NoPicture" = some false:=by decide
theorem sx13:subX "NoStep" "NoPicture" = some false:=by decide
theorem sx14:subX "NoNumber" "NoPicture" = some false:=by decide
theorem sx15:subX "BadNote" "NoPicture" = some false:=by decide
theorem sx16:subX "ValueError" "NoPicture" = some true:=by decide
theorem sx20:subX "NoWord" "NoRoom" = some false:=by decide
theorem sx21:subX "NoPicture" "NoRoom" = some false:=by decide
theorem sx22:subX "NoRoom" "NoRoom" = some true:=by decide
theorem sx23:subX "NoStep" "NoRoom" = some false:=by decide
theorem sx24:subX "NoNumber" "NoRoom" = some false:=by decide
theorem sx25:subX "BadNote" "NoRoom" = some false:=by decide
theorem sx26:subX "ValueError" "NoRoom" = some true:=by decide
def spMk:Sp3:=λ ds μ Q=>∃ (x:Str),ds=[.exc x] /\ ((x = "NoPicture" /\ ∀ p μ',Ext μ μ'->μ' p=some (.lst (BB1.map D.bl))->Q (.ref p) μ') \/ (x = "NoRoom" /\ ∀ p μ',Ext μ μ'->μ' p=some (.lst (BB2.map D.bl))->Q (.ref p) μ'))
theorem ug4 (ds:List D) (μ:Mu) (Q:VK3) (h:spMk ds μ Q):t_q6 { nx:=λ _ μ'=>Q .non μ',rt:=Q } (start3 N_q6 ds) μ:=by
 obtain ⟨x,rfl,⟨rfl,q⟩ | ⟨rfl,q⟩⟩:=h
 ·simp_arith [t_q6,N_q6,isx3,sx10,sx11,sx12,sx13,sx14,sx15,sx16]
  refine ⟨by decide,λ p hp=>⟨by decide,λ r hr=>?_⟩⟩;have hpr:p ≠ r:=zb0 za0 hr
  simp_arith [xb0 hpr,za0]
  refine ⟨by decide,λ t ht=>q t _ (λ c o hc=>?_) za0⟩;have z1:updM μ p (.lst [.bl false,.bl true,.bl false,.bl false]) c=some o:=by rw [xb0 (zb0 hc hp)]; exact hc
  have z2:=(Ext.new (o:=.lst [.bl false,.bl false,.bl true]) hr) c o z1;rw [xb0 (zb0 z2 ht)]; exact z2
 ·simp_arith [t_q6,N_q6,isx3,sx20,sx21,sx22,sx23,sx24,sx25,sx26]
  refine ⟨by decide,λ p hp=>⟨by decide,λ r hr=>?_⟩⟩;have hpr:p ≠ r:=zb0 za0 hr
  simp_arith [xb0 hpr,za0]
  refine ⟨by decide,λ t ht=>q t _ (λ c o hc=>?_) za0⟩;have z1:updM μ p (.lst [.bl false,.bl false,.bl true,.bl false]) c=some o:=by rw [xb0 (zb0 hc hp)]; exact hc
  have z2:=(Ext.new (o:=.lst [.bl false,.bl false,.bl true]) hr) c o z1;rw [xb0 (zb0 z2 ht)]; exact z2
theorem wj0 {cls c:Str} {b:Bool} (h:subX cls c=some b):c ∈ xnames:=by
 unfold subX at h;split at h
 ·next e=>simpa using e
 ·cases h
theorem vb2 {g:TG3} {tb:TS3} {D':Ends3} {x y:D} {ρ:St3} {μ:Mu} (N1 N2:St3->Mu->Prop) (h1:g x ρ μ λ ρ1 μ1=>tb { D' with nx:=N1,ct:=N1,bk:=D'.nx } ρ1 μ1)
    (h2:∀ ρ μ,N1 ρ μ->g y ρ μ λ ρ1 μ1=>tb { D' with nx:=N2,ct:=N2,bk:=D'.nx } ρ1 μ1) (h3:∀ ρ μ,N2 ρ μ->D'.nx ρ μ):vh1 (λ _=>True) g tb D' [x,y] ρ μ :=
 ⟨trivial,N1,λ ρ' μ' n=>⟨trivial,N2,λ ρ2 μ2 n2=>⟨trivial,h3 ρ2 μ2 n2⟩,h2 ρ' μ' n⟩,h1⟩
def ptk (p:Pt):List Int:=[p.1,p.2]
theorem xa3 (p:Pt):keyI (encQ p)=some (ptk p):=rfl
def atk (A:List (Pt × Addr)):List (List Int × D):=A.map λ x=>(ptk x.1,.ref x.2)
theorem xg1 {p q:Pt} (h:ptk p=ptk q):p=q:=by
 unfold ptk at h;injection h with h1 h2
 injection h2 with h2 _
 exact Prod.ext h1 h2
theorem xt1:∀ {A:List (Pt × Addr)} {p:Pt} {q:Addr},(A.map (·.1)).Nodup->(p,q) ∈ A->valL (atk A) (ptk p)=some (.ref q)
 | (p',q') :: A,p,q,hn,hm=>by
  rw [map_cons,nodup_cons] at hn;by_cases c:p'=p
  ·subst c;rcases List.mem_cons.mp hm with e | e
   ·cases e; simp [valL,atk]
   ·exact absurd (List.mem_map.mpr ⟨_,e,rfl⟩) hn.1
  ·rcases List.mem_cons.mp hm with e | e
   ·cases e; exact absurd rfl c
   ·have c':¬ ptk p'=ptk p:=λ z=>c (xg1 z);have:=xt1 hn.2 e;simp only [valL,atk,map_cons,find?_cons,c',decide_false] at this ⊢;exact this
theorem yo2:∀ {A:List (Pt × Addr)} {p:Pt},p ∉ A.map (·.1)->valL (atk A) (ptk p)=none
 | [],p,_=>rfl
 | (p',q') :: A,p,hm=>by
  rw [map_cons,mem_cons,not_or] at hm;have c':¬ ptk p'=ptk p:=λ z=>hm.1 (xg1 z).symm;have:=yo2 hm.2;simp only [valL,atk,map_cons,find?_cons,c',decide_false] at this ⊢;exact this
theorem yt3 {A:List (Pt × Addr)} {p:Pt} {y:D} (h:p ∉ A.map (·.1)):putL (atk A) (ptk p) y=atk A ++ [(ptk p,y)]:=by
 unfold putL;rw [if_neg];intro z;obtain ⟨kv,h1,h2⟩:=List.any_eq_true.mp z;obtain ⟨x,hx,rfl⟩:=List.mem_map.mp h1;exact h (List.mem_map.mpr ⟨x,hx,xg1 (of_decide_eq_true h2)⟩)
theorem uk3 {d:Addr} {kvs:[18]} {p:Pt} {v:D} {μ:Mu} {Q:VK3} {o0 o2:Option D} (h:μ d=some (.dcl kvs)) (hl:kvs.length < 90000) (hv:valL kvs (ptk p)=some v) (k:∀ r,μ r=none->Q v (updM μ r (.lst []))) :
    sdf3 (v3 1) (cons3 (v3 3) (cons3 (lst3 nil3) nil3)) [o0,some (.ref d),o2,some (encQ p)] μ Q:=by
 conv=>whnf
 rw [h];refine ⟨Nat.zero_le _,λ r hr=>?_⟩;have hd:updM μ r (.lst []) d=some (.dcl kvs):=by rw [xb0 (zb0 h hr)]; exact h
 conv=>whnf
 rw [hd];refine ⟨hl,?_⟩;have hv':valL kvs [p.1,p.2]=some v:=hv;rw [hv'];exact k r hr
theorem sk3 {d:Addr} {kvs:[18]} {p:Pt} {μ:Mu} {Q:VK3} {o0 o2:Option D} (h:μ d=some (.dcl kvs)) (hl:kvs.length < 90000) (hv:valL kvs (ptk p)=none) (k:∀ r,μ r=none->Q (.ref r) (updM (updM μ r (.lst [])) d (.dcl (putL kvs (ptk p) (.ref r))))) :
    sdf3 (v3 1) (cons3 (v3 3) (cons3 (lst3 nil3) nil3)) [o0,some (.ref d),o2,some (encQ p)] μ Q:=by
 conv=>whnf
 rw [h];refine ⟨Nat.zero_le _,λ r hr=>?_⟩;have hd:updM μ r (.lst []) d=some (.dcl kvs):=by rw [xb0 (zb0 h hr)]; exact h
 conv=>whnf
 rw [hd];refine ⟨hl,?_⟩;have hv':valL kvs [p.1,p.2]=none:=hv;rw [hv'];exact k r hr
theorem xf2 {q:Addr} {l:List D} {x:D} {μ:Mu} {Q:VK3} (h:μ q=some (.lst l)) (hl:l.length < sizeLine) (k:Q .non (updM μ q (.lst (l ++ [x])))):appR (.ref q) [x] μ Q:=by
 unfold appR;simp only [h];exact ⟨hl,k⟩
def here {α:Type} (L:List (Pt × α)) (p:Pt):List α:=(L.filter λ y=>decide (y.1=p)).map (·.2)
theorem xd1 {α:Type} (L:List (Pt × α)) (p:Pt) (t:α):here (L ++ [(p,t)]) p=here L p ++ [t]:=by
 unfold here; rw [filter_append]; simp
theorem ua2 {α:Type} (L:List (Pt × α)) {p q:Pt} (t:α) (h:q ≠ p):here (L ++ [(p,t)]) q=here L q:=by
 unfold here; rw [filter_append];have:¬ p=q:=λ z=>h z.symm;simp [this]
theorem za3 {α:Type} {L:List (Pt × α)} {p:Pt} (h:p ∉ L.map (·.1)):here L p=[]:=by
 unfold here;rw [List.filter_eq_nil_iff.mpr]; rfl;intro y hy z;exact h (List.mem_map.mpr ⟨y,hy,of_decide_eq_true z⟩)
theorem xm2 {α:Type} (L:List (Pt × α)) (p:Pt):(here L p).length<=L.length:=by
 unfold here; rw [length_map]; exact length_filter_le _ _
structure AtI {α:Type} (en:α->D) (μ0 μ:Mu) (d:Addr) (L:List (Pt × α)) (A:List (Pt × Addr)):Prop where
 ex:Ext μ0 μ
 fr:μ0 d=none
 dc:μ d=some (.dcl (atk A))
 nd:(A.map (·.1)).Nodup
 me:∀ p,p ∈ A.map (·.1) ↔ p ∈ L.map (·.1)
 le:A.length<=L.length
 n2:(A.map (·.2)).Nodup
 fr2:∀ x ∈ A,μ0 x.2=none
 ls:∀ x ∈ A,μ x.2=some (.lst ((here L x.1).map en))
theorem Ext.upd {μ0 μ:Mu} {p:Addr} {o:MO} (e:Ext μ0 μ) (h:μ0 p=none):Ext μ0 (updM μ p o):=λ a u q=>by
 rw [xb0 (zb0 q h)]; exact e a u q
theorem sb1 {α β γ:Type} {l:List γ} {f:γ->α} (h:(l.map f).Nodup):∀ {x y:γ},x ∈ l->y ∈ l->f x=f y->x=y:=by
 induction l with
 | nil=>intro x y hx; cases hx
 | cons z r ih =>
  intro x y hx hy e;rw [map_cons,nodup_cons] at h;rcases List.mem_cons.mp hx with x1 | x1
  ·rcases List.mem_cons.mp hy with y1 | y1
   ·rw [x1,y1]
   ·rw [x1] at e; exact absurd (List.mem_map.mpr ⟨y,y1,e.symm⟩) h.1
  ·rcases List.mem_cons.mp hy with y1 | y1
   ·rw [y1] at e; exact absurd (List.mem_map.mpr ⟨x,x1,e⟩) h.1
   ·exact ih h.2 x1 y1 e
theorem uy1 {A:List (Pt × Addr)} {p q:Pt} {a:Addr} (h:(A.map (·.2)).Nodup) (x:(p,a) ∈ A) (y:(q,a) ∈ A):p=q:=congrArg Prod.fst (sb1 (β:=Nat) h x y rfl)
theorem vy1 {A:List (Pt × Addr)} {p:Pt} {a b:Addr} (h:(A.map (·.1)).Nodup) (x:(p,a) ∈ A) (y:(p,b) ∈ A):a=b:=congrArg Prod.snd (sb1 (β:=Nat) h x y rfl)
theorem te2 {α:Type} {en:α->D} {μ0 μ:Mu} {d:Addr} {L:List (Pt × α)} {A:List (Pt × Addr)} {p:Pt} {t:α} {o0:Option D} {Q:VK3} (I:AtI en μ0 μ d L A) (hL:L.length < 500) (q:∀ μ' A',AtI en μ0 μ' d (L ++ [(p,t)]) A'->Q .non μ') :
    mt3 appR (sdf3 (v3 1) (cons3 (v3 3) (cons3 (lst3 nil3) nil3))) (cons3 (v3 2) nil3) [o0,some (.ref d),some (en t),some (encQ p)] μ Q:=by
 have hz:(1000:Nat) < sizeLine:=by decide
 have hA:(atk A).length < 90000:=by unfold atk; rw [length_map]; have:=I.le; omega
 by_cases c:p ∈ A.map (·.1)
 ·obtain ⟨⟨p',a⟩,ha,e⟩:=List.mem_map.mp c;dsimp only at e; subst e;refine uk3 I.dc hA (xt1 I.nd ha) λ r hr=>?_;have hl:=I.ls _ ha;have hla:updM μ r (.lst []) a=some (.lst ((here L p').map en)):=by rw [xb0 (zb0 hl hr)]; exact hl
  conv=>whnf
  rw [hla];refine xf2 hla (by rw [length_map]; have:=xm2 L p'; omega) (q _ A ⟨?_,I.fr,?_,I.nd,?_,?_,I.n2,I.fr2,?_⟩)
  ·exact (I.ex.trans (Ext.new hr)).upd (I.fr2 _ ha)
  ·rw [xb0 (λ z=>by subst z; rw [I.dc] at hl; cases hl),xb0 (zb0 I.dc hr)]; exact I.dc
  ·intro p;rw [I.me,map_append,mem_append];refine ⟨.inl,?_⟩;rintro (h | h)
   ·exact h
   ·have e:p=p':=by simpa using h
    subst e;exact (I.me _).mp c
  ·rw [length_append]; have:=I.le; omega
  ·rintro ⟨p2,a2⟩ h2;dsimp only;by_cases c2:a2=a
   ·subst c2
    have e:p2=p':=by
     exact uy1 I.n2 h2 ha
    subst e;rw [za0,xd1,map_append]; rfl
   ·have c3:p2 ≠ p':=λ z=>by subst z; exact c2 (vy1 I.nd h2 ha)
    rw [xb0 c2,xb0 (zb0 (I.ls _ h2) hr),ua2 _ _ c3];exact I.ls _ h2
 ·refine sk3 I.dc hA (yo2 c) λ r hr=>?_;have hrd:r ≠ d:=λ z=>by subst z; rw [I.dc] at hr; cases hr
  have hla:updM (updM μ r (.lst [])) d (.dcl (putL (atk A) (ptk p) (.ref r))) r=some (.lst []):=by rw [xb0 hrd,za0]
  conv=>whnf
  rw [hla];have hL':here L p=[]:=za3 λ z=>c ((I.me p).mpr z);refine xf2 hla (Nat.lt_of_lt_of_le (by decide:0 < 1000) (Nat.le_of_lt hz)) (q _ (A ++ [(p,r)]) ⟨?_,I.fr,?_,?_,?_,?_,?_,?_,?_⟩)
  ·exact ((I.ex.trans (Ext.new hr)).upd I.fr).upd (I.ex.free hr)
  ·rw [xb0 (Ne.symm hrd),za0,yt3 c];unfold atk; rw [map_append]; rfl
  ·rw [map_append,nodup_append];refine ⟨I.nd,by simp,λ a ha b hb e=>?_⟩;have:b=p:=by simpa using hb
   subst this; subst e;exact c ha
  ·intro p2;rw [map_append,map_append,mem_append,mem_append,I.me]; rfl
  ·rw [length_append,length_append]; have:=I.le; simp only [length_cons,length_nil]; omega
  ·rw [map_append,nodup_append];refine ⟨I.n2,by simp,λ a ha b hb e=>?_⟩;have:b=r:=by simpa using hb
   subst this; subst e;obtain ⟨x,hx,rfl⟩:=List.mem_map.mp ha;have:=I.ls x hx;rw [hr] at this; cases this
  ·intro x hx;rcases List.mem_append.mp hx with h | h
   ·exact I.fr2 x h
   ·have:x=(p,r):=by simpa using h
    subst this;exact I.ex.free hr
  ·intro x hx;rcases List.mem_append.mp hx with h | h
   ·have hl:=I.ls x h;have c3:x.1 ≠ p:=λ z=>c (List.mem_map.mpr ⟨x,h,z⟩);have c4:x.2 ≠ d:=λ z=>by rw [z,I.dc] at hl; cases hl
    rw [xb0 (zb0 hl hr),xb0 c4,xb0 (zb0 hl hr),ua2 _ _ c3];exact hl
   ·have:x=(p,r):=by simpa using h
    subst this;dsimp only;rw [za0,xd1,hL']; rfl
def incs (ts:List T3):List (Pt × T3):=ts.flatMap λ t=>[(e0 t,t),(e1 t,t)]
theorem wa2 (ts:List T3) (s:T3):incs (ts ++ [s])=incs ts ++ [(e0 s,s)] ++ [(e1 s,s)]:=by
 unfold incs; rw [List.flatMap_append]; simp
theorem tl1 (ts:List T3):(incs ts).length=2 * ts.length:=by
 induction ts with
 | nil=>rfl
 | cons s r ih=>unfold incs at ih ⊢; rw [List.flatMap_cons,length_append,ih]; simp; omega
theorem yd1 (p:Pt):∀ ts:List T3,here (incs ts) p=ts.filter (has p)
 | []=>rfl
 | s :: r=>by
  have ih:=yd1 p r;have e:incs (s :: r)=(e0 s,s) :: (e1 s,s) :: incs r:=rfl;rw [e,filter_cons];unfold here at ih ⊢;rw [filter_cons,filter_cons];dsimp only;have ne:=e_ne s;have hh:has p s=(decide (e0 s=p) || decide (e1 s=p)):=rfl;rw [hh];by_cases c0:e0 s=p
  ·have c1:¬ e1 s=p:=λ z=>ne (c0.trans z.symm);simp only [c0,c1,decide_true,decide_false,if_true,Bool.true_or,map_cons,Bool.false_eq_true,if_false,ih]
  ·by_cases c1:e1 s=p
   ·simp only [c0,c1,decide_true,decide_false,if_true,Bool.false_or,map_cons,Bool.false_eq_true,if_false,ih]
   ·simp only [c0,c1,decide_false,Bool.or_self,Bool.false_eq_true,if_false,ih]
theorem vl2 {ts:List T3} {p:Pt}:p ∈ (incs ts).map (·.1) ↔ ∃ s ∈ ts,has p s=true:=by
 constructor
 ·intro h;obtain ⟨⟨p',t⟩,h1,rfl⟩:=List.mem_map.mp h;obtain ⟨s,hs,h2⟩:=List.mem_flatMap.mp h1;rcases List.mem_cons.mp h2 with e | h2
  ·cases e; exact ⟨_,hs,zr2 _⟩
  ·have e:=List.mem_singleton.mp h2;cases e; exact ⟨_,hs,yr2 _⟩
 ·rintro ⟨s,hs,h⟩;rcases xr2 h with rfl | rfl
  ·exact List.mem_map.mpr ⟨(e0 s,s),List.mem_flatMap.mpr ⟨s,hs,by simp⟩,rfl⟩
  ·exact List.mem_map.mpr ⟨(e1 s,s),List.mem_flatMap.mpr ⟨s,hs,by simp⟩,rfl⟩
def spAt:Sp3:=λ ds μ Q=>∃ ts:List T3,ds=[.tup [38]] /\ (∀ t ∈ ts,wy t) /\ ts.length < 60 /\ ∀ d A μ',AtI encT μ μ' d (incs ts) A->Q (.ref d) μ'
theorem zq3 (ds:List D) (μ:Mu) (Q:VK3) (h:spAt ds μ Q):ug3 sl0 { nx:=λ _ μ'=>Q .non μ',rt:=Q } (start3 vd3 ds) μ:=by
 obtain ⟨ts,rfl,hw,hl,q⟩:=h;intro d hd;refine wf0 (λ l ρ μ'=>∃ (us vs:List T3) (A:List (Pt × Addr)) (o2 o3:Option D),l=us.map encT /\ vs ++ us=ts /\ ρ=[some (.tup [38]),some (.ref d),o2,o3] /\ AtI encT μ μ' d (incs vs) A) ?_ (λ _ _ _ _=>trivial) ?_ ?_
 ·exact ⟨ts,[],[],none,none,rfl,rfl,rfl,Ext.new hd,hd,za0,nodup_nil,λ p=>Iff.rfl,Nat.le_refl _,nodup_nil,λ _ h=>(nomatch h),λ _ h=>(nomatch h)⟩
 ·rintro ρ μ' ⟨us,vs,A,o2,o3',e,ev,rfl,I⟩;cases us with
  | cons _ _=>cases e
  | nil =>
   rw [append_nil] at ev;subst ev;exact q d A μ' I
 ·rintro x rest ρ μ' ⟨us,vs,A,o2,o3',e,ev,rfl,I⟩;cases us with
  | nil=>cases e
  | cons s us =>
   rw [map_cons] at e;injection e with e1 e2
   subst e1 e2;have hs:s ∈ ts:=by rw [<- ev]; simp
   have hl2:vs.length < 60:=by rw [<- ev,length_append] at hl; omega
   have ln:(incs vs).length < 400:=by rw [tl1]; omega
   refine ⟨s,rfl,hw s hs,?_⟩;refine vb2 (λ ρ μ'=>∃ A o3,ρ=[some (.tup [38]),some (.ref d),some (encT s),o3] /\ AtI encT μ μ' d (incs vs ++ [(e0 s,s)]) A) (λ ρ μ'=>∃ A o3,ρ=[some (.tup [38]),some (.ref d),some (encT s),o3] /\ AtI encT μ μ' d (incs vs ++ [(e0 s,s)] ++ [(e1 s,s)]) A) ?_ ?_ ?_
   ·exact te2 (p:=e0 s) I [1] λ μ2 A2 I2=>⟨A2,_,rfl,I2⟩
   ·rintro ρ μ1 ⟨A1,o3'',rfl,I1⟩;exact te2 (p:=e1 s) I1 (by rw [length_append]; simp only [length_cons,length_nil]; omega) λ μ2 A2 I2=>⟨A2,_,rfl,I2⟩
   ·rintro ρ μ1 ⟨A1,o3'',rfl,I1⟩;rw [<- wa2] at I1;exact ⟨us,vs ++ [s],A1,_,_,rfl,by rw [<- ev]; simp,rfl,I1⟩
theorem sx3 (t:T3):keyI (encT t)=some (tk3 t):=rfl
def snk (S:List T3):List (List Int × D):=S.map λ t=>(tk3 t,.bl true)
theorem vt1 {a b:T3} (h:tk3 a=tk3 b):a=b:=by
 unfold tk3 at h;injection h with h1 h2
 injection h2 with h2 h3
 injection h3 with h3 _
 exact Prod.ext h1 (Prod.ext h2 h3)
theorem ts1:∀ (S:List T3) (t:T3),(valL (snk S) (tk3 t)).isSome=decide (t ∈ S)
 | [],t=>by simp [valL,snk]
 | s :: S,t=>by
  have ih:=ts1 S t;by_cases c:s=t
  ·subst c; simp [valL,snk]
  ·have c':¬ tk3 s=tk3 t:=λ z=>c (vt1 z);have c2:¬ t=s:=λ z=>c z.symm;simp only [valL,snk,map_cons,find?_cons,c',decide_false,mem_cons,c2,false_or] at ih ⊢;exact ih
theorem xt3 {S:List T3} {t:T3} (h:t ∉ S):putL (snk S) (tk3 t) (.bl true)=snk (S ++ [t]):=by
 unfold putL;rw [if_neg]
 ·unfold snk; rw [map_append]; rfl
 ·intro z;obtain ⟨kv,h1,h2⟩:=List.any_eq_true.mp z;obtain ⟨x,hx,rfl⟩:=List.mem_map.mp h1;have e:=vt1 (of_decide_eq_true h2);exact h (e ▸ hx)
theorem za4 {s:Addr} {S:List T3} {t:T3} {μ:Mu} {Q:VK3} (h:μ s=some (.dcl (snk S))) (k:Q (.bl (!decide (t ∈ S))) μ):dinR true (encT t) (.ref s) μ Q:=by
 unfold dinR;simp only [sx3,h,ts1];exact k
theorem zt3 {s:Addr} {S:List T3} {t:T3} {μ:Mu} {D':Ends3} {ρ:St3} {to ti:TE3} (h:μ s=some (.dcl (snk S))) (hl:S.length < 90000) (ht:t ∉ S) (h1:∀ R,R (.ref s) μ->to ρ μ R) (h2:∀ R,R (encT t) μ->ti ρ μ R) (k:D'.nx ρ (updM μ s (.dcl (snk (S ++ [t]))))):vc2 to ti (c3 (.bl true)) D' ρ μ:=by
 refine h1 _ (h2 _ ?_);simp only [sx3,h];refine ⟨by unfold snk; rw [length_map]; exact hl,?_⟩;rw [xt3 ht];exact k
def xj1:Sp3:=λ ds μ Q=>∃ (q s:Addr) (l S:List T3),ds=[.ref q,.ref s] /\ μ q=some (.lst (l.map encT)) /\ μ s=some (.dcl (snk S)) /\ l.Nodup /\ S.length + l.length < 500 ∧
 ∀ r μ',ExtB s μ μ'->μ r=none->μ' r=some (.lst ((l.filter λ t=>!decide (t ∈ S)).map encT))->μ' s=some (.dcl (snk (S ++ l.filter λ t=>!decide (t ∈ S))))->Q (.ref r) μ'
theorem xq3 (ds:List D) (μ:Mu) (Q:VK3) (h:xj1 ds μ Q):wg3 { nx:=λ _ μ'=>Q .non μ',rt:=Q } (start3 zd3 ds) μ:=by
 obtain ⟨q,s,l,S,rfl,hq,hs,hn,hl,k⟩:=h;have hz:(1000:Nat) < sizeLine:=by decide
 have hqs:q ≠ s:=λ z=>by subst z; rw [hq] at hs; cases hs
 conv=>whnf
 rw [hq];intro p hp;refine xn2 (rest:=[some (.ref s)]) (λ d=>!decide (decT d ∈ S)) hp (by rw [length_map]; omega) (λ μ' ex=>ex _ _ hq) ?_ ?_
 ·intro x hx μ' R ex kk;obtain ⟨t,ht,rfl⟩:=List.mem_map.mp hx;exact za4 (Q:=λ d μ1=>match d with | .bl c=>R c μ1 | _=>False) (ex _ _ hs) kk
 ·intro μ1 ex e1;rw [yb3 (λ t=>!decide (t ∈ S))] at e1;have hs1:=ex _ _ hs;have hps:p ≠ s:=λ z=>by subst z; rw [hs1] at e1; cases e1
  generalize hL:(l.filter λ t=>!decide (t ∈ S))=L at e1 k
  have LS:∀ t ∈ L,t ∉ S:=λ t ht=>by
   rw [<- hL,mem_filter] at ht;simpa using ht.2
  have Ln:L.Nodup:=by rw [<- hL]; exact hn.filter _
  have Ll:L.length<=l.length:=by rw [<- hL]; exact length_filter_le _ _
  conv=>whnf
  rw [e1];refine wf0 (λ l' ρ μ'=>∃ (us vs:List T3) (o:Option D),l'=us.map encT /\ vs ++ us=L /\ ρ=[some (.ref q),some (.ref s),some (.ref p),o] /\ ExtB s μ1 μ' /\ μ' s=some (.dcl (snk (S ++ vs)))) ?_ ?_ ?_ ?_
  ·exact ⟨L,[],none,rfl,rfl,rfl,ExtB.refl _ _,by rw [append_nil]; exact hs1⟩
  ·rintro l' ρ μ' ⟨us,vs,o,_,_,_,eb,_⟩;exact eb _ _ hps e1
  ·rintro ρ μ' ⟨us,vs,o,e,ev,rfl,eb,hs'⟩;cases us with
   | cons _ _=>cases e
   | nil =>
    rw [append_nil] at ev;subst ev;exact k p μ' ((ex.b s).trans eb) hp (eb _ _ hps e1) hs'
  ·rintro x rest ρ μ' ⟨us,vs,o,e,ev,rfl,eb,hs'⟩;cases us with
   | nil=>cases e
   | cons t us =>
    rw [map_cons] at e;injection e with e2 e3
    subst e2 e3
    have ht:t ∉ S ++ vs:=λ z=>by
     rcases List.mem_append.mp z with z | z
     ·exact LS t (by rw [<- ev]; simp) z
     ·rw [<- ev] at Ln;exact (List.nodup_append.mp Ln).2.2 t z t [20] rfl
    have ll:(S ++ vs).length < 90000:=by rw [length_append]; rw [<- ev,length_append] at Ll; omega
    refine zt3 (to:=v3 1) (ti:=v3 3) hs' ll ht (λ R r=>r) (λ R r=>r) ⟨us,vs ++ [t],_,rfl,by rw [<- ev]; simp,rfl,eb.trans ExtB.upd,?_⟩;rw [za0,append_assoc]
structure AtD (μ:Mu) (d:Addr) (ts:List T3) (A:List (Pt × Addr)):Prop where
 dc:μ d=some (.dcl (atk A))
 nd:(A.map (·.1)).Nodup
 me:∀ p,p ∈ A.map (·.1) ↔ ∃ s ∈ ts,has p s=true
 le:A.length<=2 * ts.length
 ls:∀ x ∈ A,μ x.2=some (.lst ((ts.filter (has x.1)).map encT))
theorem AtI.d {μ0 μ:Mu} {d:Addr} {ts:List T3} {A:List (Pt × Addr)} (I:AtI encT μ0 μ d (incs ts) A):AtD μ d ts A :=
 ⟨I.dc,I.nd,λ p=>(I.me p).trans vl2,by rw [<- tl1]; exact I.le,λ x hx=>by rw [I.ls x hx,yd1]⟩
theorem AtD.ext {μ μ':Mu} {d s:Addr} {ts:List T3} {A:List (Pt × Addr)} {S:[18]} (a:AtD μ d ts A) (hs:μ s=some (.dcl S)) (ne:d ≠ s) (e:ExtB s μ μ'):AtD μ' d ts A :=
 ⟨e _ _ ne a.dc,a.nd,a.me,a.le,λ x hx=>e _ _ (λ z=>by have:=a.ls x hx; rw [z,hs] at this; cases this) (a.ls x hx)⟩
theorem AtD.mono {μ μ':Mu} {d:Addr} {ts:List T3} {A:List (Pt × Addr)} (a:AtD μ d ts A) (e:Ext μ μ'):AtD μ' d ts A:=⟨e _ _ a.dc,a.nd,a.me,a.le,λ x hx=>e _ _ (a.ls x hx)⟩
theorem zl4 {μ:Mu} {d:Addr} {ts:List T3} {A:List (Pt × Addr)} {p:Pt} {Q:VK3} (a:AtD μ d ts A) (h:∃ s ∈ ts,has p s=true) (k:∀ q,μ q=some (.lst ((ts.filter (has p)).map encT))->Q (.ref q) μ):dgR (.ref d) (encQ p) μ Q:=by
 obtain ⟨⟨p',q⟩,hx,e⟩:=List.mem_map.mp ((a.me p).mpr h);dsimp only at e; subst e;unfold dgR;simp only [xa3,a.dc,xt1 a.nd hx];exact k q (a.ls _ hx)
theorem vz3 {p q:Addr} {l m:List D} {μ:Mu} {Q:VK3} (h1:μ p=some (.lst l)) (h2:μ q=some (.lst m)) (hl:l.length + m.length<=sizeLine) (k:Q .non (updM μ p (.lst (l ++ m)))):extR (.ref p) [.ref q] μ Q:=by
 unfold extR;simp only [h1,h2];exact ⟨hl,k⟩
structure Mk (ts S:List T3) (a:T3) (P:List T3):Prop where
 nd:P.Nodup
 sub:∀ x ∈ P,x ∈ ts /\ x ∉ S
 hd:a ∈ P
 co:∀ x ∈ P,Conn ts a x
theorem Mk.len {ts S P:List T3} {a:T3} (m:Mk ts S a P):P.length<=ts.length:=List.Nodup.length_le_of_subset m.nd λ x hx=>(m.sub x hx).1
theorem Mk.add {ts S P:List T3} {a h:T3} {p:Pt} (hn:ts.Nodup) (m:Mk ts S a P) (hh:h ∈ P) (hp:has p h=true):Mk ts S a (P ++ (ts.filter (has p)).filter λ t=>!decide (t ∈ S ++ P)):=by
 refine ⟨?_,λ x hx=>?_,mem_append_left _ m.hd,λ x hx=>?_⟩
 ·rw [nodup_append];refine ⟨m.nd,(hn.filter _).filter _,λ x hx y hy e=>?_⟩;subst e;rw [mem_filter] at hy;simp [hx] at hy
 ·rcases List.mem_append.mp hx with hx | hx
  ·exact m.sub x hx
  ·rw [mem_filter,mem_filter] at hx;have:=hx.2;simp at this;exact ⟨hx.1.1,this.1⟩
 ·rcases List.mem_append.mp hx with hx | hx
  ·exact m.co x hx
  ·rw [mem_filter,mem_filter] at hx;exact .step (m.co h hh) hx.1.1 ⟨p,hp,hx.1.2⟩
structure Wp (μ μ':Mu) (ts S:List T3) (a:T3) (s pc:Addr) (P:List T3):Prop where
 eb:ExtB s μ μ'
 fr:μ pc=none
 pl:μ' pc=some (.lst (P.map encT))
 sn:μ' s=some (.dcl (snk (S ++ P)))
 mkk:Mk ts S a P
theorem ExtB.updn {μ0 μ:Mu} {s p:Addr} {o:MO} (e:ExtB s μ0 μ) (h:μ0 p=none):ExtB s μ0 (updM μ p o):=λ a u n q=>by
 rw [xb0 (zb0 q h)]; exact e a u n q
theorem tw1 {μ μ':Mu} {ts S P:List T3} {a h:T3} {d s pc:Addr} {A:List (Pt × Addr)} {p:Pt} {o0 o4 o5:Option D} {Q:VK3} (hn:ts.Nodup) (hl:ts.length < 60) (hS:S.length < 60) (hs:∃ S,μ s=some (.dcl S)) (hd:AtD μ d ts A) (ne:d ≠ s) (W:Wp μ μ' ts S a s pc P) (hh:h ∈ P) (hp:has p h=true)
    (k:∀ μ2 N,Wp μ μ2 ts S a s pc (P ++ N)->(∀ c ∈ ts,has p c=true->c ∈ S ++ (P ++ N))->Q .non μ2) :
    mt3 extR (v3 3) (cons3 (call3 xj1 (cons3 (o3 dgR (v3 1) (v3 6)) (cons3 (v3 2) nil3))) nil3) [o0,some (.ref d),some (.ref s),some (.ref pc),o4,o5,some (encQ p)] μ' Q:=by
 have hz:(1000:Nat) < sizeLine:=by decide
 obtain ⟨S0,hs0⟩:=hs;have a':=hd.ext hs0 ne W.eb;have lP:=W.mkk.len
 conv=>whnf
 rw [W.pl];show dgR (.ref d) (encQ p) μ' (λ x μ1=>_);refine zl4 a' ⟨h,(W.mkk.sub h hh).1,hp⟩ λ q hq=>?_;have lf:(ts.filter (has p)).length<=ts.length:=length_filter_le _ _;refine ⟨q,s,ts.filter (has p),S ++ P,rfl,hq,W.sn,hn.filter _,by rw [length_append]; omega,λ r μ2 eb hr er es=>?_⟩;have hps:pc ≠ s:=λ z=>by have:=W.pl; rw [z,W.sn] at this; cases this
 have hpr:pc ≠ r:=zb0 W.pl hr;refine vz3 (eb _ _ hps W.pl) er ?_ ?_
 ·rw [length_map,length_map];have:=length_filter_le (λ t=>!decide (t ∈ S ++ P)) (ts.filter (has p));omega
 ·rw [<- map_append];refine k _ _ ⟨(W.eb.trans eb).updn W.fr,W.fr,za0,?_,W.mkk.add hn hh hp⟩ λ c hc hpc=>?_
  ·rw [xb0 (Ne.symm hps),es,append_assoc]
  ·by_cases z:c ∈ S ++ P
   ·rw [<- append_assoc]; exact mem_append_left _ z
   ·rw [<- append_assoc];refine mem_append_right _ (List.mem_filter.mpr ⟨List.mem_filter.mpr ⟨hc,hpc⟩,?_⟩);simpa using z
def spPw:Sp3:=λ ds μ Q=>∃ (ts S:List T3) (a:T3) (d s:Addr) (A:List (Pt × Addr)),ds=[encT a,.ref d,.ref s] /\ Pc ts /\ AtD μ d ts A /\ μ s=some (.dcl (snk S)) /\ d ≠ s /\ a ∈ ts /\ a ∉ S /\ S.length < 60 ∧
 ∀ (P us:List T3) μ',ExtB s μ μ'->μ' s=some (.dcl (snk (S ++ P)))->Mk ts S a P->(∀ x ∈ P,∀ c ∈ ts,tch x c->c ∈ S ++ P)->us.Perm P->us.Pairwise le3->Q (.tup (us.map encT)) μ'
theorem tq3 (ds:List D) (μ:Mu) (Q:VK3) (h:spPw ds μ Q):yh3 sl0 xj1 { nx:=λ _ μ'=>Q .non μ',rt:=Q } (start3 xe3 ds) μ:=by
 obtain ⟨ts,S,a,d,s,A,rfl,hP,hd,hs,ne,ha,haS,hS,q⟩:=h;have hn:=wv3 hP;have hl:=hP.2.2;refine zt3 (t:=a) (to:=v3 2) (ti:=v3 0) (ρ:=[some (encT a),some (.ref d),some (.ref s),none,none,none,none]) hs [1] haS (λ R r=>r) (λ R r=>r) ?_;refine ⟨(show 1<=sizeLine by decide),λ pc hpc=>?_⟩;have hps:pc ≠ s:=λ z=>by subst z; rw [za0] at hpc; cases hpc
 have hpf:μ pc=none:=by rw [xb0 hps] at hpc; exact hpc
 have m0:Mk ts S a [a]:=⟨by simp,λ x hx=>by rw [mem_singleton] at hx; subst hx; exact ⟨ha,haS⟩,by simp,λ x hx=>by rw [mem_singleton] at hx; subst hx; exact .refl⟩;refine ⟨λ m ρ μ'=>∃ (n:Nat) (P:List T3) (o5 o6:Option D),m=ts.length - n /\ n<=P.length /\ ρ=[some (encT a),some (.ref d),some (.ref s),some (.ref pc),some (.int n),o5,o6] /\ Wp μ μ' ts S a s pc P /\ ∀ j x,j < n->P[j]?=some x->∀ c ∈ ts,tch x c->c ∈ S ++ P,⟨ts.length - 0,0,[a],none,none,rfl,Nat.zero_le _,rfl,⟨ExtB.upd.updn hpf,hpf,za0,?_,m0⟩,λ j x hj=>absurd hj (Nat.not_lt_zero _)⟩,?_⟩
 ·rw [xb0 (Ne.symm hps),za0]
 ·rintro m ρ μ' ⟨n,P,o5,o6,rfl,hnP,rfl,W,cv⟩;have lP:=W.mkk.len
  conv=>whnf
  rw [W.pl];show if decide ((n:Int) < ((P.map encT).length:Int))=true then _ else _;by_cases cn:n < P.length
  ·rw [if_pos (decide_eq_true (by rw [length_map]; omega))];refine ⟨λ ρ1 μ1=>∃ (P1:List T3) (o5 o6:Option D),n + 1<=P1.length /\ ρ1=[some (encT a),some (.ref d),some (.ref s),some (.ref pc),some (.int ((n:Int) + 1)),o5,o6] /\ Wp μ μ1 ts S a s pc P1 /\ ∀ j x,j < n + 1->P1[j]?=some x->∀ c ∈ ts,tch x c->c ∈ S ++ P1,?_,?_⟩
   ·rintro ρ1 μ1 ⟨P1,o5',o6',hn1,rfl,W1,cv1⟩;exact ⟨ts.length - (n + 1),by omega,n + 1,P1,o5',o6',rfl,hn1,rfl,W1,cv1⟩
   ·obtain ⟨b1,ea⟩:=sh1 (ts:=P) (i:=(n:Int)) [1] [1];refine vp0 W.pl ea ?_;have ei:((n:Int)).toNat=n:=by omega
    have hg:P[n]?=some (P[n]'cn):=getElem?_eq_getElem cn;have eh:P[((n:Int)).toNat]=P[n]'cn:=by congr 1
    rw [eh];generalize P[n]'cn=h at hg;have hh:h ∈ P:=mem_of_getElem? hg;have hw:wy h:=hP.2.1 h (W.mkk.sub h hh).1;refine ⟨h,rfl,hw,?_⟩
    refine vb2 (λ ρ1 μ1=>∃ N o6,ρ1=[some (encT a),some (.ref d),some (.ref s),some (.ref pc),some (.int n),some (encT h),o6] /\ Wp μ μ1 ts S a s pc (P ++ N) /\ ∀ c ∈ ts,has (e0 h) c=true->c ∈ S ++ (P ++ N))
     (λ ρ1 μ1=>∃ N o6,ρ1=[some (encT a),some (.ref d),some (.ref s),some (.ref pc),some (.int n),some (encT h),o6] /\ Wp μ μ1 ts S a s pc (P ++ N) /\ (∀ c ∈ ts,has (e0 h) c=true->c ∈ S ++ (P ++ N)) /\ ∀ c ∈ ts,has (e1 h) c=true->c ∈ S ++ (P ++ N)) ?_ ?_ ?_
    ·exact tw1 (p:=e0 h) hn hl hS ⟨_,hs⟩ hd ne W hh (zr2 h) λ μ2 N W2 cv2=>⟨N,_,rfl,W2,cv2⟩
    ·rintro ρ1 μ1 ⟨N,o6',rfl,W1,cv1⟩;refine tw1 (p:=e1 h) hn hl hS ⟨_,hs⟩ hd ne W1 (mem_append_left _ hh) (yr2 h) λ μ2 N2 W2 cv2=>⟨N ++ N2,_,rfl,by rw [<- append_assoc]; exact W2,λ c hc hp=>?_,λ c hc hp=>by have z:=cv2 c hc hp; rw [append_assoc P] at z; exact z⟩;rw [<- append_assoc,<- append_assoc];refine mem_append_left _ ?_;rw [append_assoc];exact cv1 c hc hp
    ·rintro ρ1 μ1 ⟨N,o6',rfl,W1,cv0,cv1⟩;refine ⟨P ++ N,_,_,by rw [length_append]; omega,rfl,W1,λ j x hj ex c hc ht=>?_⟩;by_cases cj:j < n
     ·rw [getElem?_append_left [1]] at ex;rcases List.mem_append.mp (cv j x cj ex c hc ht) with z | z
      ·exact mem_append_left _ z
      ·exact mem_append_right _ (mem_append_left _ z)
     ·have ej:j=n:=by omega
      subst ej;rw [getElem?_append_left [1],hg] at ex;cases ex;obtain ⟨p,p1,p2⟩:=ht;rcases xr2 p1 with rfl | rfl
      ·exact cv0 c hc p2
      ·exact cv1 c hc p2
  ·rw [if_neg (λ z=>cn (by have:=of_decide_eq_true z; rw [length_map] at this; omega))];show srtR [.ref pc] μ' λ d μ1=>tupR [d] μ1 Q;refine sj3 W.pl [1] λ us a1 a2 r hr=>wf2 za0 (q P us _ (W.eb.trans (Ext.b s (Ext.new hr))) ?_ W.mkk ?_ a1 a2)
   ·rw [xb0 (zb0 W.sn hr)]; exact W.sn
   ·intro x hx c hc ht;obtain ⟨j,hj,ej⟩:=List.getElem_of_mem hx;exact cv j x [1] (by rw [getElem?_eq_getElem hj,ej]) c hc ht
def encU (u:List T3):D:=.tup (u.map encT)
structure Wq (ts S:List T3) (us:List (List T3)):Prop where
 perm:us.flatten.Perm S
 nd:S.Nodup
 sub:∀ x ∈ S,x ∈ ts
 ne:∀ u ∈ us,u ≠ []
 up:∀ u ∈ us,u.Pairwise le3
 cl:∀ u ∈ us,∀ a ∈ u,∀ c ∈ ts,tch a c->c ∈ u
 co:∀ u ∈ us,∀ a ∈ u,∀ b ∈ u,Conn ts a b
theorem Wq.scl {ts S:List T3} {us:List (List T3)} (w:Wq ts S us) {x c:T3} (hx:x ∈ S) (hc:c ∈ ts) (ht:tch x c):c ∈ S:=by
 obtain ⟨u,hu,xu⟩:=List.mem_flatten.mp (w.perm.mem_iff.mpr hx);exact w.perm.mem_iff.mp (List.mem_flatten.mpr ⟨u,hu,w.cl u hu x xu c hc ht⟩)
theorem Wq.add {ts S P u:List T3} {us:List (List T3)} {a:T3} (ha:a ∈ ts) (w:Wq ts S us) (m:Mk ts S a P) (cv:∀ x ∈ P,∀ c ∈ ts,tch x c->c ∈ S ++ P) (hu:u.Perm P) (hs:u.Pairwise le3):Wq ts (S ++ P) (us ++ [u]):=by
 have clP:∀ x ∈ P,∀ c ∈ ts,tch x c->c ∈ P:=λ x hx c hc ht=>by
  rcases List.mem_append.mp (cv x hx c hc ht) with z | z
  ·exact absurd (w.scl z (m.sub x hx).1 ht.symm) (m.sub x hx).2
  ·exact z
 have each:∀ {C:List T3->Prop},(∀ v ∈ us,C v)->C u->∀ v ∈ us ++ [u],C v:=λ h k v hv=>by
  rcases List.mem_append.mp hv with hv | hv
  ·exact h v hv
  ·rw [mem_singleton] at hv; subst hv; exact k
 refine ⟨?_,?_,λ x hx=>?_,each w.ne ?_,each w.up hs,each w.cl ?_,each w.co ?_⟩
 ·rw [List.flatten_append];exact List.Perm.append w.perm (by simpa using hu)
 ·rw [nodup_append];exact ⟨w.nd,m.nd,λ x hx y hy e=>(m.sub y hy).2 (e ▸ hx)⟩
 ·rcases List.mem_append.mp hx with z | z
  ·exact w.sub x z
  ·exact (m.sub x z).1
 ·intro z; subst z; exact absurd (hu.symm.mem_iff.mp m.hd) [20]
 ·intro x hx c hc ht;exact hu.mem_iff.mpr (clP x (hu.mem_iff.mp hx) c hc ht)
 ·intro x hx y hy;exact ((m.co x (hu.mem_iff.mp hx)).symm ha).trans (m.co y (hu.mem_iff.mp hy))
def wo0 (XE:XE3):Sp3:=λ ds μ Q=>∃ d,ds=[d] /\ GbP XE μ d (λ ts=>∀ r (us:List (List T3)) μ',Ext μ μ'->μ r=none->μ' r=some (.lst (us.map encU))->IsP ts us->Q (.ref r) μ')
theorem sq3 (XE:XE3) (ds:List D) (μ:Mu) (Q:VK3) (h:wo0 XE ds μ Q):zh3 XE va1 spPw spAt { nx:=λ _ μ'=>Q .non μ',rt:=Q } (start3 ye3 ds) μ:=by
 obtain ⟨dd,rfl,g⟩:=h;rcases g with ⟨ts,rfl,hP,q⟩ | ⟨l,rfl,hb,xe⟩
 case inr=>exact ⟨_,rfl,.inr ⟨l,rfl,hb,xe⟩⟩
 have hn:=wv3 hP;have hl:=hP.2.2;have hz:(1000:Nat) < sizeLine:=by decide
 refine ⟨_,rfl,.inl ⟨ts,rfl,hP,ts,rfl,hP.2.1,hl,λ d A μ1 I=>?_⟩⟩;intro s hs;refine ⟨Nat.zero_le _,λ pl hpl=>?_⟩;have hds:d ≠ s:=zb0 I.dc hs;have hpls:pl ≠ s:=λ z=>by subst z; rw [za0] at hpl; cases hpl
 have hpl1:μ1 pl=none:=by rw [xb0 hpls] at hpl; exact hpl
 refine wf0 (λ l ρ μ'=>∃ (ks js S:List T3) (us:List (List T3)) (o:Option D),l=ks.map encT /\ js ++ ks=ts /\ ρ=[some (.tup [38]),some (.ref d),some (.ref s),some (.ref pl),o] /\ Ext μ1 μ' /\ μ' s=some (.dcl (snk S)) /\ μ' pl=some (.lst (us.map encU)) /\ Wq ts S us /\ us.length<=S.length /\ ∀ x ∈ js,x ∈ S) ?_ (λ _ _ _ _=>trivial) ?_ ?_
 ·refine ⟨ts,[],[],[],none,rfl,rfl,rfl,(Ext.new hs).trans (Ext.new hpl),?_,za0,⟨by simp,nodup_nil,λ _ h=>(nomatch h),λ _ h=>(nomatch h),λ _ h=>(nomatch h),λ _ h=>(nomatch h),λ _ h=>(nomatch h)⟩,Nat.le_refl _,λ _ h=>(nomatch h)⟩;rw [xb0 (Ne.symm hpls),za0]; rfl
 ·rintro ρ μ' ⟨ks,js,S,us,o,e,ej,rfl,ex,es,ep,w,lu,hj⟩;cases ks with
  | cons _ _=>cases e
  | nil =>
   rw [append_nil] at ej;subst ej;refine q pl us μ' (I.ex.trans ex) (I.ex.free hpl1) ep ⟨w.perm.trans ((List.perm_ext_iff_of_nodup w.nd hn).mpr λ x=>⟨w.sub x,hj x⟩),w.ne,w.up,w.cl,w.co⟩
 ·rintro x rest ρ μ' ⟨ks,js,S,us,o,e,ej,rfl,ex,es,ep,w,lu,hj⟩;cases ks with
  | nil=>cases e
  | cons a ks =>
   rw [map_cons] at e;injection e with e2 e3
   subst e2 e3;have ha:a ∈ ts:=by rw [<- ej]; simp
   have lS:S.length<=ts.length:=List.Nodup.length_le_of_subset w.nd w.sub
   conv=>whnf
   rw [es];show if (!(valL (snk S) (tk3 a)).isSome)=true then _ else _;rw [ts1];by_cases c:a ∈ S
   ·rw [decide_eq_true c];refine ⟨ks,js ++ [a],S,us,_,rfl,by rw [<- ej]; simp,rfl,ex,es,ep,w,lu,λ x hx=>?_⟩;rcases List.mem_append.mp hx with z | z
    ·exact hj x z
    ·rw [mem_singleton] at z; subst z; exact c
   ·rw [decide_eq_false c]
    conv=>whnf
    rw [ep];refine ⟨ts,S,a,d,s,A,rfl,hP,I.d.mono ex,es,hds,ha,c,by omega,λ P v μ2 eb es2 m cv v1 v2=>?_⟩;have ep2:=eb pl _ hpls ep;have lP:=m.len;have w2:=w.add ha m cv v1 v2;have lS2:(S ++ P).length<=ts.length:=List.Nodup.length_le_of_subset w2.nd w2.sub;have hP1:1<=P.length:=List.length_pos_of_mem m.hd
    conv=>whnf
    rw [ep2];refine ⟨by rw [length_map]; omega,?_⟩;refine ⟨ks,js ++ [a],S ++ P,us ++ [v],_,rfl,by rw [<- ej]; simp,rfl,?_,?_,?_,w2,?_,λ x hx=>?_⟩
    ·intro b o' hb;have n1:b ≠ s:=zb0 hb hs;have n2:b ≠ pl:=zb0 hb hpl1;rw [xb0 n2];exact eb b o' n1 (ex b o' hb)
    ·rw [xb0 (Ne.symm hpls)]; exact es2
    ·rw [za0,map_append]; rfl
    ·rw [length_append,length_append]; simp only [length_cons,length_nil]; omega
    ·rcases List.mem_append.mp hx with z | z
     ·exact mem_append_left _ (hj x z)
     ·rw [mem_singleton] at z; subst z; exact mem_append_right _ m.hd
theorem sq2 (ns:List Int):ints? (ns.map D.int)=some ns:=by
 induction ns with
 | nil=>rfl
 | cons n r ih=>simp only [map_cons,ints?,ih]
theorem xx3 {p:Addr} {ns:List Int} {μ:Mu} {Q:VK3} (h:μ p=some (.lst (ns.map D.int))) (k:0 < ns.length /\ ∀ m,m ∈ ns->(∀ a,a ∈ ns->m<=a)->Q (.int m) μ):uq1 [.ref p] μ Q:=by
 simp only [uq1,h,sq2];exact k
theorem tw3 {p:Addr} {ns:List Int} {μ:Mu} {Q:VK3} (h:μ p=some (.lst (ns.map D.int))) (k:0 < ns.length /\ ∀ m,m ∈ ns->(∀ a,a ∈ ns->a<=m)->Q (.int m) μ):tq1 [.ref p] μ Q:=by
 simp only [tq1,h,sq2];exact k
structure Bx (ts:List T3) (x0 y0 x1 y1:Int):Prop where
 a0:∃ s ∈ ts,s.1=x0
 l0:∀ s ∈ ts,x0<=s.1
 b0:∃ s ∈ ts,s.2.1=y0
 m0:∀ s ∈ ts,y0<=s.2.1
 a1:∃ s ∈ ts,gx s=x1
 l1:∀ s ∈ ts,gx s<=x1
 b1:∃ s ∈ ts,gy s=y1
 m1:∀ s ∈ ts,gy s<=y1
theorem Bx.one {ts:List T3} {x0 y0 x1 y1 u0 v0 u1 v1:Int} (h:Bx ts x0 y0 x1 y1) (k:Bx ts u0 v0 u1 v1):x0=u0 /\ y0=v0 /\ x1=u1 /\ y1=v1:=by
 obtain ⟨⟨s1,a1,b1⟩,l0,⟨s2,a2,b2⟩,m0,⟨s3,a3,b3⟩,l1,⟨s4,a4,b4⟩,m1⟩:=h;obtain ⟨⟨t1,c1,d1⟩,n0,⟨t2,c2,d2⟩,o0,⟨t3,c3',d3⟩,n1,⟨t4,c4,d4⟩,o1⟩:=k;have:=l0 t1 c1; have:=n0 s1 a1; have:=m0 t2 c2; have:=o0 s2 a2;have:=l1 t3 c3'; have:=n1 s3 a3; have:=m1 t4 c4; have:=o1 s4 a4;exact ⟨by omega,by omega,by omega,by omega⟩
def tg2:Sp3:=λ ds μ Q=>∃ ts:List T3,ds=[.tup [38]] /\ (∀ t ∈ ts,wy t) /\ ts.length < 60 /\ (ts=[]->Q .non μ) /\ (ts ≠ []->∀ x0 y0 x1 y1 μ',Bx ts x0 y0 x1 y1->Ext μ μ'->Q (.tup [.int x0,.int y0,.int x1,.int y1]) μ')
theorem tm1 {i:Nat} {w:Nat} {ρ:St3} {p:Addr} {L:List Pt} {g:Pt->Int} {μ:Mu} {K:VK3} (hi:(i=0 /\ g=λ q=>q.1) \/ (i=1 /\ g=λ q=>q.2)) (hv:getI ρ w=some (.ref p)) (h:μ p=some (.lst (L.map encQ))) (hl:L.length < 1000)
    (k:∀ r μ',Ext μ μ'->μ' r=some (.lst ((L.map g).map D.int))->K (.ref r) μ'):comp3 [none] (is3 (v3 w)) (gn3 0) tt3 (o3 ixR (v3 0) (c3 (.int (i:Int)))) ρ μ K:=by
 have hz:(1000:Nat) < sizeLine:=by decide
 unfold comp3 is3 v3;rw [hv];dsimp only;rw [h];intro r hr;refine zi0 (rest:=[]) (λ d=>.int (match d with | .tup [.int a,.int b]=>g (a,b) | _=>0)) hr (by rw [length_map]; omega) (λ μ' e=>e _ _ h) ?_ ?_
 ·intro x hx μ' R ex kk;obtain ⟨q,_,rfl⟩:=List.mem_map.mp hx;rcases hi with ⟨rfl,rfl⟩ | ⟨rfl,rfl⟩ <;> exact kk μ' (Ext.refl _)
 ·intro μ' ex e
  have el:(L.map encQ).map (λ d=>D.int (match d with | .tup [.int a,.int b]=>g (a,b) | _=>0))=(L.map g).map D.int:=by
   rw [map_map,map_map]; rfl
  rw [el] at e;exact k r μ' ex e
theorem xr3 (ds:List D) (μ:Mu) (Q:VK3) (h:tg2 ds μ Q):wh3 sl0 { nx:=λ _ μ'=>Q .non μ',rt:=Q } (start3 ze3 ds) μ:=by
 obtain ⟨ts,rfl,hw,hl,q0,q1⟩:=h;have hz:(1000:Nat) < sizeLine:=by decide
 show if decide (([38].length:Int)=0)=true then _ else _;by_cases c:ts=[]
 ·rw [decide_eq_true (by rw [c]; rfl),if_pos rfl];exact q0 c
 have hpos:=List.length_pos_iff.mpr c;rw [decide_eq_false (by rw [length_map]; omega),if_neg [9]]
 have cq:∀ (f:T3->Pt) (i:Int) (K:VK3) (μ:Mu),(∀ s ∈ ts,∀ μ' R,R (encQ (f s)) μ'->(o3 ixR (call3 sl0 [28]) (c3 (.int i))) [some (encT s)] μ' R)->(∀ r μ',Ext μ μ'->μ' r=some (.lst ((ts.map f).map encQ))->K (.ref r) μ')->∀ r,μ r=none->ud2 (λ _=>True) r (gn3 0) tt3 (o3 ixR (call3 sl0 [28]) (c3 (.int i))) K [38] [none] (updM μ r (.lst [])):=by
  intro f i K μ hf k r hr;refine zi0 (rest:=[]) (λ d=>encQ (f (decT d))) hr (zl hl) (λ _ _=>trivial) ?_ ?_
  ·intro x hx μ' R ex kk;obtain ⟨s,hs,rfl⟩:=List.mem_map.mp hx;exact hf s hs μ' R (kk μ' (Ext.refl _))
  ·intro μ' ex e;have el:[38].map (λ d=>encQ (f (decT d)))=(ts.map f).map encQ:=by rw [map_map,map_map]; rfl
   rw [el] at e;exact k r μ' ex e
 refine cq e0 0 _ μ (λ s hs μ' R kk=>⟨s,rfl,hw s hs,kk⟩) λ r1 μ1 ex1 er1=>?_;refine cq e1 1 _ μ1 (λ s hs μ' R kk=>⟨s,rfl,hw s hs,kk⟩) λ r2 μ2 ex2 er2=>?_;have er1':=ex2 _ _ er1;show uf0 sl0 _ [some (.tup [38]),some (.ref r1),some (.ref r2),none] μ2;have l60:(ts.map e0).length < 1000:=by rw [length_map]; omega
 have l61:(ts.map e1).length < 1000:=by rw [length_map]; omega
 unfold uf0;dsimp only [seq3,set3,tup3,cons3,call3];refine tm1 (i:=0) (.inl ⟨rfl,rfl⟩) rfl er1' l60 λ r3 μ3 ex3 er3=>?_
 try dsimp only [nil3]
 refine xx3 er3 ⟨by simp only [length_map]; exact hpos,λ x0 a1 b1=>?_⟩;refine tm1 (i:=1) (.inr ⟨rfl,rfl⟩) rfl (ex3 _ _ er1') l60 λ r4 μ4 ex4 er4=>?_
 try dsimp only [nil3]
 refine xx3 er4 ⟨by simp only [length_map]; exact hpos,λ y0 a2 b2=>⟨z2,?_⟩⟩;have er2':=ex4 _ _ (ex3 _ _ er2);unfold vi0;dsimp only [ret3,o3,seq3,set3,tup3,cons3,call3];refine tm1 (i:=0) (.inl ⟨rfl,rfl⟩) rfl er2' l61 λ r5 μ5 ex5 er5=>?_
 try dsimp only [nil3]
 refine tw3 er5 ⟨by simp only [length_map]; exact hpos,λ x1 a3 b3=>?_⟩;refine tm1 (i:=1) (.inr ⟨rfl,rfl⟩) rfl (ex5 _ _ er2') l61 λ r6 μ6 ex6 er6=>?_
 try dsimp only [nil3]
 refine tw3 er6 ⟨by simp only [length_map]; exact hpos,λ y1 a4 b4=>⟨z2,Z0,?_⟩⟩;refine q1 c x0 y0 x1 y1 μ6 ?_ (ex1.trans (ex2.trans (ex3.trans (ex4.trans (ex5.trans ex6)))));simp only [map_map,List.mem_map,Function.comp] at a1 a2 a3 a4 b1 b2 b3 b4;obtain ⟨s1,h1,rfl⟩:=a1;obtain ⟨s2,h2,rfl⟩:=a2;obtain ⟨s3,h3,rfl⟩:=a3;obtain ⟨s4,h4,rfl⟩:=a4;exact ⟨⟨s1,h1,rfl⟩,λ s hs=>b1 _ ⟨s,hs,rfl⟩,⟨s2,h2,rfl⟩,λ s hs=>b2 _ ⟨s,hs,rfl⟩,⟨s3,h3,rfl⟩,λ s hs=>b3 _ ⟨s,hs,rfl⟩,⟨s4,h4,rfl⟩,λ s hs=>b4 _ ⟨s,hs,rfl⟩⟩
def encS (p:Pt × T3):D:=.tup [encQ p.1,encT p.2]
def sds (c:Pt):List (Pt × T3):=[((c.1 + 1,c.2),(c.1 + 1,c.2,1)),((c.1,c.2 + 1),(c.1,c.2 + 1,0)),((c.1 - 1,c.2),(c.1,c.2,1)),((c.1,c.2 - 1),(c.1,c.2,0))]
def spSd:Sp3:=λ ds μ Q=>∃ c:Pt,ds=[encQ c] /\ Q (.tup ((sds c).map encS)) μ
theorem wq3 (ds:List D) (μ:Mu) (Q:VK3) (h:spSd ds μ Q):tg3 { nx:=λ _ μ'=>Q .non μ',rt:=Q } (start3 ud3 ds) μ:=by
 obtain ⟨c,rfl,q⟩:=h;exact ⟨z2,z3,z2,z2,z3,z2,z2,z3,z2,z2,z3,z2,Z0,q⟩
theorem wc3 {S:Mu->Prop} {p:Addr} {tc:TT3} {te:TE3} {Q:VK3} {l:List D} {o:Option D} {rest:St3} {μ:Mu} (f:D->Bool) (g:D->D) (hp:μ p=none) (hl:l.length<=sizeLine) (hS:∀ μ',Ext μ μ'->S μ')
    (hc:∀ x ∈ l,∀ μ' R,Ext μ μ'->R (f x) μ'->tc (some x :: rest) μ' R) (hx:∀ x ∈ l,∀ μ' R,Ext μ μ'->R (g x) μ'->te (some x :: rest) μ' R) (hQ:∀ μ',Ext μ μ'->μ' p=some (.lst ((l.filter f).map g))->Q (.ref p) μ'):ud2 S p (gn3 0) tc te Q l (o :: rest) (updM μ p (.lst [])):=by
 refine ⟨λ r ys ρ μ'=>Ext μ μ' /\ μ' p=some (.lst ys) /\ (∃ o',ρ=o' :: rest) /\ ∃ a,a ++ r=l /\ ys=(a.filter f).map g,?_,?_,?_,?_⟩
 ·exact ⟨Ext.new hp,za0,⟨o,rfl⟩,[],rfl,rfl⟩
 ·rintro r ys ρ μ' ⟨h1,h2,_⟩;exact ⟨hS _ h1,h2⟩
 ·rintro ys ρ μ' ⟨h1,h2,_,a,e,rfl⟩;rw [append_nil] at e;subst e;exact hQ _ h1 h2
 ·rintro x r ys ρ μ' ⟨h1,h2,⟨o',rfl⟩,a,e,rfl⟩;have hm:x ∈ l:=by rw [<- e]; simp
  refine ⟨?_,hc x hm μ' _ h1 ?_⟩
  ·have h3:=congrArg List.length e;rw [length_append,length_cons] at h3;have:=length_filter_le f a;rw [length_map];omega
  ·have e2:(a ++ [x]) ++ r=l:=by rw [<- e]; simp
   cases c:f x with
   | true =>
    refine hx x hm μ' _ h1 ⟨h2,λ b v hb=>?_,za0,⟨_,rfl⟩,a ++ [x],e2,?_⟩
    ·rw [xb0 (zb0 hb hp)];exact h1 b v hb
    ·rw [filter_append];simp [c]
   | false =>
    refine ⟨h1,h2,⟨_,rfl⟩,a ++ [x],e2,?_⟩;rw [filter_append];simp [c]
def decS (d:D):Pt × T3:=match d with
 | .tup [.tup [.int a,.int b],.tup [.int x,.int y,.int z]]=>((a,b),(x,y,z))
 | _=>((0,0),(0,0,0))
def nbs (kvs:[18]) (c:Pt):List Pt:=((sds c).filter λ p=>!(valL kvs (tk3 p.2)).isSome).map (·.1)
def spNb:Sp3:=λ ds μ Q=>∃ (c:Pt) (d:Addr) (kvs:[18]),ds=[encQ c,.ref d] /\ μ d=some (.dcl kvs) /\ ∀ r μ',Ext μ μ'->μ r=none->μ' r=some (.lst ((nbs kvs c).map encQ))->Q (.ref r) μ'
theorem zr3 (ds:List D) (μ:Mu) (Q:VK3) (h:spNb ds μ Q):uh3 spSd { nx:=λ _ μ'=>Q .non μ',rt:=Q } (start3 ve3 ds) μ:=by
 obtain ⟨c,d,kvs,rfl,hd,q⟩:=h;refine ⟨c,rfl,λ r hr=>?_⟩;refine wc3 (rest:=[some (.ref d)]) (λ x=>!(valL kvs (tk3 (decS x).2)).isSome) (λ x=>encQ (decS x).1) hr Z0 (λ _ _=>trivial) ?_ ?_ ?_
 ·intro x hx μ' R ex k;obtain ⟨p,_,rfl⟩:=List.mem_map.mp hx;have hd':=ex _ _ hd
  conv=>whnf
  rw [hd'];exact k
 ·intro x hx μ' R ex k;obtain ⟨p,_,rfl⟩:=List.mem_map.mp hx;exact k
 ·intro μ' ex e;refine q r μ' ex hr ?_;rw [e];congr 2;unfold nbs;rw [List.filter_map,map_map,map_map];rfl
def col (x y:Int) (h:Nat):List Pt:=(List.range h).map λ j:Nat=>(x,y + (j:Int))
def grid (x y:Int) (w h:Nat):List Pt:=(List.range w).flatMap λ i:Nat=>col (x + (i:Int)) y h
theorem zm1 (x y:Int) (w h:Nat):(grid x y w h).length=w * h:=by
 unfold grid col;rw [List.length_flatMap];simp [List.map_const',List.sum_replicate_nat]
theorem yb2 (x y:Int) (w h:Nat):grid x y (w + 1) h=grid x y w h ++ col (x + (w:Int)) y h:=by
 unfold grid;rw [List.range_succ,List.flatMap_append];simp
theorem ur1 {x y:Int} {w h:Nat} (hw:0 < w) (hh:0 < h):(x,y) ∈ grid x y w h:=by
 unfold grid col;rw [List.mem_flatMap];exact ⟨0,List.mem_range.mpr hw,List.mem_map.mpr ⟨0,List.mem_range.mpr hh,by simp⟩⟩
def encB (x0 y0 x1 y1:Int):D:=.tup [.int x0,.int y0,.int x1,.int y1]
def spCr:Sp3:=λ ds μ Q=>∃ (x0 y0 x1 y1:Int) (w h:Nat),ds=[encB x0 y0 x1 y1] /\ x1 - x0 + 2=w /\ y1 - y0 + 2=h /\ w * h<=2500 /\ 0 < w /\ 0 < h /\ (-(2 ^ 61)<=x0 /\ x0<=2 ^ 61 /\ -(2 ^ 61)<=y0 /\ y0<=2 ^ 61) /\ ∀ r μ',Ext μ μ'->μ r=none->μ' r=some (.lst ((grid (x0 - 1) (y0 - 1) w h).map encQ))->Q (.ref r) μ'
theorem zg4 (ds:List D) (μ:Mu) (Q:VK3) (h:spCr ds μ Q):t_q9 { nx:=λ _ μ'=>Q .non μ',rt:=Q } (start3 N_q9 ds) μ:=by
 obtain ⟨x0,y0,x1,y1,w,h,rfl,ew,eh,hz,hw,hh,⟨b1,b2,b3,b4⟩,q⟩:=h;have hs:(1000000:Nat) < sizeLine:=by decide
 have w5:w<=2500:=Nat.le_trans (Nat.le_mul_of_pos_right w hh) hz;have h5:h<=2500:=Nat.le_trans (Nat.le_mul_of_pos_left h hw) hz;refine ⟨Nat.zero_le _,λ r hr=>?_⟩;refine ⟨⟨by omega,by omega,by omega,by omega⟩,?_⟩;rw [show (x1 + 1 - (x0 - 1)).toNat=w by omega];refine wf0 (λ l ρ μ'=>∃ (i:Nat) (o:Option D),i<=w /\ l=rngD (x0 - 1 + (i:Int)) (w - i) /\ ρ=[some (encB x0 y0 x1 y1),some (.ref r),o] /\ Ext μ μ' /\ μ' r=some (.lst ((grid (x0 - 1) (y0 - 1) i h).map encQ))) ?_ (λ _ _ _ _=>trivial) ?_ ?_
 ·exact ⟨0,none,Nat.zero_le _,by simp,rfl,Ext.new hr,za0⟩
 ·rintro ρ μ' ⟨i,o,hi,e,rfl,ex,er⟩
  have:w - i=0:=by
   have:=congrArg List.length e;simpa [rngD] using this.symm
  have e2:i=w:=by omega
  subst e2;exact q r μ' ex hr er
 ·rintro x rest ρ μ' ⟨i,o,hi,e,rfl,ex,er⟩;cases hk:w - i with
  | zero=>rw [hk] at e; cases e
  | succ k =>
   rw [hk,ui0] at e;injection e with e1 e2
   subst e1 e2;have gl:=zm1 (x0 - 1) (y0 - 1) i h
   have il:i * h + h<=2500:=by
    have:(i + 1) * h<=w * h:=Nat.mul_le_mul_right h [1];rw [Nat.add_mul,Nat.one_mul] at this;omega
   conv=>whnf
   rw [er];refine ⟨⟨by omega,by omega,by omega,by omega⟩,λ p hp=>?_⟩;rw [show (y1 + 1 - (y0 - 1)).toNat=h by omega];refine zi0 (rest:=[some (.int (x0 - 1 + (i:Int)))]) (λ d=>.tup [.int (x0 - 1 + (i:Int)),d]) hp (by simp [rngD]; omega) (λ _ _=>trivial) ?_ ?_
   ·intro y hy μ2 R ex2 kk;exact ⟨z2,kk μ2 (Ext.refl _)⟩
   ·intro μ2 ex2 e2
    have el:(rngD (y0 - 1) h).map (λ d=>D.tup [.int (x0 - 1 + (i:Int)),d])=(col (x0 - 1 + (i:Int)) (y0 - 1) h).map encQ:=by
     unfold rngD col;rw [map_map,map_map];rfl
    rw [el] at e2;have er2:=ex2 _ _ er;have np:r ≠ p:=zb0 er hp;dsimp only [nil3];refine vz3 er2 e2 (by rw [length_map,length_map,gl]; unfold col; simp; omega) ?_;refine ⟨i + 1,_,by omega,?_,rfl,λ a o ha=>?_,?_⟩
    ·rw [show w - (i + 1)=k by omega];congr 1;omega
    ·rw [xb0 (zb0 ha hr)]; exact ex2 _ _ (ex _ _ ha)
    ·rw [za0,<- map_append,<- yb2]
def vg2 (XE:XE3):Sp3:=λ ds μ Q=>∃ x0 y0 x1 y1:Int,ds=[encB x0 y0 x1 y1] /\ (-(2 ^ 64) < x1 - x0 + 2 /\ x1 - x0 + 2 < 2 ^ 64) /\ (2500 < (x1 - x0 + 2) * (y1 - y0 + 2)->XE "NoRoom" μ) /\ ((x1 - x0 + 2) * (y1 - y0 + 2)<=2500->Q .non μ)
theorem sr3 (XE:XE3) (ds:List D) (μ:Mu) (Q:VK3) (h:vg2 XE ds μ Q):zi3 XE { nx:=λ _ μ'=>Q .non μ',rt:=Q } (start3 zf3 ds) μ:=by
 obtain ⟨x0,y0,x1,y1,rfl,hb,q1,q2⟩:=h;refine ⟨.inl (.inl hb),?_⟩;show if decide ((2500:Int) < (x1 - x0 + 2) * (y1 - y0 + 2))=true then _ else _;by_cases c:(2500:Int) < (x1 - x0 + 2) * (y1 - y0 + 2)
 ·rw [decide_eq_true c,if_pos rfl];exact ⟨by decide,q1 c⟩
 ·rw [decide_eq_false c,if_neg [9]];exact q2 [1]
theorem ty0 {kvs:[18]} {k:List Int} (h:(valL kvs k).isSome=true):(sy0 kvs k).length + 1<=kvs.length:=by
 unfold sy0
 induction kvs with
 | nil=>cases h
 | cons a r ih =>
  rw [filter_cons];by_cases c:a.1=k
  ·rw [if_neg (by simp [c])];have:=length_filter_le (λ kv:List Int × D=>decide (kv.1 ≠ k)) r;rw [length_cons];omega
  ·have h':(valL r k).isSome=true:=by simpa [valL,c] using h
   rw [if_pos (by simp [c]),length_cons,length_cons];have:=ih h';omega
theorem wu3 {u:Addr} {kvs:[18]} {i j:Nat} {c:Pt} {ρ:St3} {μ:Mu} {R:VK3} (hi:getI ρ i=some (.ref u)) (hj:getI ρ j=some (encQ c)) (hu:μ u=some (.dcl kvs)) (hv:(valL kvs (ptk c)).isSome=true) (k:∀ v,R v (updM μ u (.dcl (sy0 kvs (ptk c))))):dm3 true (v3 i) (cons3 (v3 j) nil3) ρ μ R:=by
 unfold dm3 cons3 v3 nil3;rw [hi];dsimp only;rw [hu];dsimp only;rw [hj];dsimp only;rw [xa3];dsimp only;cases e:valL kvs (ptk c) with
 | none=>rw [e] at hv; cases hv
 | some v=>exact k v
theorem ap_d {i j:Nat} {p:Addr} {l:List D} {x:D} {ρ:St3} {μ:Mu} {D':Ends3} (hi:getI ρ i=some (.ref p)) (hj:getI ρ j=some x) (h:μ p=some (.lst l)) (k:l.length < sizeLine /\ D'.nx ρ (updM μ p (.lst (l ++ [x])))):drop3 (mt3 appR (v3 i) (cons3 (v3 j) nil3)) D' ρ μ:=by
 unfold drop3 mt3 cons3 v3 nil3;rw [hi];dsimp only;rw [h];dsimp only;rw [hj];simp only [appR,h];exact k
theorem xk3 {p:Addr} {ps:List Pt} {μ:Mu} {Q:VK3} (h:μ p=some (.lst (ps.map encQ))) (h64:ps.length < 100000) (k:∀ us:List Pt,us.Perm ps->us.Pairwise le2->∀ r,μ r=none->Q (.ref r) (updM μ r (.lst (us.map encQ)))):un1 [.ref p] μ Q:=by
 have e:t2s? (ps.map encQ)=some ps:=xu1 ps;unfold un1;simp only [h,e]
 exact ⟨by have:(100000:Nat) < sizeLine:=by decide
           omega,k⟩
theorem ExtB.free {u r:Addr} {μ μ':Mu} (e:ExtB u μ μ') (h:μ' r=none) (n:r ≠ u):μ r=none:=by
 cases q:μ r with
 | none=>rfl
 | some o=>rw [e r o n q] at h; cases h
def spTc:Sp3:=λ ds μ Q=>∃ (c:Pt) (d u:Addr) (fs kvs:[18]),ds=[encQ c,.ref d,.ref u] /\ μ d=some (.dcl fs) /\ μ u=some (.dcl kvs) /\ d ≠ u /\ (valL kvs (ptk c)).isSome=true /\ kvs.length<=2600 ∧
 ∀ r (ps:List Pt) kvs' μ',ExtB u μ μ'->μ r=none->r ≠ u->μ' r=some (.lst (ps.map encQ))->μ' u=some (.dcl kvs')->1<=ps.length->ps.length + kvs'.length<=kvs.length->Q (.ref r) μ'
structure Wt (μ μ':Mu) (u tk:Addr) (kvs kvs':List (List Int × D)) (ps:List Pt):Prop where
 eb:ExtB u μ μ'
 un:μ' u=some (.dcl kvs')
 pl:μ' tk=some (.lst (ps.map encQ))
 le:ps.length + kvs'.length<=kvs.length
 po:1<=ps.length
theorem yq3 (ds:List D) (μ:Mu) (Q:VK3) (h:spTc ds μ Q):vg3 spNb { nx:=λ _ μ'=>Q .non μ',rt:=Q } (start3 wd3 ds) μ:=by
 obtain ⟨c,d,u,fs,kvs,rfl,hd,hu,ne,hv,hl,q⟩:=h;have hz:(1000000:Nat) < sizeLine:=by decide
 refine wu3 (i:=2) (j:=0) (c:=c) (ρ:=[some (encQ c),some (.ref d),some (.ref u),none,none,none,none]) rfl rfl hu hv λ _=>?_;have dl:=ty0 hv;refine ⟨(show 1<=sizeLine by decide),λ tk htk=>?_⟩;have ntu:tk ≠ u:=λ z=>by subst z; rw [za0] at htk; cases htk
 have htf:μ tk=none:=by rw [xb0 ntu] at htk; exact htk
 have ndt:d ≠ tk:=zb0 hd htf;refine ⟨λ m ρ μ'=>∃ (n:Nat) (ps:List Pt) (kvs':[18]) (o5 o6:Option D),m=kvs'.length + (ps.length - n) /\ n<=ps.length /\ ρ=[some (encQ c),some (.ref d),some (.ref u),some (.ref tk),some (.int n),o5,o6] /\ Wt μ μ' u tk kvs kvs' ps,⟨_,0,[c],sy0 kvs (ptk c),none,none,rfl,Nat.zero_le _,rfl,⟨ExtB.upd.updn htf,?_,za0,by rw [length_singleton]; omega,Nat.le_refl _⟩⟩,?_⟩
 ·rw [xb0 (Ne.symm ntu),za0]
 ·rintro m ρ μ' ⟨n,ps,kvs',o5,o6,rfl,hn,rfl,W⟩;have hle:=W.le
  conv=>whnf
  rw [W.pl];show if decide ((n:Int) < ((ps.map encQ).length:Int))=true then _ else _;by_cases cn:n < ps.length
  ·rw [if_pos (decide_eq_true (by rw [length_map]; omega))];refine ⟨λ ρ1 μ1=>∃ (ps1:List Pt) (kvs1:[18]) (o5 o6:Option D),n + 1<=ps1.length /\ kvs1.length + ps1.length<=kvs'.length + ps.length /\ ρ1=[some (encQ c),some (.ref d),some (.ref u),some (.ref tk),some (.int ((n:Int) + 1)),o5,o6] /\ Wt μ μ1 u tk kvs kvs1 ps1,?_,?_⟩
   ·rintro ρ1 μ1 ⟨ps1,kvs1,o5',o6',hn1,hl1,rfl,W1⟩;exact ⟨kvs1.length + (ps1.length - (n + 1)),by omega,n + 1,ps1,kvs1,o5',o6',rfl,hn1,rfl,W1⟩
   ·have ea:atI (ps.map encQ) (n:Int)=some (encQ ps[n]):=by
      unfold atI ixN;rw [if_pos [1],if_pos (by rw [length_map]; omega),Int.toNat_natCast];simp [cn]
    refine vp0 W.pl ea ?_;have hd':=W.eb d _ ne hd;refine ⟨_,d,fs,rfl,hd',λ r μ1 ex1 hr er=>?_⟩;have nru:r ≠ u:=(zb0 W.un hr).symm;have nrt:r ≠ tk:=(zb0 W.pl hr).symm
    conv=>whnf
    rw [er];refine wf0 (λ l ρ μ2=>∃ (qs ps1:List Pt) (kvs1:[18]) (o6:Option D),l=qs.map encQ /\ n + 1<=ps1.length /\ kvs1.length + ps1.length<=kvs'.length + ps.length /\ ρ=[some (encQ c),some (.ref d),some (.ref u),some (.ref tk),some (.int n),some (encQ ps[n]),o6] /\ Wt μ μ2 u tk kvs kvs1 ps1 /\ μ2 r=some (.lst ((nbs fs ps[n]).map encQ))) ?_ ?_ ?_ ?_
    ·exact ⟨_,ps,kvs',_,rfl,cn,Nat.le_refl _,rfl,⟨W.eb.trans (Ext.b u ex1),ex1 _ _ W.un,ex1 _ _ W.pl,W.le,W.po⟩,er⟩
    ·rintro l ρ μ2 ⟨_,_,_,_,_,_,_,_,_,h⟩;exact h
    ·rintro ρ μ2 ⟨qs,ps1,kvs1,o6',_,h1,h2,rfl,W1,_⟩;exact ⟨ps1,kvs1,_,o6',h1,h2,rfl,W1⟩
    ·rintro x rest ρ μ2 ⟨qs,ps1,kvs1,o6',e,h1,h2,rfl,W1,er1⟩;cases qs with
     | nil=>cases e
     | cons y qs =>
      rw [map_cons] at e;injection e with e1 e2
      subst e1 e2;have l1:=W1.le
      conv=>whnf
      rw [W1.un];show if (valL kvs1 (ptk y)).isSome=true then _ else _;cases cv:(valL kvs1 (ptk y)).isSome with
      | false=>exact ⟨qs,ps1,kvs1,_,rfl,h1,h2,rfl,W1,er1⟩
      | true =>
       have dl1:=ty0 cv;refine wu3 (i:=2) (j:=6) (c:=y) (ρ:=[some (encQ c),some (.ref d),some (.ref u),some (.ref tk),some (.int n),some (encQ ps[n]),some (encQ y)]) rfl rfl W1.un cv λ _=>?_;have pl1:updM μ2 u (.dcl (sy0 kvs1 (ptk y))) tk=some (.lst (ps1.map encQ)):=by rw [xb0 ntu]; exact W1.pl
       refine ap_d (i:=3) (j:=6) (x:=encQ y) (ρ:=[some (encQ c),some (.ref d),some (.ref u),some (.ref tk),some (.int n),some (encQ ps[n]),some (encQ y)]) rfl rfl pl1 ⟨by rw [length_map]; omega,qs,ps1 ++ [y],sy0 kvs1 (ptk y),_,rfl,by rw [length_append]; omega,by rw [length_append,length_singleton]; omega,rfl,⟨?_,?_,?_,?_,by rw [length_append,length_singleton]; omega⟩,?_⟩
       ·exact λ a o na ha=>by rw [xb0 (zb0 ha htf),xb0 na]; exact W1.eb a o na ha
       ·rw [xb0 (Ne.symm ntu),za0]
       ·rw [za0,map_append]; rfl
       ·rw [length_append,length_singleton]; omega
       ·rw [xb0 nrt,xb0 nru]; exact er1
  ·rw [if_neg (λ z=>cn (by have:=of_decide_eq_true z; rw [length_map] at this; omega))];show un1 [.ref tk] μ' Q;refine xk3 W.pl [1] λ us a1 a2 r hr=>q r us kvs' _ (W.eb.trans (Ext.b u (Ext.new hr))) ?_ (zb0 W.un hr).symm za0 ?_ ?_ ?_
   ·exact W.eb.free hr (zb0 W.un hr).symm
   ·rw [xb0 (zb0 W.un hr)]; exact W.un
   ·rw [a1.length_eq]; exact W.po
   ·rw [a1.length_eq]; exact hle
theorem ss1 (k:List Int) (v:D) (k':List Int):∀ kvs,valL (putL kvs k v) k'=if k=k' then some v else valL kvs k':=by
 intro kvs;unfold putL;by_cases h:(kvs.any λ kv=>decide (kv.1=k))=true
 ·rw [if_pos h];unfold valL;by_cases c:k=k'
  ·subst c;rw [if_pos rfl]
   induction kvs with
   | nil=>simp at h
   | cons a r ih =>
    rw [map_cons,find?_cons];by_cases ca:a.1=k
    ·simp [ca]
    ·simp only [ca,if_false,decide_false];refine ih ?_;rw [any_cons] at h;simpa [ca] using h
  ·rw [if_neg c];clear h
   induction kvs with
   | nil=>rfl
   | cons a r ih =>
    rw [map_cons,find?_cons,find?_cons];by_cases ca:a.1=k
    ·have c2:¬ a.1=k':=λ z=>c (ca.symm.trans z);simp only [ca,if_true,c,c2,decide_false];simpa [ca,c] using ih
    ·simp only [ca,if_false];by_cases c2:a.1=k'
     ·simp [c2]
     ·simp only [c2,decide_false];exact ih
 ·rw [if_neg h];unfold valL;rw [List.find?_append]
  have hn:kvs.find? (λ kv=>decide (kv.1=k))=none:=by
   rw [List.find?_eq_none];intro x hx hc;exact h (List.any_eq_true.mpr ⟨x,hx,hc⟩)
  by_cases c:k=k'
  ·subst c;rw [hn,if_pos rfl];simp
  ·rw [if_neg c];simp [c]
theorem sw1 (kvs:[18]) (k:List Int) (v:D):(putL kvs k v).length<=kvs.length + 1:=by
 unfold putL;split
 ·rw [length_map]; omega
 ·simp
theorem forR {S:Mu->Prop} {g:TG3} {tb:TS3} {D':Ends3} (V:Nat->St3->Mu->Prop) {n:Nat} {ρ:St3} {μ:Mu} (hS:∀ μ,S μ) (h0:V 0 ρ μ) (hn:∀ ρ μ,V n ρ μ->D'.nx ρ μ)
    (hs:∀ i ρ μ,i < n->V i ρ μ->g (.int (i:Int)) ρ μ λ ρ1 μ1=>tb { D' with nx:=V (i + 1),ct:=V (i + 1),bk:=D'.nx } ρ1 μ1):vh1 S g tb D' (rngD 0 n) ρ μ:=by
 have main:∀ k i ρ μ,i + k=n->V i ρ μ->vh1 S g tb D' (rngD (i:Int) k) ρ μ:=by
  intro k
  induction k with
  | zero =>
   intro i ρ μ e v;have e':i=n:=e;rw [e'] at v;exact ⟨hS μ,hn _ _ v⟩
  | succ k ih =>
   intro i ρ μ e v;rw [ui0];exact ⟨hS μ,V (i + 1),λ ρ' μ' v'=>ih (i + 1) ρ' μ' [1] v',hs i ρ μ [1] v⟩
 exact main n 0 ρ μ (Nat.zero_add n) h0
theorem ws2 {α:Type} {l:List α} {i:Nat} {v:α} (h:l[i]?=some v):atI l (i:Int)=some v:=by
 have hl:i < l.length:=(List.getElem?_eq_some_iff.mp h).1;unfold atI ixN;rw [if_pos [1],if_pos [1],Int.toNat_natCast];exact h
theorem vz1:∀ ts:List T3,tq0 ([38].map λ d=>.tup [d,.bl true])=some (ts.map λ t=>(tk3 t,.bl true))
 | []=>rfl
 | t :: ts=>by
  have:=vz1 ts;simp only [map_cons,tq0,this];rfl
theorem uz1:∀ ts:List Pt,tq0 ((ts.map encQ).map λ d=>.tup [d,.bl true])=some (ts.map λ t=>(ptk t,.bl true))
 | []=>rfl
 | t :: ts=>by
  have:=uz1 ts;simp only [map_cons,tq0,this];rfl
theorem sz3 {p:Addr} {l:List D} {ps:[18]} {μ:Mu} {K:VK3} (h:μ p=some (.lst l)) (e:tq0 l=some ps) (hl:ps.length<=3000) (k:∀ r,μ r=none->K (.ref r) (updM μ r (.dcl (dof ps)))):dolR [.ref p] μ K:=by
 have:(3000:Nat) < sizeLine:=by decide
 simp only [dolR,h,e];exact ⟨by omega,k⟩
theorem wm1:∀ (ps kvs:[18]),(ps.foldl (λ kvs p=>putL kvs p.1 p.2) kvs).length<=kvs.length + ps.length
 | [],kvs=>Nat.le_refl _
 | p :: ps,kvs=>by
  have:=wm1 ps (putL kvs p.1 p.2);have:=sw1 kvs p.1 p.2;rw [foldl_cons,length_cons];omega
theorem vm1:∀ (ps:[18]) {kvs:[18]} {k:List Int},(k ∈ ps.map (·.1) \/ (valL kvs k).isSome=true)->(valL (ps.foldl (λ kvs p=>putL kvs p.1 p.2) kvs) k).isSome=true
 | [],_,_,h=>h.elim (λ z=>nomatch z) id
 | p :: ps,kvs,k,h=>by
  rw [foldl_cons];refine vm1 ps ?_;rw [ss1];by_cases c:p.1=k
  ·rw [if_pos c]; exact .inr rfl
  ·rw [if_neg c];rcases h with h | h
   ·rcases List.mem_cons.mp h with z | z
    ·exact absurd z.symm c
    ·exact .inl z
   ·exact .inr h
structure Rm (μ:Mu) (r:Addr) (rs:List (Addr × List Pt)):Prop where
 li:μ r=some (.lst (rs.map λ x=>.ref x.1))
 at':∀ x ∈ rs,μ x.1=some (.lst (x.2.map encQ))
 sz:(rs.map λ x=>x.2.length).sum<=2500
 ln:rs.length<=2500
theorem Rm.mono {μ μ':Mu} {r:Addr} {rs:List (Addr × List Pt)} (h:Rm μ r rs) (e:Ext μ μ'):Rm μ' r rs:=⟨e _ _ h.li,λ x hx=>e _ _ (h.at' x hx),h.sz,h.ln⟩
def BxS (ts:List T3) (w h:Nat):Prop:=∃ x0 y0 x1 y1:Int,Bx ts x0 y0 x1 y1 /\ x1 - x0 + 2=w /\ y1 - y0 + 2=h /\ (-(2 ^ 61)<=x0 /\ x0<=2 ^ 61 /\ -(2 ^ 61)<=y0 /\ y0<=2 ^ 61) /\ 0 < w /\ 0 < h /\ w < 2 ^ 61
def RoP (XE:XE3) (μ:Mu) (ts:List T3) (ok:Prop):Prop:=ts ≠ [] /\ ∃ w h,BxS ts w h /\ (2500 < w * h->∀ μ',Ext μ μ'->XE "NoRoom" μ') /\ (w * h<=2500->ok)
def wf1 (XE:XE3):Sp3:=λ ds μ Q=>∃ d,ds=[d] /\ GbP XE μ d (λ ts=>RoP XE μ ts (∀ r rs μ',Ext μ μ'->Rm μ' r rs->Q (.ref r) μ'))
theorem vq3 (XE:XE3) (ds:List D) (μ:Mu) (Q:VK3) (h:wf1 XE ds μ Q):sg3 XE spCr va1 vg2 tg2 spTc { nx:=λ _ μ'=>Q .non μ',rt:=Q } (start3 td3 ds) μ:=by
 obtain ⟨dd,rfl,g⟩:=h;rcases g with ⟨ts,rfl,hP,hn,w,h,⟨u0,v0,u1,v1,bx,ew,eh,b,hw,hh,w6⟩,q1,q2⟩ | ⟨l,rfl,hb,xe⟩
 case inr=>exact ⟨_,rfl,.inr ⟨l,rfl,hb,xe⟩⟩
 have hz:(1000000:Nat) < sizeLine:=by decide
 refine ⟨_,rfl,.inl ⟨ts,rfl,hP,?_⟩⟩;refine ⟨ts,rfl,hP.2.1,hP.2.2,λ c=>absurd c hn,λ _ x0 y0 x1 y1 μ1 bx' ex1=>?_⟩;obtain ⟨rfl,rfl,rfl,rfl⟩:=bx.one bx';show zk0 XE spCr va1 vg2 tg2 spTc _ [some (.tup [38]),some (encB u0 v0 u1 v1),none,none,none,none] μ1;have em:(u1 - u0 + 2) * (v1 - v0 + 2)=((w * h:Nat):Int):=by rw [ew,eh]; push_cast; rfl
 refine ⟨u0,v0,u1,v1,rfl,⟨by omega,by omega⟩,λ c=>q1 (by rw [em] at c; omega) μ1 ex1,λ c=>?_⟩;have c5:w * h<=2500:=by rw [em] at c; omega
 have q:=q2 c5;clear q1 q2;intro r2 hr2;refine zi0 (rest:=[]) (λ d=>.tup [d,.bl true]) hr2 (zl hP.2.2) (λ _ _=>trivial) (λ x hx μ' R ex kk=>⟨z2,kk μ' (Ext.refl _)⟩) λ μ2 ex2 e2=>?_;dsimp only [nil3];have tl:=hP.2.2;refine sz3 e2 (vz1 ts) (by rw [length_map]; omega) λ d hd=>?_;have hd3:updM μ2 d (.dcl (dof (ts.map λ t=>(tk3 t,.bl true)))) d=some (.dcl (dof (ts.map λ t=>(tk3 t,.bl true)))):=za0;have ex3:Ext μ2 (updM μ2 d (.dcl (dof (ts.map λ t=>(tk3 t,.bl true))))):=Ext.new hd;generalize updM μ2 d (.dcl (dof (ts.map λ t=>(tk3 t,.bl true))))=μ3 at hd3 ex3;generalize dof (ts.map λ t=>(tk3 t,.bl true))=fs at hd3;have E3:Ext μ μ3:=ex1.trans (ex2.trans ex3);have gl:=zm1 (u0 - 1) (v0 - 1) w h;refine ⟨u0,v0,u1,v1,w,h,rfl,ew,eh,c5,hw,hh,b,λ r4 μ4 ex4 hr4 e4=>?_⟩
 conv=>whnf
 rw [e4];intro r5 hr5;refine zi0 (rest:=[]) (λ d=>.tup [d,.bl true]) hr5 (by rw [length_map,gl]; omega) (λ _ e=>e _ _ e4) (λ x hx μ' R ex kk=>⟨z2,kk μ' (Ext.refl _)⟩) λ μ5 ex5 e5=>?_;dsimp only [nil3];refine sz3 e5 (uz1 _) (by rw [length_map,gl]; omega) λ u hu=>?_;have ku:∀ c ∈ grid (u0 - 1) (v0 - 1) w h,(valL (dof [31]) (ptk c)).isSome=true:=λ c hc=>vm1 _ (.inl (by rw [map_map]; exact List.mem_map.mpr ⟨c,hc,rfl⟩))
 have kl:(dof [31]).length<=w * h:=by
  have:=wm1 [31] [];rw [length_map,gl] at this;simpa [dof] using this
 have hu6:updM μ5 u (.dcl (dof [31])) u=some (.dcl (dof [31])):=za0;have ex6:Ext μ5 (updM μ5 u (.dcl (dof [31]))):=Ext.new hu;generalize updM μ5 u (.dcl (dof [31]))=μ6 at hu6 ex6;generalize dof [31]=kvs at hu6 ku kl;have E6:Ext μ3 μ6:=ex4.trans (ex5.trans ex6);have hd6:=E6 _ _ hd3;have u3:μ3 u=none:=(ex4.trans ex5).free hu;have ndu:d ≠ u:=zb0 hd3 u3;refine ⟨z2,(u0 - 1,v0 - 1),d,u,fs,kvs,rfl,hd6,hu6,ndu,ku _ (ur1 hw hh),by omega,λ r7 ps kvs7 μ7 eb7 hr7 n7 e7 u7 _ le7=>?_⟩;refine ⟨Nat.zero_le _,λ rl hrl=>?_⟩;have nlu:rl ≠ u:=(zb0 u7 hrl).symm
 have E7:Ext μ3 (updM μ7 rl (.lst [])):=λ a o ha=>by
  have:a ≠ u:=zb0 ha u3;have z:=eb7 a o this (E6 a o ha);rw [xb0 (zb0 z hrl)]; exact z
 have l8:updM μ7 rl (.lst []) rl=some (.lst []):=za0;have u8:updM μ7 rl (.lst []) u=some (.dcl kvs7):=by rw [xb0 (Ne.symm nlu)]; exact u7
 have rl3:μ3 rl=none:=by
  cases z:μ3 rl with
  | none=>rfl
  | some o=>have:=eb7 rl o nlu (E6 _ _ z); rw [hrl] at this; cases this
 generalize updM μ7 rl (.lst [])=μ8 at E7 l8 u8;refine ⟨u0,v0,u1,v1,w,h,rfl,ew,eh,c5,hw,hh,b,λ r9 μ9 ex9 hr9 e9=>?_⟩;have n9u:r9 ≠ u:=(zb0 u8 hr9).symm;have n9l:r9 ≠ rl:=(zb0 l8 hr9).symm
 conv=>whnf
 rw [e9];refine wf0 (λ l ρ μ'=>∃ (qs:List Pt) (rs:List (Addr × List Pt)) (kv:[18]) (o:Option D),l=qs.map encQ /\ ρ=[some (.tup [38]),some (encB u0 v0 u1 v1),some (.ref d),some (.ref u),some (.ref rl),o] /\ Ext μ3 μ' /\ μ' u=some (.dcl kv) /\ μ' rl=some (.lst (rs.map λ x=>.ref x.1)) /\ (∀ x ∈ rs,x.1 ≠ u /\ x.1 ≠ rl /\ μ' x.1=some (.lst (x.2.map encQ))) /\ (rs.map λ x=>x.2.length).sum + kv.length<=2500 /\ rs.length + kv.length<=2500 /\ μ' r9=some (.lst ((grid (u0 - 1) (v0 - 1) w h).map encQ))) ?_ ?_ ?_ ?_
 ·exact ⟨_,[],kvs7,_,rfl,rfl,E7.trans ex9,ex9 _ _ u8,ex9 _ _ l8,λ _ h=>(nomatch h),by simp; omega,by simp; omega,e9⟩
 ·rintro l ρ μ' ⟨_,_,_,_,_,_,_,_,_,_,_,_,z⟩;exact z
 ·rintro ρ μ' ⟨qs,rs,kv,o,_,rfl,ex,_,el,ea,sz,sl,_⟩;exact q rl rs μ' (E3.trans ex) ⟨el,λ x hx=>(ea x hx).2.2,by omega,by omega⟩
 ·rintro x rest ρ μ' ⟨qs,rs,kv,o,e,rfl,ex,eu,el,ea,sz,sl,eg⟩;cases qs with
  | nil=>cases e
  | cons y qs =>
   rw [map_cons] at e;injection e with e1 e2
   subst e1 e2
   conv=>whnf
   rw [eu];show if (valL kv (ptk y)).isSome=true then _ else _;cases cv:(valL kv (ptk y)).isSome with
   | false=>exact ⟨qs,rs,kv,_,rfl,rfl,ex,eu,el,ea,sz,sl,eg⟩
   | true =>
    conv=>whnf
    rw [el];refine ⟨y,d,u,fs,kv,rfl,ex _ _ hd3,eu,ndu,cv,by omega,λ r ps1 kv1 μ2 eb hr nr er eu2 po le=>?_⟩;have el2:=eb rl _ nlu el;have nrl:r ≠ rl:=λ z=>by subst z; rw [el] at hr; cases hr
    dsimp only [nil3];refine xf2 el2 (by rw [length_map]; omega) ?_;have dl:=ty0 cv;refine ⟨qs,rs ++ [(r,ps1)],kv1,_,rfl,rfl,λ a o' ha=>?_,?_,?_,λ z hz'=>?_,?_,?_,?_⟩
    ·rw [xb0 (zb0 ha rl3)]; exact eb a o' (zb0 ha u3) (ex a o' ha)
    ·rw [xb0 (Ne.symm nlu)]; exact eu2
    ·rw [za0,map_append]; rfl
    ·rcases List.mem_append.mp hz' with hz' | hz'
     ·obtain ⟨z1,z2',z3'⟩:=ea z hz';exact ⟨z1,z2',by rw [xb0 z2']; exact eb _ _ z1 z3'⟩
     ·rw [mem_singleton] at hz';subst hz';exact ⟨nr,nrl,by rw [xb0 nrl]; exact er⟩
    ·rw [map_append,List.sum_append]; simp only [map_cons,map_nil,List.sum_cons,List.sum_nil]; omega
    ·rw [length_append,length_singleton]; omega
    ·rw [xb0 n9l]; exact eb _ _ n9u eg
def spNc:Sp3:=λ ds μ Q=>∃ (r:Addr) (rs:List (Addr × List Pt)),ds=[.ref r] /\ Rm μ r rs /\ ∀ d kvs μ',Ext μ μ'->μ d=none->μ' d=some (.dcl kvs)->(∀ k v,valL kvs k=some v->∃ i:Nat,v=.int i /\ i < rs.length)->Q (.ref d) μ'
theorem yr3 (ds:List D) (μ:Mu) (Q:VK3) (h:spNc ds μ Q):vh3 { nx:=λ _ μ'=>Q .non μ',rt:=Q } (start3 we3 ds) μ:=by
 obtain ⟨r,rs,rfl,R,q⟩:=h;have hl:=R.ln;intro d hd;have hd0:updM μ d (.dcl []) d=some (.dcl []):=za0;have ex0:Ext μ (updM μ d (.dcl [])):=Ext.new hd;generalize updM μ d (.dcl [])=μ0 at hd0 ex0;have R0:=R.mono ex0
 conv=>whnf
 rw [R0.li];refine ⟨⟨by rw [length_map]; omega,by rw [length_map]; omega⟩,?_⟩;rw [length_map,Int.toNat_natCast];refine forR (V:=λ i ρ μ'=>∃ (kvs:[18]) (o2 o3:Option D),ρ=[some (.ref r),some (.ref d),o2,o3] /\ Ext μ μ' /\ μ' d=some (.dcl kvs) /\ kvs.length<=(((rs.take i).map λ x=>x.2.length)).sum /\ ∀ k v,valL kvs k=some v->∃ i:Nat,v=.int i /\ i < rs.length) (λ _=>trivial) ?_ ?_ ?_
 ·exact ⟨[],none,none,rfl,ex0,hd0,Nat.zero_le _,λ k v h=>(nomatch h)⟩
 ·rintro ρ μ' ⟨kvs,o2,o3,rfl,ex,ed,_,hv⟩;exact q d kvs μ' ex hd ed hv
 ·rintro i ρ μ' hi ⟨kvs,o2,o3,rfl,ex,ed,lk,hv⟩;have R1:=R.mono ex;have gi:rs[i]?=some rs[i]:=getElem?_eq_getElem hi;have hx:=R1.at' _ (mem_of_getElem? gi)
  have tk:((rs.take (i + 1)).map λ x=>x.2.length).sum=((rs.take i).map λ x=>x.2.length).sum + rs[i].2.length:=by
   rw [List.take_add_one,gi,map_append,List.sum_append]; simp
  have le:((rs.take (i + 1)).map λ x=>x.2.length).sum<=2500:=by
   have e:=congrArg (λ l:List (Addr × List Pt)=>(l.map λ x=>x.2.length).sum) (take_append_drop (i + 1) rs);simp only [map_append,List.sum_append] at e;have:=R.sz;omega
  dsimp only [gn3,for3,is3,Pv.o3,v3,getI,List.set_cons_succ,List.set_cons_zero];refine vp0 R1.li (d:=.ref rs[i].1) (ws2 (by rw [getElem?_map,gi]; rfl)) ?_;dsimp only;rw [hx];refine wf0 (λ l ρ μ2=>∃ (qs:List Pt) (kv:[18]) (o3:Option D),l=qs.map encQ /\ ρ=[some (.ref r),some (.ref d),some (.int i),o3] /\ Ext μ μ2 /\ μ2 d=some (.dcl kv) /\ kv.length + qs.length<=((rs.take (i + 1)).map λ x=>x.2.length).sum /\ (∀ k v,valL kv k=some v->∃ i:Nat,v=.int i /\ i < rs.length) /\ μ2 rs[i].1=some (.lst (rs[i].2.map encQ))) ?_ ?_ ?_ ?_
  ·exact ⟨_,kvs,_,rfl,rfl,ex,ed,by omega,hv,hx⟩
  ·rintro l ρ μ2 ⟨_,_,_,_,_,_,_,_,_,z⟩;exact z
  ·rintro ρ μ2 ⟨qs,kv,o3',e,rfl,ex2,ed2,l2,hv2,_⟩;exact ⟨kv,_,o3',rfl,ex2,ed2,by omega,hv2⟩
  ·rintro x rest ρ μ2 ⟨qs,kv,o3',e,rfl,ex2,ed2,l2,hv2,hx2⟩;cases qs with
   | nil=>cases e
   | cons y qs =>
    rw [map_cons] at e;injection e with e1 e2
    subst e1 e2;have pl:=sw1 kv (ptk y) (.int i);rw [length_cons] at l2
    conv=>whnf
    rw [ed2];refine ⟨by omega,qs,putL kv (ptk y) (.int i),_,rfl,rfl,λ a o ha=>?_,za0,by omega,λ k v hk=>?_,?_⟩
    ·rw [xb0 (zb0 ha hd)]; exact ex2 a o ha
    ·rw [ss1] at hk;split at hk
     ·cases hk; exact ⟨i,rfl,hi⟩
     ·exact hv2 k v hk
    ·rw [xb0 (λ z=>by rw [z,ed2] at hx2; cases hx2)]; exact hx2
def zu2 (XE:XE3):Sp3:=λ ds μ Q=>∃ (d:D) (c:Pt),ds=[d,encQ c] /\ GbP XE μ d (λ ts=>RoP XE μ ts (∀ v μ',Ext μ μ'->Q v μ'))
theorem uq3 (XE:XE3) (ds:List D) (μ:Mu) (Q:VK3) (h:zu2 XE ds μ Q):xh3 XE spNc wf1 { nx:=λ _ μ'=>Q .non μ',rt:=Q } (start3 sd3 ds) μ:=by
 obtain ⟨d,c,rfl,g⟩:=h;refine ⟨d,rfl,g.imp λ ts _ _ p=>⟨p.1,?_⟩⟩;obtain ⟨w,h,b,q1,q2⟩:=p.2;refine ⟨w,h,b,q1,λ z r rs μ1 ex1 R=>⟨r,rs,rfl,R,λ d kvs μ2 ex2 hd ed hv=>?_⟩⟩
 conv=>whnf
 rw [ed]
 conv=>whnf
 rw [ed];exact q2 z _ μ2 (ex1.trans ex2)
def cb0 (s:T3):Pt:=if s.2.2=0 then (s.1,s.2.1 - 1) else (s.1 - 1,s.2.1)
def spCb:Sp3:=λ ds μ Q=>∃ s,ds=[encT s] /\ Q (.tup [encQ (cb0 s),encQ (s.1,s.2.1)]) μ
theorem wg4 (ds:List D) (μ:Mu) (Q:VK3) (h:spCb ds μ Q):t_q8 { nx:=λ _ μ'=>Q .non μ',rt:=Q } (start3 N_q8 ds) μ:=by
 obtain ⟨⟨x,y,w⟩,rfl,q⟩:=h;unfold cb0 at q;show if decide (w=0)=true then _ else _;by_cases c:w=0
 ·rw [decide_eq_true c,if_pos rfl];rw [if_pos c] at q;exact ⟨z2,z2,z2,q⟩
 ·rw [decide_eq_false c,if_neg [9]];rw [if_neg c] at q;exact ⟨z2,z2,z2,q⟩
def Nn (n:Nat) (v:D):Prop:=v=.non \/ ∃ i:Nat,v=.int i /\ i < n
theorem xk4 {n:Nat} {v u:D} (hv:Nn n v) (hu:Nn n u):∃ b,∀ (μ:Mu) (Q:VK3),neR v u μ Q=Q (.bl b) μ:=by
 rcases hv with rfl | ⟨i,rfl,_⟩ <;> rcases hu with rfl | ⟨j,rfl,_⟩ <;> exact ⟨_,λ _ _=>rfl⟩
theorem vb4 {n:Nat} {s:Addr} {v u:D} {ρ:St3} {μ:Mu} {K:Bool->Mu->Prop} (hv:Nn n v) (hu:Nn n u) (h5:getI ρ 5=some (.ref s)) (hs:μ s=some (.lst [v,u])) (k:∀ b,K b μ):b3 (o3 neR (o3 ixR (v3 5) [19]) (o3 ixR (v3 5) [21])) ρ μ K:=by
 obtain ⟨b,e⟩:=xk4 hv hu;unfold b3 o3 v3 c3;rw [h5];dsimp only;refine vp0 hs (d:=v) atI0 ?_;refine vp0 hs (d:=u) atI1 ?_;rw [e];exact k b
theorem uk4 {c:TT3} {t u:TS3} {D':Ends3} {ρ:St3} {μ:Mu} (hc:∀ K:Bool->Mu->Prop,(∀ b,K b μ)->c ρ μ K) (h1:t D' ρ μ) (h2:u D' ρ μ):ifs3 c t u D' ρ μ:=hc _ λ b=>by
 cases b with
 | true=>exact h1
 | false=>exact h2
structure Wl (μb μ':Mu) (wl:Addr) (ws:List Addr) (j:Nat):Prop where
 ex:Ext μb μ'
 li:μ' wl=some (.lst (ws.map D.ref))
 at':∀ a ∈ ws,μb a=none /\ a ≠ wl /\ ∃ l,μ' a=some (.lst l) /\ l.length<=j
theorem Wl.mono {μb μ1 μ2:Mu} {wl:Addr} {ws:List Addr} {j:Nat} (h:Wl μb μ1 wl ws j) (e:Ext μ1 μ2):Wl μb μ2 wl ws j:=⟨h.ex.trans e,e _ _ h.li,λ a ha=>by
 obtain ⟨a1,a2,l,a3,a4⟩:=h.at' a ha;exact ⟨a1,a2,l,e _ _ a3,a4⟩⟩
theorem Wl.app {μb μ':Mu} {wl a:Addr} {ws:List Addr} {j:Nat} {x:D} {l:List D} (h:Wl μb μ' wl ws j) (hb:μb wl=none) (ha:a ∈ ws) (hl:μ' a=some (.lst l)):Wl μb (updM μ' a (.lst (l ++ [x]))) wl ws (j + 1):=by
 obtain ⟨a1,a2,l',a3,a4⟩:=h.at' a ha;rw [hl] at a3;cases a3;refine ⟨λ c o hc=>?_,?_,λ c hc=>?_⟩
 ·rw [xb0 (zb0 hc a1)]; exact h.ex c o hc
 ·rw [xb0 (Ne.symm a2)]; exact h.li
 ·obtain ⟨c1,c2,m,c3',c4⟩:=h.at' c hc;refine ⟨c1,c2,?_⟩;by_cases z:c=a
  ·subst z; exact ⟨_,za0,by rw [length_append,length_singleton]; omega⟩
  ·exact ⟨m,by rw [xb0 z]; exact c3',by omega⟩
theorem Wl.up {μb μ':Mu} {wl:Addr} {ws:List Addr} {j k:Nat} (h:Wl μb μ' wl ws j) (e:j<=k):Wl μb μ' wl ws k:=⟨h.ex,h.li,λ a ha=>by
 obtain ⟨a1,a2,l,a3,a4⟩:=h.at' a ha;exact ⟨a1,a2,l,a3,by omega⟩⟩
theorem zs1 {μb μ':Mu} {wl s:Addr} {ws:List Addr} {j:Nat} {v:D} {t:T3} {o0 o1 o2:Option D} {D':Ends3} (h:Wl μb μ' wl ws j) (hj:j < 1000) (hb:μb wl=none) (hv:Nn ws.length v)
    (k:∀ μ2,Wl μb μ2 wl ws (j + 1)->(∀ a o,a ∉ ws->μ' a=some o->μ2 a=some o)->D'.nx [o0,o1,o2,some (.ref wl),some (encT t),some (.ref s),some v] μ2) :
    (ifs3 (b3 (o3 (isNR true) (v3 6) (c3 .non))) (drop3 (mt3 appR (o3 ixR (v3 3) (v3 6)) (cons3 (v3 4) nil3))) next3) D' [o0,o1,o2,some (.ref wl),some (encT t),some (.ref s),some v] μ':=by
 have hz:(1000:Nat) < sizeLine:=by decide
 rcases hv with rfl | ⟨i,rfl,hi⟩
 ·exact k μ' (h.up (Nat.le_succ _)) λ a o _ ha=>ha
 ·have gi:ws[i]?=some ws[i]:=getElem?_eq_getElem hi;have ha:=mem_of_getElem? gi;obtain ⟨a1,a2,l,a3,a4⟩:=h.at' _ ha;show drop3 (mt3 appR (o3 ixR (v3 3) (v3 6)) (cons3 (v3 4) nil3)) D' [o0,o1,o2,some (.ref wl),some (encT t),some (.ref s),some (.int i)] μ';dsimp only [drop3,mt3,o3,v3,getI,cons3,nil3];refine vp0 h.li (d:=.ref ws[i]) (ws2 (by rw [getElem?_map,gi]; rfl)) ?_;dsimp only;rw [a3];refine xf2 a3 [1] ?_;refine k _ (h.app hb ha a3) λ a o na hao=>?_;rw [xb0 (λ z=>na (by rw [z]; exact ha))]; exact hao
def gdQ (kvs:[18]) (d:D):D:=((keyI d).bind (valL kvs)).getD .non
theorem sm2 {kvs:[18]} {nd:Addr} {s:T3} {o0 o1 o3' o5 o6:Option D} {μ:Mu} {K:VK3} (hd:μ nd=some (.dcl kvs)) (k:∀ r μ',Ext μ μ'->μ r=none->μ' r=some (.lst [gdQ kvs (encQ (cb0 s)),gdQ kvs (encQ (s.1,s.2.1))])->K (.ref r) μ') :
    comp3 [none,some 2] (is3 (call3 spCb (cons3 (v3 4) nil3))) (gn3 0) tt3 (dm3 false (v3 1) [28]) [o0,o1,some (.ref nd),o3',some (encT s),o5,o6] μ K:=by
 refine ⟨s,rfl,λ r hr=>?_⟩;refine zi0 (rest:=[some (.ref nd)]) (gdQ kvs) hr z2 (λ _ _=>trivial) ?_ λ μ' ex e=>k r μ' ex hr e;intro x hx μ' R ex kk
 have hx':∃ p:Pt,x=encQ p:=by
  rcases List.mem_cons.mp hx with rfl | hx
  ·exact ⟨_,rfl⟩
  ·rw [mem_singleton] at hx; exact ⟨_,hx⟩
 obtain ⟨p,rfl⟩:=hx';have hd':=ex _ _ hd
 conv=>whnf
 rw [hd']
 conv=>whnf
 rw [hd'];exact kk μ' (Ext.refl _)
def yu2 (XE:XE3):Sp3:=λ ds μ Q=>∃ d:D,ds=[d] /\ GbP XE μ d (λ ts=>RoP XE μ ts (∀ v μ',Ext μ μ'->Q v μ'))
theorem sp3 (XE:XE3) (ds:List D) (μ:Mu) (Q:VK3) (h:yu2 XE ds μ Q):zg3 XE spCb spNc wf1 { nx:=λ _ μ'=>Q .non μ',rt:=Q } (start3 yd3 ds) μ:=by
 obtain ⟨d,rfl,g⟩:=h;rcases g with ⟨ts,rfl,hP,hn,w,h,b,q1,q2⟩ | ⟨l,rfl,hb,xe⟩
 case inr=>exact ⟨_,rfl,.inr ⟨l,rfl,hb,xe⟩⟩
 have hz:(1000000:Nat) < sizeLine:=by decide
 refine ⟨_,rfl,.inl ⟨ts,rfl,hP,hn,w,h,b,q1,λ z r rs μ1 ex1 R=>?_⟩⟩;have q:=q2 z;clear q1 q2;have ln:=R.ln;refine ⟨r,rs,rfl,R,λ nd kvs μ2 ex2 hnd ed hv=>?_⟩;have R2:=R.mono ex2;show vh0 XE spCb spNc wf1 _ [some (.tup [38]),some (.ref r),some (.ref nd),none,none,none,none] μ2;unfold vh0;dsimp only [seq3,set3,comp3,is3,v3,getI];rw [R2.li];intro wl hwl;refine ⟨λ l ys ρ μ'=>∃ (ws:List Addr) (o:Option D),ys=ws.map D.ref /\ ρ=[o] /\ ws.length + l.length=rs.length /\ Wl μ2 μ' wl ws 0,?_,?_,?_,?_⟩
 ·exact ⟨[],none,rfl,rfl,by simp,⟨Ext.new hwl,za0,λ _ h=>(nomatch h)⟩⟩
 ·rintro l ys ρ μ' ⟨ws,o,rfl,rfl,_,W⟩;exact ⟨W.ex _ _ R2.li,W.li⟩
 ·rintro ys ρ μ' ⟨ws,o,rfl,rfl,lw,W⟩;simp only [length_nil,Nat.add_zero] at lw;show yk0 XE spCb spNc wf1 _ [some (.tup [38]),some (.ref r),some (.ref nd),some (.ref wl),none,none,none] μ';refine wf0 (λ l ρ μ3=>∃ (ks:List T3) (j:Nat) (o4 o5 o6:Option D),l=ks.map encT /\ ρ=[some (.tup [38]),some (.ref r),some (.ref nd),some (.ref wl),o4,o5,o6] /\ Wl μ2 μ3 wl ws j /\ j + 2 * ks.length<=120) ?_ (λ _ _ _ _=>trivial) ?_ ?_
  ·have:=hP.2.2;exact ⟨ts,0,none,none,none,rfl,rfl,W,by omega⟩
  ·rintro ρ μ3 ⟨ks,j,o4,o5,o6,_,rfl,W3,_⟩;show comp3 [none] (is3 (v3 3)) (gn3 0) tt3 (call3 tupR [28]) [some (.tup [38]),some (.ref r),some (.ref nd),some (.ref wl),o4,o5,o6] μ3 Q;dsimp only [comp3,is3,v3,getI];rw [W3.li];intro p hp;refine zi0 (rest:=[]) (λ d=>match d with | .ref a=>(match μ3 a with | some (.lst l)=>.tup l | _=>.non) | _=>.non) hp (by rw [length_map]; omega) (λ _ e=>e _ _ W3.li) ?_ ?_
   ·intro x hx μ4 R' ex4 kk;obtain ⟨a,ha,rfl⟩:=List.mem_map.mp hx;obtain ⟨_,_,l,a3,_⟩:=W3.at' a ha;have kk':=kk μ4 (Ext.refl _);simp only [a3] at kk';exact wf2 (ex4 _ _ a3) kk'
   ·intro μ4 ex4 _;exact q _ μ4 (ex1.trans (ex2.trans (W3.ex.trans ex4)))
  ·rintro x rest ρ μ3 ⟨ks,j,o4,o5,o6,e,rfl,W3,lj⟩;cases ks with
   | nil=>cases e
   | cons s ks =>
    rw [map_cons] at e;injection e with e1 e2
    subst e1 e2;rw [length_cons] at lj
    have nn:∀ c:Pt,Nn ws.length (gdQ kvs (encQ c)):=λ c=>by
     unfold gdQ;rw [xa3];show Nn ws.length ((valL kvs (ptk c)).getD .non);cases ev:valL kvs (ptk c) with
     | none=>exact .inl rfl
     | some v =>
      obtain ⟨i,rfl,hi⟩:=hv _ _ ev;exact .inr ⟨i,rfl,by omega⟩
    refine sm2 (s:=s) (W3.ex _ _ ed) λ sd μ4 ex4 hsd es=>?_;have W4:=W3.mono ex4
    have nsd:∀ a ∈ ws,a ≠ sd:=λ a ha=>by
     obtain ⟨_,_,l,a3,_⟩:=W3.at' a ha;exact zb0 a3 hsd
    show ifs3 (b3 (o3 neR (o3 ixR (v3 5) [19]) (o3 ixR (v3 5) [21]))) (for3 (is3 (v3 5)) (gn3 6) (ifs3 (b3 (o3 (isNR true) (v3 6) (c3 .non))) (drop3 (mt3 appR (o3 ixR (v3 3) (v3 6)) (cons3 (v3 4) nil3))) next3)) next3 _ [some (.tup [38]),some (.ref r),some (.ref nd),some (.ref wl),some (encT s),some (.ref sd),o6] μ4;refine uk4 (λ K k=>vb4 (nn _) (nn _) rfl es k) ?_ ⟨ks,j,_,_,_,rfl,rfl,W4,by omega⟩;show for3 (is3 (v3 5)) (gn3 6) _ _ [some (.tup [38]),some (.ref r),some (.ref nd),some (.ref wl),some (encT s),some (.ref sd),o6] μ4;dsimp only [for3,is3,v3,getI];rw [es];have ls:∀ {μ5 μ6:Mu},(∀ a o,a ∉ ws->μ5 a=some o->μ6 a=some o)->μ5 sd=some (.lst [gdQ kvs (encQ (cb0 s)),gdQ kvs (encQ (s.1,s.2.1))])->μ6 sd=some (.lst [gdQ kvs (encQ (cb0 s)),gdQ kvs (encQ (s.1,s.2.1))]):=λ {μ5 μ6} hk h5=>hk _ _ (λ z=>nsd _ z rfl) h5;refine ⟨es,λ ρ μ5=>ρ=[some (.tup [38]),some (.ref r),some (.ref nd),some (.ref wl),some (encT s),some (.ref sd),some (gdQ kvs (encQ (cb0 s)))] /\ Wl μ2 μ5 wl ws (j + 1) /\ μ5 sd=some (.lst [gdQ kvs (encQ (cb0 s)),gdQ kvs (encQ (s.1,s.2.1))]),?_,?_⟩
    ·rintro ρ μ5 ⟨rfl,W5,e5⟩;refine ⟨e5,λ ρ μ6=>ρ=[some (.tup [38]),some (.ref r),some (.ref nd),some (.ref wl),some (encT s),some (.ref sd),some (gdQ kvs (encQ (s.1,s.2.1)))] /\ Wl μ2 μ6 wl ws (j + 2) /\ μ6 sd=some (.lst [gdQ kvs (encQ (cb0 s)),gdQ kvs (encQ (s.1,s.2.1))]),?_,?_⟩
     ·rintro ρ μ6 ⟨rfl,W6,e6⟩;exact ⟨e6,ks,j + 2,_,_,_,rfl,rfl,W6,by omega⟩
     ·exact zs1 W5 [1] hwl (nn _) λ μ6 W6 hk=>⟨rfl,W6,ls hk e5⟩
    ·exact zs1 W4 [1] hwl (nn _) λ μ5 W5 hk=>⟨rfl,W5,ls hk es⟩
 ·rintro x rest ys ρ μ' ⟨ws,o,rfl,rfl,lw,W⟩;rw [length_cons] at lw;refine ⟨by rw [length_map]; omega,Nat.zero_le _,λ a ha=>⟨?_,ws ++ [a],_,by rw [map_append]; rfl,rfl,by rw [length_append,length_singleton]; omega,?_⟩⟩
  ·rw [xb0 (zb0 W.li ha)]; exact W.li
  ·have na:a ≠ wl:=(zb0 W.li ha).symm;refine ⟨λ c o hc=>?_,?_,λ c hc=>?_⟩
   ·rw [xb0 (zb0 hc hwl),xb0 (zb0 (W.ex c o hc) ha)]; exact W.ex c o hc
   ·rw [za0,map_append]; rfl
   ·rcases List.mem_append.mp hc with hc | hc
    ·obtain ⟨c1,c2,l,c3',c4⟩:=W.at' c hc;exact ⟨c1,c2,l,by rw [xb0 c2,xb0 (zb0 c3' ha)]; exact c3',c4⟩
    ·rw [mem_singleton] at hc;subst hc;exact ⟨W.ex.free ha,na,[],by rw [xb0 na,za0],Nat.le_refl _⟩
def NoR (ts:List T3):Prop:=∀ us,IsP ts us->us.length ≠ 1
def wg2 (XE:XE3):Sp3:=λ ds μ Q=>∃ d:D,ds=[d] /\ GbP XE μ d (λ ts=>NoR ts /\ ∀ μ',Ext μ μ'->Q (.bl false) μ')
theorem vr3 (XE:XE3) (ds:List D) (μ:Mu) (Q:VK3) (h:wg2 XE ds μ Q):sh3 XE wo0 { nx:=λ _ μ'=>Q .non μ',rt:=Q } (start3 se3 ds) μ:=by
 obtain ⟨d,rfl,g⟩:=h;refine ⟨d,rfl,g.imp λ ts _ _ p r us μ1 ex1 hr er ip=>?_⟩;obtain ⟨nr,q⟩:=p;have nl:=nr us ip
 conv=>whnf
 rw [er];show if (!decide ((((us.map encU).length:Nat):Int)=1))=true then _ else _;rw [decide_eq_false (by rw [length_map]; omega)];exact q μ1 ex1
def wu2 (XE:XE3):Sp3:=λ ds μ Q=>∃ d:D,ds=[d] /\ GbP XE μ d (λ ts=>NoR ts /\ ∀ μ',Ext μ μ'->Q .non μ')
theorem vg4 (XE:XE3) (ds:List D) (μ:Mu) (Q:VK3) (h:wu2 XE ds μ Q):t_q7 XE wg2 { nx:=λ _ μ'=>Q .non μ',rt:=Q } (start3 N_q7 ds) μ:=by
 obtain ⟨d,rfl,g⟩:=h;exact ⟨d,rfl,g.imp λ ts _ _ p=>⟨p.1,p.2⟩⟩
theorem vl4 {α:Type} (l:List α) (i:Int) (h0:0<=i) (h1:i<=l.length):cut3 l none (some i)=l.take i.toNat:=by
 unfold cut3 sIx3;simp only [if_neg (show ¬ i < 0 by omega),List.drop_zero,Nat.sub_zero];rw [show min i.toNat l.length=i.toNat by omega]
theorem wl4 {α:Type} (l:List α) (i:Int) (h0:0<=i) (h1:i<=l.length):cut3 l (some i) none=l.drop i.toNat:=by
 unfold cut3 sIx3;simp only [if_neg (show ¬ i < 0 by omega)];rw [show min i.toNat l.length=i.toNat by omega];apply take_of_length_le;rw [length_drop];exact Nat.le_refl _
def Sq (x y:Int):List T3:=[(x,y,0),(x,y,1),(x,y + 1,0),(x + 1,y,1)]
def spLn:Sp3:=λ ds μ Q=>∃ (p:Addr) (a b:Int),ds=[.ref p,.int 6] /\ μ p=some (.lst [.int a,.int b]) /\ 0<=a /\ ∀ (us:List T3) a' b' μ',(∀ t ∈ us,wy t)->us.length<=24->0<=a'->μ' p=some (.lst [.int a',.int b'])->ExtB p μ μ'->Q (.tup (us.map encT)) μ'
structure Wn (μ μ':Mu) (p f:Addr) (fs:List T3) (c:Nat):Prop where
 eb:ExtB p μ μ'
 st:∃ a b:Int,μ' p=some (.lst [.int a,.int b]) /\ 0<=a
 fl:μ' f=some (.lst (fs.map encT))
 nf:f ≠ p
 ff:μ f=none
 wa:∀ t ∈ fs,wy t
 le:fs.length + 4 * c<=24
theorem xh4 (ds:List D) (μ:Mu) (Q:VK3) (h:spLn ds μ Q):t_q3 spTk { nx:=λ _ μ'=>Q .non μ',rt:=Q } (start3 N_q3 ds) μ:=by
 obtain ⟨p,a,b,rfl,hp,ha,q⟩:=h;have hz:(1000:Nat) < sizeLine:=by decide
 refine ⟨p,5,a,b,rfl,by decide,by decide,hp,ha,λ w a1 b1 w0 w1 h1=>?_⟩;refine ⟨p,5,a1,b1,rfl,by decide,by decide,za0,h1,λ hh a2 b2 h0 h5 h2=>?_⟩;rw [xh0];refine ⟨Nat.zero_le _,λ f hf=>?_⟩;have nf:f ≠ p:=λ z=>by subst z; rw [za0] at hf; cases hf
 have hf0:μ f=none:=by rw [xb0 nf] at hf; exact hf
 have hp3:updM (updM μ p (.lst [.int a2,.int b2])) f (.lst []) p=some (.lst [.int a2,.int b2]):=by rw [xb0 (Ne.symm nf),za0]
 have eb3:ExtB p μ (updM (updM μ p (.lst [.int a2,.int b2])) f (.lst [])):=λ c o n hc=>by rw [xb0 (zb0 hc hf0),xb0 n]; exact hc
 have hf3:updM (updM μ p (.lst [.int a2,.int b2])) f (.lst []) f=some (.lst []):=za0;generalize updM (updM μ p (.lst [.int a2,.int b2])) f (.lst [])=μ3 at hp3 eb3 hf3;refine ⟨p,7,a2,b2,rfl,by decide,by decide,hp3,h2,λ n a4 b4 n0 n7 h4=>?_⟩;refine ⟨⟨by omega,by omega⟩,?_⟩;refine wf0 (λ l ρ μ'=>∃ (f:Addr) (fs:List T3) (o5 o6 o7 o8:Option D),ρ=[some (.ref p),some (.int 6),some (.int (2 + w)),some (.int (2 + hh)),some (.ref f),o5,o6,o7,o8] /\ Wn μ μ' p f fs l.length) ?_ (λ _ _ _ _=>trivial) ?_ ?_
 ·refine ⟨f,[],none,none,none,none,rfl,⟨eb3.trans ExtB.upd,⟨a4,b4,za0,h4⟩,by rw [xb0 nf]; exact hf3,nf,hf0,λ _ h=>(nomatch h),?_⟩⟩;unfold rngD;simp only [length_map,length_range,length_nil];omega
 ·rintro ρ μ' ⟨f,fs,o5,o6,o7,o8,rfl,W⟩;obtain ⟨a',b',e',h'⟩:=W.st;have le:=W.le;refine ⟨fs,W.fl,λ l nd hl=>?_,λ ks nd mk us pm su r hr=>?_⟩
  ·have:=List.Nodup.length_le_of_subset nd hl;omega
  ·dsimp only [nil3];refine wf2 za0 (q us a' b' _ (λ t ht=>W.wa t ((mk t).mp (pm.mem_iff.mp ht))) ?_ h' ?_ (W.eb.trans (Ext.b p (Ext.new hr))))
   ·rw [pm.length_eq];have:=List.Nodup.length_le_of_subset nd λ x hx=>(mk x).mp hx;omega
   ·rw [xb0 (zb0 e' hr)]; exact e'
 ·rintro x rest ρ μ' ⟨f,fs,o5,o6,o7,o8,rfl,W⟩;obtain ⟨a',b',e',h'⟩:=W.st;have le:=W.le;rw [length_cons] at le;refine ⟨p,2 + w,a',b',rfl,by omega,by omega,e',h',λ x' a5 b5 x0 x1 h5'=>?_⟩;refine ⟨p,2 + hh,a5,b5,rfl,by omega,by omega,za0,h5',λ y' a6 b6 y0 y1 h6=>?_⟩;refine ⟨p,6,a6,b6,rfl,by decide,by decide,za0,h6,λ wa a7 b7 wa0 wa1 h7=>?_⟩;rw [xh0,xh0];have fl:updM μ' p (.lst [.int a7,.int b7]) f=some (.lst (fs.map encT)):=by rw [xb0 W.nf]; exact W.fl
  have ep:updM μ' p (.lst [.int a7,.int b7]) p=some (.lst [.int a7,.int b7]):=za0;have eb:ExtB p μ (updM μ' p (.lst [.int a7,.int b7])):=W.eb.trans ExtB.upd;generalize updM μ' p (.lst [.int a7,.int b7])=μ4 at fl ep eb;show if decide (wa < 4)=true then _ else _;by_cases c:wa < 4
  ·rw [decide_eq_true c,if_pos rfl]
   conv=>whnf
   rw [fl];refine ⟨(by decide:(0:Int) < 2),z3,?_⟩;dsimp only [nil3];refine xf2 fl (by rw [length_map]; omega) ?_;refine ⟨f,fs ++ [(x' - 2,y' - 2,wa % 2)],_,_,_,_,rfl,⟨λ c o n hc=>by rw [xb0 (zb0 hc W.ff)]; exact eb c o n hc,⟨a7,b7,by rw [xb0 (Ne.symm W.nf)]; exact ep,h7⟩,by rw [za0,map_append]; rfl,W.nf,W.ff,λ t ht=>?_,by rw [length_append,length_singleton]; omega⟩⟩;rcases List.mem_append.mp ht with ht | ht
   ·exact W.wa t ht
   ·rw [mem_singleton] at ht;subst ht;show wa % 2=0 \/ wa % 2=1;omega
  ·rw [decide_eq_false c,if_neg [9]];refine ⟨z3,z3,z3,z3,Z0,λ g hg=>?_⟩;have fl2:=(Ext.new (o:=.lst ((Sq (x' - 2) (y' - 2)).map encT)) hg) _ _ fl;have eg:updM μ4 g (.lst ((Sq (x' - 2) (y' - 2)).map encT)) g=some (.lst ((Sq (x' - 2) (y' - 2)).map encT)):=za0;have ep2:=(Ext.new (o:=.lst ((Sq (x' - 2) (y' - 2)).map encT)) hg) _ _ ep;have eb2:=eb.trans (Ext.b p (Ext.new (o:=.lst ((Sq (x' - 2) (y' - 2)).map encT)) hg));show addR (.ref f) (.ref g) (updM μ4 g (.lst ((Sq (x' - 2) (y' - 2)).map encT))) (λ d μ1=>_);generalize updM μ4 g (.lst ((Sq (x' - 2) (y' - 2)).map encT))=μ5 at fl2 eg ep2 eb2;simp only [addR,fl2,eg];refine ⟨by simp only [length_map,Sq,length_cons,length_nil]; omega,λ h hh'=>?_⟩;have nhp:h ≠ p:=(zb0 ep2 hh').symm;refine ⟨h,fs ++ Sq (x' - 2) (y' - 2),_,_,_,_,rfl,⟨eb2.trans (Ext.b p (Ext.new hh')),⟨a7,b7,by rw [xb0 (Ne.symm nhp)]; exact ep2,h7⟩,by rw [za0,map_append],nhp,?_,λ t ht=>?_,by rw [length_append]; simp only [Sq,length_cons,length_nil]; omega⟩⟩
   ·cases z:μ h with
    | none=>rfl
    | some o=>have:=eb2 h o nhp z; rw [hh'] at this; cases this
   ·rcases List.mem_append.mp ht with ht | ht
    ·exact W.wa t ht
    ·unfold wy;simp only [Sq,mem_cons,not_mem_nil,or_false] at ht;rcases ht with rfl | rfl | rfl | rfl <;> simp
theorem six {i:Int} (h0:0<=i) (h1:i < 6):∃ xs:List Int,atI [.tup [.int 0,.int 0,.int 2],.tup [.int 0,.int 0,.int (-1)],.tup [.int 0,.int 0,.int (10 ^ (20:Int).toNat)],.tup [.int 0,.int 0],.tup [],.tup [.int 0,.int 0,.int 0,.int 0]] i=some (encI xs) /\ xs.length<=4 /\ ¬ okS xs:=by
 have c:i=0 \/ i=1 \/ i=2 \/ i=3 \/ i=4 \/ i=5:=by omega
 rcases c with rfl | rfl | rfl | rfl | rfl | rfl
 ·exact ⟨[0,0,2],rfl,by decide,λ h=>by have:=okS3 h; omega⟩
 ·exact ⟨[0,0,-1],rfl,by decide,λ h=>by have:=okS3 h; omega⟩
 ·exact ⟨[0,0,10 ^ (20:Int).toNat],rfl,by decide,λ h=>by have:=okS3 h; rw [show (20:Int).toNat=20 from rfl] at this; omega⟩
 ·exact ⟨[0,0],rfl,by decide,λ ⟨t,e,_⟩=>by have:=congrArg List.length e; simp [tk3] at this⟩
 ·exact ⟨[],rfl,by decide,λ ⟨t,e,_⟩=>by have:=congrArg List.length e; simp [tk3] at this⟩
 ·exact ⟨[0,0,0,0],rfl,by decide,λ ⟨t,e,_⟩=>by have:=congrArg List.length e; simp [tk3] at this⟩
theorem sb3 (A:List T3) (xs:List Int) (B:List T3):(A.map tk3 ++ xs :: B.map tk3).map encI=A.map encT ++ encI xs :: B.map encT:=by
 rw [map_append,map_cons,tn0,tn0]
def spBd:Sp3:=λ ds μ Q=>∃ (p:Addr) (us:List T3) (a b:Int),ds=[.ref p,.tup (us.map encT)] /\ (∀ t ∈ us,wy t) /\ us.length<=24 /\ μ p=some (.lst [.int a,.int b]) /\ 0<=a /\ ∀ l a' b' μ',BadL l->0<=a'->μ' p=some (.lst [.int a',.int b'])->ExtB p μ μ'->Q (.tup (l.map encI)) μ'
theorem zh4 (ds:List D) (μ:Mu) (Q:VK3) (h:spBd ds μ Q):t_q1 spTk { nx:=λ _ μ'=>Q .non μ',rt:=Q } (start3 N_q1 ds) μ:=by
 obtain ⟨p,us,a,b,rfl,hw,hl,hp,ha,q⟩:=h;have hz:(1000:Nat) < sizeLine:=by decide
 refine ⟨p,((us.map encT).length:Int) + 1,a,b,rfl,by omega,by rw [length_map]; omega,hp,ha,λ at' a1 b1 t0 t1 h1=>?_⟩;rw [length_map] at t1;refine ⟨z3,z3,⟨by decide,by decide,by decide⟩,z3,z2,Nat.zero_le _,Z0,(show 6<=sizeLine by decide),λ g hg=>?_⟩;have ngp:g ≠ p:=λ z=>by subst z; rw [za0] at hg; cases hg
 have g0:μ g=none:=by rw [xb0 ngp] at hg; exact hg
 refine ⟨p,8,a1,b1,rfl,by decide,by decide,by rw [xb0 (Ne.symm ngp),za0],h1,λ way a2 b2 y0 y1 h2=>?_⟩
 have fin:∀ l μ',BadL l->μ'=updM (updM (updM μ p (.lst [.int a1,.int b1])) g [33]) p (.lst [.int a2,.int b2])->Q (.tup (l.map encI)) μ':=λ l μ' hb e=>by
  subst e;exact q l a2 b2 _ hb h2 za0 λ c o n hc=>by rw [xb0 n,xb0 (zb0 hc g0),xb0 n]; exact hc
 show if decide (way < 6)=true then _ else _;by_cases c:way < 6
 ·rw [decide_eq_true c,if_pos rfl];obtain ⟨xs,e,x4,xn⟩:=six y0 c;have eg:updM (updM (updM μ p (.lst [.int a1,.int b1])) g [33]) p (.lst [.int a2,.int b2]) g=some [33]:=by rw [xb0 ngp,za0]
  refine vp0 eg e ?_;have f:=fin ((us.take at'.toNat).map tk3 ++ xs :: (us.drop at'.toNat).map tk3) _ (.inl ⟨_,xs,_,rfl,λ t ht=>hw t (mem_of_mem_take ht),x4,xn⟩) rfl;rw [sb3,List.map_take,List.map_drop] at f;have l1:at'<=(us.map encT).length:=by rw [length_map]; omega
  have e1:=vl4 (us.map encT) at' t0 l1;have e2:=wl4 (us.map encT) at' t0 l1;refine ⟨(show 1<=sizeLine by decide),?_,?_,?_⟩
  ·show (cut3 (us.map encT) none (some at')).length + 1<=sizeLine;rw [e1,length_take,length_map];omega
  ·show (cut3 (us.map encT) none (some at') ++ [encI xs]).length + (cut3 (us.map encT) (some at') none).length<=sizeLine;rw [e1,e2,length_append,length_take,length_drop,length_map,length_singleton];omega
  ·show Q (.tup (cut3 (us.map encT) none (some at') ++ [encI xs] ++ cut3 (us.map encT) (some at') none)) _;rw [e1,e2,append_assoc];exact f
 ·rw [decide_eq_false c,if_neg [9]];show if decide (way=6)=true then _ else _;by_cases c6:way=6
  ·rw [decide_eq_true c6,if_pos rfl];have f:=fin ((us ++ [(3,3,0),(3,2,1)]).map tk3) _ (.inr ⟨_,rfl,λ t ht=>?_,by rw [length_append]; simp only [length_cons,length_nil]; omega,λ h=>?_⟩) rfl
   ·rw [tn0,map_append] at f;exact ⟨z3,z3,z2,by rw [length_map]; simp only [length_cons,length_nil]; omega,f⟩
   ·rcases List.mem_append.mp ht with ht | ht
    ·exact hw t ht
    ·unfold wy;simp only [mem_cons,not_mem_nil,or_false] at ht;rcases ht with rfl | rfl <;> simp
   ·have:=(List.pairwise_append.mp h).2.1;rw [List.pairwise_cons] at this;have:=this.1 (3,2,1) [20];exact absurd this (by unfold Lt; decide)
  ·rw [decide_eq_false c6,if_neg [9]];have f:=fin ((us ++ [(9,9,1),(9,9,1)]).map tk3) _ (.inr ⟨_,rfl,λ t ht=>?_,by rw [length_append]; simp only [length_cons,length_nil]; omega,λ h=>?_⟩) rfl
   ·rw [tn0,map_append] at f;exact ⟨z3,z3,z2,by rw [length_map]; simp only [length_cons,length_nil]; omega,f⟩
   ·rcases List.mem_append.mp ht with ht | ht
    ·exact hw t ht
    ·unfold wy;simp only [mem_cons,not_mem_nil,or_false] at ht;rcases ht with rfl | rfl <;> simp
   ·have:=(List.pairwise_append.mp h).2.1;rw [List.pairwise_cons] at this;have:=this.1 (9,9,1) [20];exact absurd this (by unfold Lt; decide)
inductive Tg where
 | no | pc | rm
def res:Tg->List Bool
 | .no=>[]
 | .pc=>BB1
 | .rm=>BB2
structure Gp (ts:List T3) (w h:Nat):Prop where
 pc:Pc ts
 ne:ts ≠ []
 bx:BxS ts w h
 nr:NoR ts
def tgN (w h:Nat) (way:Int):Tg:=if way < 3 /\ 2500 < w * h then .rm else .no
inductive Ot:Int->D->Tg->Prop where
 | bad {way:Int} {l:List (List Int)}:BadL l->Ot way (.tup (l.map encI)) .pc
 | ok {way:Int} {ts:List T3} {w h:Nat}:Gp ts w h->Ot way (.tup (ts.map encT)) (tgN w h way)
def Gt (XE:XE3) (μ:Mu) (Q:VK3):Tg->Prop
 | .no=>∀ μ',Ext μ μ'->Q .non μ'
 | .pc=>∀ μ',Ext μ μ'->XE "NoPicture" μ'
 | .rm=>∀ μ',Ext μ μ'->XE "NoRoom" μ'
def yu1 (XE:XE3):Sp3:=λ ds μ Q=>∃ (way:Int) (d:D) (g:Tg),ds=[.int way,d] /\ 0<=way /\ way<=4 /\ Ot way d g /\ Gt XE μ Q g
theorem wh4 (XE:XE3) (ds:List D) (μ:Mu) (Q:VK3) (h:yu1 XE ds μ Q):t_q0 XE wu2 wg2 zu2 wf1 yu2 { nx:=λ _ μ'=>Q .non μ',rt:=Q } (start3 N_q0 ds) μ:=by
 obtain ⟨way,d,g,rfl,h0,h4,o,q⟩:=h;have c:way=0 \/ way=1 \/ way=2 \/ way=3 \/ way=4:=by omega
 cases o with
 | bad b =>
  have x:=q μ (Ext.refl _);rcases c with rfl | rfl | rfl | rfl | rfl
  ·exact ⟨_,rfl,.inr ⟨_,rfl,b,x⟩⟩
  ·exact ⟨z2,_,(0,0),rfl,.inr ⟨_,rfl,b,x⟩⟩
  ·exact ⟨_,rfl,.inr ⟨_,rfl,b,x⟩⟩
  ·exact ⟨_,rfl,.inr ⟨_,rfl,b,x⟩⟩
  ·exact ⟨_,rfl,.inr ⟨_,rfl,b,x⟩⟩
 | @ok ts w h G =>
  have q3:way < 3->2500 < w * h->∀ μ',Ext μ μ'->XE "NoRoom" μ':=λ c1 c2=>by
   unfold tgN at q;rw [if_pos ⟨c1,c2⟩] at q;exact q
  have qn:¬ (way < 3 /\ 2500 < w * h)->∀ μ',Ext μ μ'->Q .non μ':=λ c1=>by
   unfold tgN at q;rw [if_neg c1] at q;exact q
  rcases c with rfl | rfl | rfl | rfl | rfl
  ·exact ⟨_,rfl,.inl ⟨ts,rfl,G.pc,G.ne,w,h,G.bx,q3 [9],λ l r rs μ' ex _=>qn [1] μ' ex⟩⟩
  ·exact ⟨z2,_,(0,0),rfl,.inl ⟨ts,rfl,G.pc,G.ne,w,h,G.bx,q3 [9],λ l v μ' ex=>qn [1] μ' ex⟩⟩
  ·exact ⟨_,rfl,.inl ⟨ts,rfl,G.pc,G.ne,w,h,G.bx,q3 [9],λ l v μ' ex=>qn [1] μ' ex⟩⟩
  ·exact ⟨_,rfl,.inl ⟨ts,rfl,G.pc,G.nr,λ μ' ex=>qn [1] μ' ex⟩⟩
  ·exact ⟨_,rfl,.inl ⟨ts,rfl,G.pc,G.nr,λ μ' ex=>qn [1] μ' ex⟩⟩
def spFl:Sp3:=λ ds μ Q=>∃ (way:Int) (d:D) (g:Tg),ds=[.int way,d] /\ 0<=way /\ way<=4 /\ Ot way d g /\ ∀ p μ',Ext μ μ'->(g=.no->μ p=none)->μ' p=some (.lst ((res g).map D.bl))->Q (.ref p) μ'
theorem yh4 (ds:List D) (μ:Mu) (Q:VK3) (h:spFl ds μ Q):t_q2 yu1 spMk { nx:=λ _ μ'=>Q .non μ',rt:=Q } (start3 N_q2 ds) μ:=by
 obtain ⟨way,d,g,rfl,h0,h4,o,q⟩:=h;refine ⟨Nat.zero_le _,λ p hp=>?_⟩;refine ⟨way,d,g,rfl,h0,h4,o,?_⟩;cases g with
 | no=>exact λ μ' ex=>q p μ' ((Ext.new hp).trans ex) (λ _=>hp) (ex _ _ za0)
 | pc=>exact λ μ' ex=>⟨by decide,_,rfl,.inl ⟨rfl,λ r μ2 e2 er=>q r μ2 ((Ext.new hp).trans (ex.trans e2)) (λ h=>nomatch h) er⟩⟩
 | rm=>exact λ μ' ex=>⟨by decide,_,rfl,.inr ⟨rfl,λ r μ2 e2 er=>q r μ2 ((Ext.new hp).trans (ex.trans e2)) (λ h=>nomatch h) er⟩⟩
theorem yr0 {μ:Mu} {p:Addr} {bs:List Bool} (h:μ p=some (.lst (bs.map D.bl))):datM μ (.ref p)=some (.list (bs.map PyData.bool)):=by
 have e:∀ bs:List Bool,dats (bs.map D.bl)=some (bs.map PyData.bool):=λ bs=>by
  induction bs with
  | nil=>rfl
  | cons b r ih=>simp only [map_cons,dats,dat,ih]
 simp only [datM,h,e]
theorem eq_5 {μ:Mu} {r u t t1 t2:Addr} {ys:List D} {G:Tg} {K:VK3} (hG:G=.no \/ G=.rm) (hr:μ r=some (.lst ys)) (ht:μ t=some (.lst [.ref u,.ref u,.ref u,.ref t1,.ref t2])) (hu:μ u=some (.lst ((res G).map D.bl))) (h1:μ t1=some (.lst [])) (h2:μ t2=some (.lst []))
    (hl:ys.length=5) (ha:∀ (j:Nat) d,ys[j]?=some d->∃ q:Addr,d=.ref q /\ μ q=some (.lst ((res (if j < 3 then G else .no)).map D.bl))) (k:K (.bl true) μ):eqN false (.ref r) (.ref t) μ K:=by
 have e2:datN μ (.ref t)=some (.list [.list ((res G).map .bool),.list ((res G).map .bool),.list ((res G).map .bool),.list [],.list []]):=by
  have d1:=yr0 (bs:=[]) h1;have d2:=yr0 (bs:=[]) h2;simp only [datN,ht,xr0,yr0 hu,d1,d2];rfl
 have e1:datN μ (.ref r)=some (.list [.list ((res G).map .bool),.list ((res G).map .bool),.list ((res G).map .bool),.list [],.list []]):=by
  match ys,hl with
  | [a,b,c,d,e],_ =>
   obtain ⟨q0,rfl,y0⟩:=ha 0 _ rfl;obtain ⟨q1,rfl,y1⟩:=ha 1 _ rfl;obtain ⟨q2,rfl,y2⟩:=ha 2 _ rfl;obtain ⟨q3,rfl,y3⟩:=ha 3 _ rfl;obtain ⟨q4,rfl,y4⟩:=ha 4 _ rfl;simp only [datN,hr,xr0,yr0 y0,yr0 y1,yr0 y2,yr0 y3,yr0 y4];rfl
 unfold eqN;rw [e1,e2];rcases hG with rfl | rfl
 ·refine ⟨⟨by decide,by decide⟩,?_⟩;have e:PyData.eqv (.list [.list ((res .no).map .bool),.list ((res .no).map .bool),.list ((res .no).map .bool),.list [],.list []]) (.list [.list ((res .no).map .bool),.list ((res .no).map .bool),.list ((res .no).map .bool),.list [],.list []])=true:=by decide
  simp only [e];exact k
 ·refine ⟨⟨by decide,by decide⟩,?_⟩;have e:PyData.eqv (.list [.list ((res .rm).map .bool),.list ((res .rm).map .bool),.list ((res .rm).map .bool),.list [],.list []]) (.list [.list ((res .rm).map .bool),.list ((res .rm).map .bool),.list ((res .rm).map .bool),.list [],.list []])=true:=by decide
  simp only [e];exact k
def ug2:Sp3:=λ ds μ Q=>∃ ns:List Int,ds=[.fls (ns.map D.int)] /\ ns.length<=63 /\ ∀ μ',Q (.bl true) μ'
abbrev EL (Q:VK3):Ends3:={ nx:=λ _ μ'=>Q .non μ',rt:=Q }
theorem z5:5<=sizeLine:=by decide
section
variable {Q:VK3} (q:∀ μ',Q (.bl true) μ')
include q
theorem l10 {ts:List T3} {w h:Nat} {u:Addr} {a0 a1 a2 a3 a4 a5:Option D} {μ:Mu} (G:Gp ts w h) (hu:μ u=some (.lst ((res (tgN w h 0)).map D.bl))):xa1 spBd spFl spLn uh0 spTk (EL Q) [a0,a1,a2,a3,a4,a5,some (.tup [38]),some (.ref u)] μ:=by
 have hz:(1000:Nat) < sizeLine:=by decide
 refine ⟨⟨by decide,by decide⟩,λ r hr=>?_⟩;refine ⟨λ l ys ρ μ'=>Ext μ μ' /\ μ' r=some (.lst ys) /\ (∃ o,ρ=[o,some (.tup [38])]) /\ l=rngD (ys.length:Int) (5 - ys.length) /\ ys.length<=5 /\ ∀ (j:Nat) d,ys[j]?=some d->∃ q:Addr,d=.ref q /\ q ≠ r /\ μ' q=some (.lst ((res (if j < 3 then tgN w h 0 else .no)).map D.bl)),?_,?_,?_,?_⟩
 ·exact ⟨Ext.new hr,za0,⟨none,rfl⟩,rfl,by decide,λ j d hd=>by simp at hd⟩
 ·rintro l ys ρ μ' ⟨_,h,_⟩;exact ⟨trivial,h⟩
 ·rintro ys ρ μ' ⟨ex,er,_,el,hl,ha⟩
  have hl:ys.length=5:=by
   have:=congrArg List.length el;simp [rngD] at this;omega
  refine ⟨Nat.zero_le _,λ t1 h1=>⟨Nat.zero_le _,λ t2 h2=>⟨z5,λ t ht=>?_⟩⟩⟩;have x2:=Ext.new (o:=.lst []) h2;have x1:=(Ext.new (o:=.lst []) h1).trans x2;have y1:=x2 t1 _ za0;have y2:updM (updM μ' t1 (.lst [])) t2 (.lst []) t2=some (.lst []):=za0;generalize updM (updM μ' t1 (.lst [])) t2 (.lst [])=ν at x1 y1 y2 ht;have xt:=Ext.new (o:=.lst [.ref u,.ref u,.ref u,.ref t1,.ref t2]) ht;show eqN false (.ref r) (.ref t) (updM ν t (.lst [.ref u,.ref u,.ref u,.ref t1,.ref t2])) Q;refine eq_5 (G:=tgN w h 0) ?_ (xt _ _ (x1 _ _ er)) za0 (xt _ _ (x1 _ _ (ex _ _ hu))) (xt _ _ y1) (xt _ _ y2) hl (λ j d hd=>?_) (q _)
  ·unfold tgN; split
   ·exact .inr rfl
   ·exact .inl rfl
  ·obtain ⟨q',e,_,z⟩:=ha j d hd;exact ⟨q',e,xt _ _ (x1 _ _ z)⟩
 ·rintro x l ys ρ μ' ⟨ex,er,⟨o,rfl⟩,el,hl,ha⟩;cases hk:5 - ys.length with
  | zero=>rw [hk] at el; cases el
  | succ k =>
   rw [hk,ui0] at el;injection el with e1 e2
   subst e1 e2;refine ⟨by omega,?_⟩;refine ⟨(ys.length:Int),_,_,rfl,by omega,by omega,.ok G,λ p μ2 x2 hn ep=>?_⟩;have er2:=x2 _ _ er
   have hne:∀ j:Nat,tgN w h (j:Int)=if j < 3 then tgN w h 0 else .no:=λ j=>by
    unfold tgN;by_cases c:j < 3
    ·rw [if_pos c];have c1:(j:Int) < 3:=by omega
     by_cases c2:2500 < w * h
     ·rw [if_pos ⟨c1,c2⟩,if_pos ⟨by decide,c2⟩]
     ·rw [if_neg (λ z=>c2 z.2),if_neg (λ z=>c2 z.2)]
    ·rw [if_neg c,if_neg [1]]
   have c:p ≠ r:=λ hp=>by
    subst hp;unfold tgN at hn ep;split at ep
    ·rw [er2] at ep;injection ep with ep
     injection ep with ep
     rw [ep] at hl;exact absurd hl [9]
    ·next cc =>
     have:=hn (if_neg cc);rw [er] at this;cases this
   refine ⟨er2,λ b v hb=>?_,za0,⟨_,rfl⟩,?_,?_,λ j d hd=>?_⟩
   ·rw [xb0 (zb0 hb hr)];exact x2 _ _ (ex _ _ hb)
   ·rw [length_append,length_singleton];congr 1;omega
   ·rw [length_append,length_singleton]; omega
   ·by_cases cj:j < ys.length
    ·rw [getElem?_append_left cj] at hd;obtain ⟨q',rfl,hq,e⟩:=ha j d hd;exact ⟨q',rfl,hq,by rw [xb0 hq]; exact x2 _ _ e⟩
    ·rw [getElem?_append_right [1]] at hd
     have ej:j=ys.length:=by
      have:=(List.getElem?_eq_some_iff.mp hd).1;simp at this;omega
     subst ej;simp at hd;subst hd;exact ⟨p,rfl,c,by rw [xb0 c,ep,hne]⟩
theorem l9 {ts:List T3} {w h:Nat} {wi hi:Int} {u:Addr} {a0 a1 a2 a3:Option D} {μ:Mu} (G:Gp ts w h) (ew:wi + 2=w) (eh:hi + 2=h) (w6:w < 100) (hu:μ u=some (.lst [])):ui1 spBd spFl spLn uh0 spTk (EL Q) [a0,a1,a2,a3,some (.int wi),some (.int hi),some (.tup [38]),some (.ref u)] μ:=by
 refine ⟨.inl (.inl ⟨by omega,by omega⟩),?_⟩;have em:(wi + 2) * (hi + 2)=((w * h:Nat):Int):=by rw [ew,eh]; push_cast; rfl
 show if decide ((2500:Int) < (wi + 2) * (hi + 2))=true then _ else _;by_cases c:2500 < w * h
 ·rw [decide_eq_true (by rw [em]; omega),if_pos rfl];refine ⟨(show 7<=sizeLine by decide),λ v hv=>l10 q G ?_⟩;rw [za0];unfold tgN;rw [if_pos ⟨by decide,c⟩];rfl
 ·rw [decide_eq_false (by rw [em]; omega),if_neg [9]];refine l10 q G ?_;rw [hu];unfold tgN;rw [if_neg (λ z=>c z.2)];rfl
end
theorem xg3 {wi hi:Int} {us:List T3} (w1:1<=wi) (w2:wi<=60) (h1:1<=hi) (pm:us.Perm [(0,0,0),(wi - 1,hi,0)]) (su:us.Pairwise le3):Gp us (wi + 2).toNat (hi + 2).toNat:=by
 have m:∀ s,s ∈ us ↔ s=(0,0,0) \/ s=(wi - 1,hi,0):=λ s=>by rw [pm.mem_iff]; simp
 have ma:((0,0,0):T3) ∈ us:=(m _).mpr (.inl rfl);have mb:((wi - 1,hi,0):T3) ∈ us:=(m _).mpr (.inr rfl)
 have nab:((0,0,0):T3) ≠ (wi - 1,hi,0):=λ h=>by
  simp only [Prod.mk.injEq] at h;omega
 refine ⟨vj4 (ks:=[(0,0,0),(wi - 1,hi,0)]) (by simp [nab]) (λ t ht=>?_) (show 2 < 60 by decide) pm su,(λ e=>by rw [e] at ma; cases ma),⟨0,0,wi,hi,⟨⟨_,ma,rfl⟩,λ s hs=>?_,⟨_,ma,rfl⟩,λ s hs=>?_,⟨_,mb,?_⟩,λ s hs=>?_,⟨_,mb,?_⟩,λ s hs=>?_⟩,by omega,by omega,⟨by decide,by decide,by decide,by decide⟩,by omega,by omega,by omega⟩,λ vs ip hl=>?_⟩
 ·simp only [mem_cons,not_mem_nil,or_false] at ht;rcases ht with rfl | rfl <;> exact .inl rfl
 ·rcases (m s).mp hs with rfl | rfl
  ·exact Int.le_refl _
  ·show 0<=wi - 1; omega
 ·rcases (m s).mp hs with rfl | rfl
  ·exact Int.le_refl _
  ·show 0<=hi; omega
 ·show wi - 1 + 1 - 0=wi; omega
 ·rcases (m s).mp hs with rfl | rfl
  ·show (0:Int) + 1 - 0<=wi; omega
  ·show wi - 1 + 1 - 0<=wi; omega
 ·show hi + 0=hi; omega
 ·rcases (m s).mp hs with rfl | rfl
  ·show (0:Int) + 0<=hi; omega
  ·show hi + 0<=hi; omega
 ·match vs,hl with
  | [v],_ =>
   have fl:=ip.perm;rw [flatten_cons,List.flatten_nil,append_nil] at fl;have cn:=ip.co v [20] _ (fl.mem_iff.mpr ma) _ (fl.mem_iff.mpr mb);have:=Conn.cl (u:=[(0,0,0)]) (λ x hx c hc ht=>?_) [20] cn
   ·rw [mem_singleton] at this;exact nab this.symm
   ·rw [mem_singleton] at hx;subst hx;rcases (m c).mp hc with rfl | rfl
    ·simp
    ·obtain ⟨p,p1,p2⟩:=ht;unfold has e0 e1 at p1 p2;simp only [Bool.or_eq_true,decide_eq_true_eq] at p1 p2;rcases p1 with rfl | rfl <;> rcases p2 with p2 | p2 <;> simp only [Prod.mk.injEq] at p2 <;> omega
theorem wr3 (ds:List D) (μ:Mu) (Q:VK3) (h:ug2 ds μ Q):th3 spBd spFl spLn uh0 spTk { nx:=λ _ μ'=>Q .non μ',rt:=Q } (start3 ue3 ds) μ:=by
 obtain ⟨ns,rfl,hn,q⟩:=h;have hz:(1000:Nat) < sizeLine:=by decide
 refine ⟨ns,0,rfl,by decide,λ a b p ha hp=>?_⟩;refine ⟨p,a,b,rfl,za0,ha,λ us a1 b1 μ1 hw hl h1 ep1 _=>?_⟩;refine ⟨p,us,a1,b1,rfl,hw,hl,ep1,h1,λ l a2 b2 μ2 hb h2 ep2 _=>?_⟩;show si1 spBd spFl spLn uh0 spTk _ [some (.fls (ns.map D.int)),some (.ref p),some (.tup (l.map encI)),none,none,none,none,none] μ2;refine ⟨⟨by decide,by decide⟩,?_⟩;refine wf0 (λ ks ρ μ'=>∃ o:Option D,ρ=[some (.fls (ns.map D.int)),some (.ref p),some (.tup (l.map encI)),o,none,none,none,none] /\ (∀ d ∈ ks,∃ i:Int,d=.int i /\ 0<=i /\ i<=4) /\ μ' p=some (.lst [.int a2,.int b2])) ?_ (λ _ _ _ _=>trivial) ?_ ?_
 ·refine ⟨none,rfl,λ d hd=>?_,ep2⟩;unfold rngD at hd;obtain ⟨i,hi,rfl⟩:=List.mem_map.mp hd;have:i < 5:=List.mem_range.mp hi;exact ⟨_,rfl,by omega,by omega⟩
 ·rintro ρ μ3 ⟨o,rfl,_,ep3⟩;refine ⟨p,8,a2,b2,rfl,by decide,by decide,ep3,h2,λ t a4 b4 t0 t1 h4=>?_⟩;show if decide ((0:Int) < t)=true then _ else _;by_cases c:0 < t
  ·rw [decide_eq_true c,if_pos rfl];exact q _
  rw [decide_eq_false c,if_neg [9]];refine ⟨p,60,a4,b4,rfl,by decide,by decide,za0,h4,λ wi a5 b5 w0 w1 h5=>?_⟩;refine ⟨⟨by show (0:Int) < 1 + wi + 2; omega,by show 1 + wi + 2 < (2:Int) ^ 120; omega⟩,?_⟩;refine ⟨p,5,a5,b5,rfl,by decide,by decide,za0,h5,λ t5 a6 b6 _ _ h6=>?_⟩;refine ⟨p,2,a6,b6,rfl,by decide,by decide,za0,h6,λ t2 a7 b7 t20 t21 h7=>?_⟩;refine ⟨p,3,a7,b7,rfl,by decide,by decide,za0,h7,λ t3' a8 b8 t30 t31 h8=>?_⟩;refine ⟨.inl (.inl ⟨by omega,by omega⟩),⟨by decide,by decide,by decide⟩,.inl (.inr ⟨by decide,by decide⟩),?_⟩;generalize updM _ p (.lst [.int a8,.int b8])=μ8;show ti1 spBd spFl spLn uh0 spTk _ [some (.fls (ns.map D.int)),some (.ref p),some (.tup (l.map encI)),o,some (.int (1 + wi)),some (.int (if 2500 / (1 + wi + 2) - 4 + t5 + t2 * t3' * 10 ^ (12:Int).toNat > 1 then 2500 / (1 + wi + 2) - 4 + t5 + t2 * t3' * 10 ^ (12:Int).toNat else 1)),none,none] μ8;have g1:(1:Int)<=(if 2500 / (1 + wi + 2) - 4 + t5 + t2 * t3' * 10 ^ (12:Int).toNat > 1 then 2500 / (1 + wi + 2) - 4 + t5 + t2 * t3' * 10 ^ (12:Int).toNat else 1):=by split <;> omega
  generalize (if 2500 / (1 + wi + 2) - 4 + t5 + t2 * t3' * 10 ^ (12:Int).toNat > 1 then 2500 / (1 + wi + 2) - 4 + t5 + t2 * t3' * 10 ^ (12:Int).toNat else 1)=hi at g1;refine ⟨z3,z3,z2,λ g hg=>?_⟩;dsimp only [nil3];refine sj3 (ts:=[(0,0,0),(1 + wi - 1,hi,0)]) za0 (show 2 < 1000 by decide) λ us' pm su r hr=>?_;refine wf2 za0 ?_;refine ⟨Nat.zero_le _,λ u hu=>l9 q (xg3 [1] [1] g1 pm su) ?_ ?_ ?_ za0⟩
  ·omega
  ·omega
  ·omega
 ·rintro x rest ρ μ3 ⟨o,rfl,hk,ep3⟩;obtain ⟨i,rfl,i0,i4⟩:=hk x (mem_cons_self ..);refine ⟨i,_,_,rfl,i0,i4,.bad hb,λ r μ4 x4 _ er=>?_⟩;refine ⟨(show 7<=sizeLine by decide),λ t ht=>?_⟩;have er:μ4 r=some (.lst (BB1.map D.bl)):=er;have er2:=Ext.new (o:=.lst (BB1.map D.bl)) ht _ _ er;have et:updM μ4 t (.lst (BB1.map D.bl)) t=some (.lst (BB1.map D.bl)):=za0;have ep4:=Ext.new (o:=.lst (BB1.map D.bl)) ht _ _ (x4 _ _ ep3);have d1:=yr0 er2;have d2:=yr0 et;show neR (.ref r) (.ref t) (updM μ4 t (.lst (BB1.map D.bl))) (λ d μ1=>_);rw [vz2 rfl d1 d2 [9] [9]];have e:PyData.eqv (.list (BB1.map PyData.bool)) (.list (BB1.map PyData.bool))=true:=by decide
  rw [e];exact ⟨_,rfl,λ d hd=>hk d (mem_cons_of_mem _ hd),ep4⟩
end Pv
namespace Pv
open PySem PySem.Spec PyProof.Rows L2
theorem bn1 {P:List Value->Prop} (h:∀ a,P [a]) (us:[22]) (e:us.length=1):P us:=by
 match us,e with
 | [a],_=>exact h a
theorem bn2 {P:List Value->Prop} (h:∀ a b,P [a,b]) (us:[22]) (e:us.length=2):P us:=by
 match us,e with
 | [a,b],_=>exact h a b
theorem bn3 {P:List Value->Prop} (h:∀ a b c,P [a,b,c]) (us:[22]) (e:us.length=3):P us:=by
 match us,e with
 | [a,b,c],_=>exact h a b c
abbrev NsR (K:Fg) (x:Str) (p:Addr):Prop:=nsIn K mainGlobals x=some (some (.ref p))
def FnA (K:Fg) (x:Str) (st:Stmt) (p:Addr):Prop:=∃ oc od sl kV dc pm an cd ct,K.lookup p=some ⟨oc,od,.func (fnOf x x (si0 st) (vb0 st) (va0 st) .none kV dc pm an cd ct),sl⟩ /\ codeIn K cd x=true /\ keepIn K (.ref p)=true
theorem fnA_mk {K:Fg} {x:Str} {st:Stmt} {p:Addr} {oc kV dc pm cd ct:Value} {od an:Option Addr} {sl:Array (Option Value)} (l:K.lookup p=some ⟨oc,od,.func (fnOf x x (si0 st) (vb0 st) (va0 st) .none kV dc pm an cd ct),sl⟩) (c:codeIn K cd x=true) (k:keepIn K (.ref p)=true):FnA K x st p:=⟨_,_,_,_,_,_,_,_,_,l,c,k⟩
theorem FnA.fn {K:Fg} {x:Str} {st:Stmt} {p:Addr} (h:FnA K x st p):∃ fd,Fun K x x st p fd:=by
 obtain ⟨_,_,_,_,_,_,_,_,_,l,c,k⟩:=h;exact ⟨_,wr2 (st:=st) l c k⟩
theorem x_mkn {K:Fg} {cn r1 r2:Str} {C1 C2:Addr} {T:Value} {y1 y2:Bool} (hs:xnames=[r1,r2] /\ subX cn r1=some y1 /\ subX cn r2=some y2) (a1:nsIn K mainGlobals r1=some (some (.ref C1))) (a2:nsIn K mainGlobals r2=some (some (.ref C2))) (E1:ExcK K C1) (E2:ExcK K C2) (k1:kitOne K (.ref C1) T=some y1) (k2:kitOne K (.ref C2) T=some y2) (c:Str) (C:Addr) (b:Bool) (h:subX cn c=some b) (hn:nsIn K mainGlobals c=some (some (.ref C))):ExcK K C /\ kitOne K (.ref C) T=some b:=by
 have hin:=wj0 h;rw [hs.1] at hin;simp only [mem_cons,not_mem_nil,or_false] at hin;rcases hin with rfl | rfl
 . rw [a1] at hn
   cases hn;rw [hs.2.1] at h;cases h;exact ⟨E1,k1⟩
 . rw [a2] at hn
   cases hn;rw [hs.2.2] at h;cases h;exact ⟨E2,k2⟩
theorem all_mk {l:PySem.W.OpenLaw} {w:World} {K:Fg} {h:Heap} {mg:[23]} {fa:Addr} (X:K.In h) (G:h.Ns mainGlobals mg) (hfa:mg "law" = some (.ref fa))
    {jd3:Addr}
    {jd4:Addr}
    {jd5:Addr}
    {jd6:Addr}
    {jd7:Addr}
    {jd8:Addr}
    {jd9:Addr}
    {jea:Addr}
    {jeb:Addr}
    {jec:Addr}
    {p_q9:Addr}
    {jed:Addr}
    {jee:Addr}
    {jef:Addr}
    {jeg:Addr}
    {jeh:Addr}
    {jei:Addr}
    {p_q8:Addr}
    {jej:Addr}
    {p_q7:Addr}
    {p_q4:Addr}
    {p_q5:Addr}
    {p_q3:Addr}
    {p_q6:Addr}
    {p_q0:Addr}
    {p_q2:Addr}
    {p_q1:Addr}
    {jek:Addr}
    {t_2:Tok}
    {t_3:Tok}
    {q_1:Addr} {qo_1:Option Addr} {qn_1:Nat} {qs_1:Array (Option Value)}
    {t_4:Tok}
    {C_BadNote:Addr} {jcr:ClassData}
    {C_NoNumber:Addr} {jcp:ClassData}
    {C_NoPicture:Addr} {jcl:ClassData}
    {C_NoRoom:Addr} {jct:ClassData}
    {C_NoStep:Addr} {jcu:ClassData}
    {C_NoWord:Addr} {jcv:ClassData}
    {C_PenError:Addr} {jcq:ClassData}
    (jc2:NsR K "check_picture" jd3) (jc3:FnA K "check_picture" yq1 jd3)
    (jc4:NsR K "check_stroke" jd4) (jc5:FnA K "check_stroke" sp1 jd4)
    (jc6:NsR K "ends_of" jd5) (jc7:FnA K "ends_of" tp1 jd5)
    (jc8:NsR K "picture_box" jd6) (jc9:FnA K "picture_box" zp1 jd6)
    (jda:NsR K "picture_pieces" jd7) (jdb:FnA K "picture_pieces" yp1 jd7)
    (jdc:NsR K "strokes_at" jd8) (jdd:FnA K "strokes_at" wo1 jd8)
    (jde:NsR K "piece_with" jd9) (jdf:FnA K "piece_with" xp1 jd9)
    (jdg:NsR K "take_unseen" jea) (jdh:FnA K "take_unseen" yo1 jea)
    (jdi:NsR K "rooms_of" jeb) (jdj:FnA K "rooms_of" uo1 jeb)
    (jdk:NsR K "check_size" jec) (jdl:FnA K "check_size" xq1 jec)
    (a_q9:NsR K "cells_round" p_q9) (A_q9:FnA K "cells_round" s_q9 p_q9)
    (jdm:NsR K "take_cells" jed) (jdn:FnA K "take_cells" zo1 jed)
    (jdo:NsR K "neighbours_of" jee) (jdp:FnA K "neighbours_of" vp1 jee)
    (jdq:NsR K "sides_of_cell" jef) (jdr:FnA K "sides_of_cell" vo1 jef)
    (jds:NsR K "room_at" jeg) (jdt:FnA K "room_at" to1 jeg)
    (jdu:NsR K "numbers_of_cells" jeh) (jdv:FnA K "numbers_of_cells" wp1 jeh)
    (jdw:NsR K "walls_of" jei) (jdx:FnA K "walls_of" xo1 jei)
    (a_q8:NsR K "cells_beside" p_q8) (A_q8:FnA K "cells_beside" s_q8 p_q8)
    (jdy:NsR K "is_ring" jej) (jdz:FnA K "is_ring" up1 jej)
    (a_q7:NsR K "area_of" p_q7) (A_q7:FnA K "area_of" s_q7 p_q7)
    (a_q4:NsR K "_law_state" p_q4) (A_q4:FnA K "_law_state" s_q4 p_q4)
    (a_q5:NsR K "_law_take" p_q5) (A_q5:FnA K "_law_take" s_q5 p_q5)
    (a_q3:NsR K "_law_lines" p_q3) (A_q3:FnA K "_law_lines" s_q3 p_q3)
    (a_q6:NsR K "_law_which" p_q6) (A_q6:FnA K "_law_which" s_q6 p_q6)
    (a_q0:NsR K "_law_asked" p_q0) (A_q0:FnA K "_law_asked" s_q0 p_q0)
    (a_q2:NsR K "_law_flags" p_q2) (A_q2:FnA K "_law_flags" s_q2 p_q2)
    (a_q1:NsR K "_law_bad" p_q1) (A_q1:FnA K "_law_bad" s_q1 p_q1)
    (jc1:NsR K "law" jek) (jd0:FnA K "law" vq0 jek)
    (jcw:nsIn K mainGlobals "WAYS" = some (some (.ref q_1)))
    (ql_1:K.lookup q_1=some ⟨.type "tuple",qo_1,.seq #[.int (0) t_2,.int (1) t_3] qn_1,qs_1⟩)
    (jbi:nsIn K mainGlobals "MOST_CELLS" = some (some (.int (2500) t_4)))
    (jb5:nsIn K mainGlobals "BadNote" = some (some (.ref C_BadNote)))
    (jbn:clsIn K C_BadNote=some jcr)
    (jbo:typeIn K (.ref C_BadNote)=some (.type "type"))
    (jbr:nsIn K mainGlobals "NoNumber" = some (some (.ref C_NoNumber)))
    (ja3:clsIn K C_NoNumber=some jcp)
    (ja4:typeIn K (.ref C_NoNumber)=some (.type "type"))
    (jaa:nsIn K mainGlobals "NoPicture" = some (some (.ref C_NoPicture)))
    (ja2:clsIn K C_NoPicture=some jcl)
    (jbj:typeIn K (.ref C_NoPicture)=some (.type "type"))
    (jac:nsIn K mainGlobals "NoRoom" = some (some (.ref C_NoRoom)))
    (jby:clsIn K C_NoRoom=some jct)
    (jch:typeIn K (.ref C_NoRoom)=some (.type "type"))
    (jci:nsIn K mainGlobals "NoStep" = some (some (.ref C_NoStep)))
    (jbz:clsIn K C_NoStep=some jcu)
    (jb0:typeIn K (.ref C_NoStep)=some (.type "type"))
    (jcj:nsIn K mainGlobals "NoWord" = some (some (.ref C_NoWord)))
    (jb1:clsIn K C_NoWord=some jcv)
    (jb2:typeIn K (.ref C_NoWord)=some (.type "type"))
    (jbs:nsIn K mainGlobals "PenError" = some (some (.ref C_PenError)))
    (ja5:clsIn K C_PenError=some jcq)
    (ja6:typeIn K (.ref C_PenError)=some (.type "type"))
    (jbt:excIn K C_NoPicture [.type "ValueError",.type "Exception",.type "BaseException",.type "object"] "ValueError.__new__" = true)
    (ja7:findIn K (.ref C_NoPicture) "__getattribute__" = some (some (.builtin "BaseException.__getattribute__")))
    (ja8:findIn K (.ref C_NoPicture) "__getattr__" = some none)
    (ja9:mroIn K C_NoPicture (.type "BaseException")=some true)
    (jba:findIn K (.ref C_NoPicture) "__class__" = some (some (.builtin "object.__class__")))
    (jbb:specialIn K (.builtin "object.__class__") "__get__" = some (some (.builtin "getset_descriptor.__get__")))
    (jbc:takesIn K (.builtin "object.__class__")=some true)
    (jbd:mroIn K C_NoPicture (.type "object")=some true)
    (jcm:excIn K C_NoRoom [.type "ValueError",.type "Exception",.type "BaseException",.type "object"] "ValueError.__new__" = true)
    (jb6:findIn K (.ref C_NoRoom) "__getattribute__" = some (some (.builtin "BaseException.__getattribute__")))
    (jb7:findIn K (.ref C_NoRoom) "__getattr__" = some none)
    (jb8:mroIn K C_NoRoom (.type "BaseException")=some true)
    (jb9:findIn K (.ref C_NoRoom) "__class__" = some (some (.builtin "object.__class__")))
    (jca:specialIn K (.builtin "object.__class__") "__get__" = some (some (.builtin "getset_descriptor.__get__")))
    (jcb:takesIn K (.builtin "object.__class__")=some true)
    (jcc:mroIn K C_NoRoom (.type "object")=some true)
    (jah:subIn K (.ref C_NoPicture) (.ref C_BadNote)=some false)
    (jai:(Value.ref C_NoPicture == Value.ref C_BadNote)=false)
    (jav:subIn K (.ref C_NoRoom) (.ref C_BadNote)=some false)
    (jaw:(Value.ref C_NoRoom == Value.ref C_BadNote)=false)
    (jad:subIn K (.ref C_NoPicture) (.ref C_NoNumber)=some false)
    (jae:(Value.ref C_NoPicture == Value.ref C_NoNumber)=false)
    (jas:subIn K (.ref C_NoRoom) (.ref C_NoNumber)=some false)
    (jat:(Value.ref C_NoRoom == Value.ref C_NoNumber)=false)
    (jak:subIn K (.ref C_NoRoom) (.ref C_NoPicture)=some false)
    (jal:(Value.ref C_NoRoom == Value.ref C_NoPicture)=false)
    (jam:subIn K (.ref C_NoPicture) (.ref C_NoRoom)=some false)
    (jan:(Value.ref C_NoPicture == Value.ref C_NoRoom)=false)
    (jao:subIn K (.ref C_NoPicture) (.ref C_NoStep)=some false)
    (jap:(Value.ref C_NoPicture == Value.ref C_NoStep)=false)
    (jax:subIn K (.ref C_NoRoom) (.ref C_NoStep)=some false)
    (jay:(Value.ref C_NoRoom == Value.ref C_NoStep)=false)
    (jaq:subIn K (.ref C_NoPicture) (.ref C_NoWord)=some false)
    (jar:(Value.ref C_NoPicture == Value.ref C_NoWord)=false)
    (jaz:subIn K (.ref C_NoRoom) (.ref C_NoWord)=some false)
    (ja0:(Value.ref C_NoRoom == Value.ref C_NoWord)=false)
    (jab:subIn K (.ref C_NoPicture) (.type "ValueError")=some true)
    (jaj:subIn K (.ref C_NoRoom) (.type "ValueError")=some true)
    (k3s:subIn K (.type "type") (.type "tuple")=some false)
    (jbk:subIn K (.ref C_PenError) (.type "BaseException")=some true)
    (jaf:subIn K (.ref C_NoPicture) (.ref C_PenError)=some true)
    (jau:subIn K (.ref C_NoRoom) (.ref C_PenError)=some true)
    (jbe:nsIn K mainGlobals "ValueError" = some none)
    (jcs:nsIn K mainGlobals "dict" = some none)
    (jbf:nsIn K mainGlobals "isinstance" = some none)
    (jcx:nsIn K mainGlobals "len" = some none)
    (jcy:nsIn K mainGlobals "max" = some none)
    (jcz:nsIn K mainGlobals "min" = some none)
    (jcn:nsIn K mainGlobals "range" = some none)
    (jc0:nsIn K mainGlobals "set" = some none)
    (jck:nsIn K mainGlobals "sorted" = some none)
    (jco:nsIn K mainGlobals "tuple" = some none) :
    ∃ fd:FuncData,(∀ (s:[39]) (v:Value),BindsTo s fd ⟨[v],[]⟩ [("script",v)]) /\ ∀ base:Heap,K.In base->base.Ns mainGlobals mg->FnOk l.prog w K mg base CX0 8 fa fd ["script"] (lift K ug2):=by
 have e:=hfa.symm.trans (mg_of X G jc1);cases e;have g_WAYS:Gd K mg "WAYS" zj0:=xz3 X G jcw (TupK.mk ql_1 (show 2<=sizeLine by decide) (.int (.int .nil)));have g_MOST_CELLS:Gd K mg "MOST_CELLS" ti0:=yz3 X G jbi;have m_BadNote:=mg_of X G jb5;have m_NoNumber:=mg_of X G jbr;have m_NoPicture:=mg_of X G jaa;have m_NoRoom:=mg_of X G jac;have m_NoStep:=mg_of X G jci;have m_NoWord:=mg_of X G jcj;have m_PenError:=mg_of X G jbs;have jag:ExcK K C_NoPicture:=⟨ja7,ja8,ja9,(by rw [ja2]; rfl),jba,jbb,jbc,jbd⟩;have ja1:ExcK K C_NoRoom:=⟨jb6,jb7,jb8,(by rw [jby]; rfl),jb9,jca,jcb,jcc⟩;have jbp:kitOne K (.ref C_NoPicture) (.ref C_BadNote)=some false:=tf0 jai (se0 jbn jbo jah);have jcd:kitOne K (.ref C_NoRoom) (.ref C_BadNote)=some false:=tf0 jaw (se0 jbn jbo jav);have x_BadNote:=x_mkn (cn:="BadNote") ⟨rfl,by decide,by decide⟩ jaa jac jag ja1 jbp jcd;have jbl:kitOne K (.ref C_NoPicture) (.ref C_NoNumber)=some false:=tf0 jae (se0 ja3 ja4 jad);have jb3:kitOne K (.ref C_NoRoom) (.ref C_NoNumber)=some false:=tf0 jat (se0 ja3 ja4 jas);have x_NoNumber:=x_mkn (cn:="NoNumber") ⟨rfl,by decide,by decide⟩ jaa jac jag ja1 jbl jb3;have jbh:kitOne K (.ref C_NoPicture) (.ref C_NoPicture)=some true:=wc1;have jbu:kitOne K (.ref C_NoRoom) (.ref C_NoPicture)=some false:=tf0 jal (se0 ja2 jbj jak);have x_NoPicture:=x_mkn (cn:="NoPicture") ⟨rfl,by decide,by decide⟩ jaa jac jag ja1 jbh jbu;have jbv:kitOne K (.ref C_NoPicture) (.ref C_NoRoom)=some false:=tf0 jan (se0 jby jch jam);have jce:kitOne K (.ref C_NoRoom) (.ref C_NoRoom)=some true:=wc1;have x_NoRoom:=x_mkn (cn:="NoRoom") ⟨rfl,by decide,by decide⟩ jaa jac jag ja1 jbv jce;have jbw:kitOne K (.ref C_NoPicture) (.ref C_NoStep)=some false:=tf0 jap (se0 jbz jb0 jao);have jcf:kitOne K (.ref C_NoRoom) (.ref C_NoStep)=some false:=tf0 jay (se0 jbz jb0 jax);have x_NoStep:=x_mkn (cn:="NoStep") ⟨rfl,by decide,by decide⟩ jaa jac jag ja1 jbw jcf;have jbx:kitOne K (.ref C_NoPicture) (.ref C_NoWord)=some false:=tf0 jar (se0 jb1 jb2 jaq);have jcg:kitOne K (.ref C_NoRoom) (.ref C_NoWord)=some false:=tf0 ja0 (se0 jb1 jb2 jaz);have x_NoWord:=x_mkn (cn:="NoWord") ⟨rfl,by decide,by decide⟩ jaa jac jag ja1 jbx jcg;have jbg:kitOne K (.ref C_NoPicture) (.type "ValueError")=some true:=tf0 rfl (ux0 [12] jab);have jbq:kitOne K (.ref C_NoRoom) (.type "ValueError")=some true:=tf0 rfl (ux0 [12] jaj);have x_ValueError:=x_mkn (cn:="ValueError") ⟨rfl,by decide,by decide⟩ jaa jac jag ja1 jbg jbq;have k3:kitCls K (.type "type") (.type "tuple")=some false:=ux0 [12] k3s;have k2_PenError:=ux0 (T := "BaseException") [12] jbk;have jbm:=se0 ja5 ja6 jaf;have jb4:=se0 ja5 ja6 jau
 have ok_PenError:∀ c,okX c=true->∃ C,nsIn K mainGlobals c=some (some (.ref C)) /\ mg c=some (.ref C) /\ kitCls K (.ref C) (.ref C_PenError)=some true:=by
  intro c h;have hin:c ∈ xnames:=by simpa [okX] using h
  simp only [xnames,mem_cons,not_mem_nil,or_false] at hin;rcases hin with rfl | rfl
  ·exact ⟨C_NoPicture,jaa,m_NoPicture,jbm⟩
  ·exact ⟨C_NoRoom,jac,m_NoRoom,jb4⟩
 have z_ValueError:=mg_none_of X G jbe;have z_dict:=mg_none_of X G jcs;have z_isinstance:=mg_none_of X G jbf;have z_len:=mg_none_of X G jcx;have z_max:=mg_none_of X G jcy;have z_min:=mg_none_of X G jcz;have z_range:=mg_none_of X G jcn;have z_set:=mg_none_of X G jc0;have z_sorted:=mg_none_of X G jck;have z_tuple:=mg_none_of X G jco;obtain ⟨_,jel⟩:=jc3.fn;have jfc:=jel.binds (ps:=["picture"]) λ _ _ _ _ _ _=>bn1 λ _=>rfl;have jfd:=mg_of X G jc2;obtain ⟨_,jem⟩:=jc5.fn;have jfe:=jem.binds (ps:=["stroke"]) λ _ _ _ _ _ _=>bn1 λ _=>rfl;have jff:=mg_of X G jc4;obtain ⟨_,jen⟩:=jc7.fn;have jfg:=jen.binds (ps:=["stroke"]) λ _ _ _ _ _ _=>bn1 λ _=>rfl;have jfh:=mg_of X G jc6;obtain ⟨_,jeo⟩:=jc9.fn;have jfi:=jeo.binds (ps:=["picture"]) λ _ _ _ _ _ _=>bn1 λ _=>rfl;have jfj:=mg_of X G jc8;obtain ⟨_,jep⟩:=jdb.fn;have jfk:=jep.binds (ps:=["picture"]) λ _ _ _ _ _ _=>bn1 λ _=>rfl;have jfl:=mg_of X G jda;obtain ⟨_,jeq⟩:=jdd.fn;have jfm:=jeq.binds (ps:=["picture"]) λ _ _ _ _ _ _=>bn1 λ _=>rfl;have jfn:=mg_of X G jdc;obtain ⟨_,jer⟩:=jdf.fn;have jfo:=jer.binds (ps:=["stroke", "at", "seen"]) λ _ _ _ _ _ _=>bn3 λ _ _ _=>rfl;have jfp:=mg_of X G jde;obtain ⟨_,jes⟩:=jdh.fn;have jfq:=jes.binds (ps:=["strokes", "seen"]) λ _ _ _ _ _ _=>bn2 λ _ _=>rfl;have jfr:=mg_of X G jdg;obtain ⟨_,jet⟩:=jdj.fn;have jfs:=jet.binds (ps:=["picture"]) λ _ _ _ _ _ _=>bn1 λ _=>rfl;have jft:=mg_of X G jdi;obtain ⟨_,jeu⟩:=jdl.fn;have jfu:=jeu.binds (ps:=["box"]) λ _ _ _ _ _ _=>bn1 λ _=>rfl;have jfv:=mg_of X G jdk;obtain ⟨_,F_q9⟩:=A_q9.fn;have b_q9:=F_q9.binds (ps:=["box"]) λ _ _ _ _ _ _=>bn1 λ _=>rfl;have m_q9:=mg_of X G a_q9;obtain ⟨_,jev⟩:=jdn.fn;have jfw:=jev.binds (ps:=["cell", "strokes", "unseen"]) λ _ _ _ _ _ _=>bn3 λ _ _ _=>rfl;have jfx:=mg_of X G jdm;obtain ⟨_,jew⟩:=jdp.fn;have jfy:=jew.binds (ps:=["cell", "strokes"]) λ _ _ _ _ _ _=>bn2 λ _ _=>rfl;have jfz:=mg_of X G jdo;obtain ⟨_,jex⟩:=jdr.fn;have jf0:=jex.binds (ps:=["cell"]) λ _ _ _ _ _ _=>bn1 λ _=>rfl;have jf1:=mg_of X G jdq;obtain ⟨_,jey⟩:=jdt.fn;have jf2:=jey.binds (ps:=["picture", "cell"]) λ _ _ _ _ _ _=>bn2 λ _ _=>rfl;have jf3:=mg_of X G jds;obtain ⟨_,jez⟩:=jdv.fn;have jf4:=jez.binds (ps:=["rooms"]) λ _ _ _ _ _ _=>bn1 λ _=>rfl;have jf5:=mg_of X G jdu;obtain ⟨_,je0⟩:=jdx.fn;have jf6:=je0.binds (ps:=["picture"]) λ _ _ _ _ _ _=>bn1 λ _=>rfl;have jf7:=mg_of X G jdw;obtain ⟨_,F_q8⟩:=A_q8.fn;have b_q8:=F_q8.binds (ps:=["stroke"]) λ _ _ _ _ _ _=>bn1 λ _=>rfl;have m_q8:=mg_of X G a_q8;obtain ⟨_,je1⟩:=jdz.fn;have jf8:=je1.binds (ps:=["picture"]) λ _ _ _ _ _ _=>bn1 λ _=>rfl;have jf9:=mg_of X G jdy;obtain ⟨_,F_q7⟩:=A_q7.fn;have b_q7:=F_q7.binds (ps:=["picture"]) λ _ _ _ _ _ _=>bn1 λ _=>rfl;have m_q7:=mg_of X G a_q7;obtain ⟨_,F_q4⟩:=A_q4.fn;have b_q4:=F_q4.binds (ps:=["script", "k"]) λ _ _ _ _ _ _=>bn2 λ _ _=>rfl;have m_q4:=mg_of X G a_q4;obtain ⟨_,F_q5⟩:=A_q5.fn;have b_q5:=F_q5.binds (ps:=["state", "many"]) λ _ _ _ _ _ _=>bn2 λ _ _=>rfl;have m_q5:=mg_of X G a_q5;obtain ⟨_,F_q3⟩:=A_q3.fn;have b_q3:=F_q3.binds (ps:=["state", "most"]) λ _ _ _ _ _ _=>bn2 λ _ _=>rfl;have m_q3:=mg_of X G a_q3;obtain ⟨_,F_q6⟩:=A_q6.fn;have b_q6:=F_q6.binds (ps:=["e"]) λ _ _ _ _ _ _=>bn1 λ _=>rfl;have m_q6:=mg_of X G a_q6;obtain ⟨_,F_q0⟩:=A_q0.fn;have b_q0:=F_q0.binds (ps:=["way", "lines"]) λ _ _ _ _ _ _=>bn2 λ _ _=>rfl;have m_q0:=mg_of X G a_q0;obtain ⟨_,F_q2⟩:=A_q2.fn;have b_q2:=F_q2.binds (ps:=["way", "lines"]) λ _ _ _ _ _ _=>bn2 λ _ _=>rfl;have m_q2:=mg_of X G a_q2;obtain ⟨_,F_q1⟩:=A_q1.fn;have b_q1:=F_q1.binds (ps:=["state", "lines"]) λ _ _ _ _ _ _=>bn2 λ _ _=>rfl;have m_q1:=mg_of X G a_q1;obtain ⟨_,_,_,je2,je3,je4,je5,je6,je7,jga,jgb,jgc⟩:=jd0;have je8:=wr2 (st:=vq0) jga jgb jgc;have jgp:=je8.binds (ps:=["script"]) λ _ _ _ _ _ _=>bn1 λ _=>rfl;have jgq:=mg_of X G jc1;refine ⟨fnOf "law" "law" (si0 vq0) (vb0 vq0) (va0 vq0) .none je2 je3 je4 je5 je6 je7,λ s v=>.of_eq rfl,λ base KB GB=>?_⟩;have O_NoPicture:=yq2 KB GB jaa jbt;have O_NoRoom:=yq2 KB GB jac jcm;have jgd:CalX l.prog w K mg base (1) "check_stroke" ["stroke"] uv0:=sg0 jem jff jfe vl3 (by rintro _ _ _ _ ⟨_,rfl,_⟩; rfl) (k:=0) (λ cdv A outer s H E XE hr EX=>yp3 EX O_NoPicture z_len g_WAYS hr) tr3;have je9:CalX l.prog w K mg base (2) "check_picture" ["picture"] va1:=sg0 jel jfd jfc sc_q10 (by rintro _ _ _ _ ⟨_,rfl,_⟩; rfl) (k:=1) (λ cdv A outer s H E XE hr EX=>wp3 EX jgd [9] O_NoPicture z_len z_range hr) xs3;have jd1:Cal l.prog w K mg base (1) "ends_of" ["stroke"] sl0:=xg0 jen jfh jfg wl3 (by rintro _ _ _ ⟨_,rfl,_⟩; rfl) (k:=0) (λ cdv A outer s H E hr=>xp3 hr) ur3;have jge:Cal l.prog w K mg base (2) "picture_box" ["picture"] tg2:=xg0 jeo jfj jfi sc_q23 (by rintro _ _ _ ⟨_,rfl,_⟩; rfl) (k:=1) (λ cdv A outer s H E hr=>zo3 jd1 [9] z_len z_max z_min hr) xr3;have jgf:Cal l.prog w K mg base (2) "strokes_at" ["picture"] spAt:=xg0 jeq jfn jfm sc_q29 (by rintro _ _ _ ⟨_,rfl,_⟩; rfl) (k:=1) (λ cdv A outer s H E hr=>wn3 jd1 [9] hr) zq3;have jgg:Cal l.prog w K mg base (1) "take_unseen" ["strokes", "seen"] xj1:=xg0 jes jfr jfq sc_q31 (by rintro _ _ _ ⟨_,_,_,_,rfl,_⟩; rfl) (k:=0) (λ cdv A outer s H E hr=>yn3 hr) xq3;have jgh:Cal l.prog w K mg base (2) "piece_with" ["stroke", "at", "seen"] spPw:=xg0 jer jfp jfo sc_q25 (by rintro _ _ _ ⟨_,_,_,_,_,_,rfl,_⟩; rfl) (k:=1) (λ cdv A outer s H E hr=>xo3 jd1 [9] jgg [9] z_len z_sorted z_tuple hr) tq3;have jgi:CalX l.prog w K mg base (3) "picture_pieces" ["picture"] wo0:=sg0 jep jfl jfk sc_q24 (by rintro _ _ _ _ ⟨_,rfl,_⟩; rfl) (k:=2) (λ cdv A outer s H E XE hr EX=>yo3 EX je9 [9] jgh [9] jgf [9] hr) sq3;have jgj:CalX l.prog w K mg base (1) "check_size" ["box"] vg2:=sg0 jeu jfv jfu ul3 (by rintro _ _ _ _ ⟨_,_,_,_,rfl,_⟩; rfl) (k:=0) (λ cdv A outer s H E XE hr EX=>zp3 EX O_NoRoom g_MOST_CELLS hr) sr3;have h_q9:Cal l.prog w K mg base (1) "cells_round" ["box"] spCr:=xg0 F_q9 m_q9 b_q9 sc_q9 (by rintro _ _ _ ⟨_,_,_,_,_,_,rfl,_⟩; rfl) (k:=0) (λ cdv A outer s H E hr=>ue4 z_range hr) zg4;have jgk:Cal l.prog w K mg base (1) "sides_of_cell" ["cell"] spSd:=xg0 jex jf1 jf0 sc_q28 (by rintro _ _ _ ⟨_,rfl,_⟩; rfl) (k:=0) (λ cdv A outer s H E hr=>vn3 hr) wq3;have jgl:Cal l.prog w K mg base (2) "neighbours_of" ["cell", "strokes"] spNb:=xg0 jew jfz jfy yl3 (by rintro _ _ _ ⟨_,_,_,rfl,_⟩; rfl) (k:=1) (λ cdv A outer s H E hr=>vo3 jgk [9] hr) zr3;have jgm:Cal l.prog w K mg base (3) "take_cells" ["cell", "strokes", "unseen"] spTc:=xg0 jev jfx jfw sc_q30 (by rintro _ _ _ ⟨_,_,_,_,_,rfl,_⟩; rfl) (k:=2) (λ cdv A outer s H E hr=>zn3 jgl [9] z_len z_sorted hr) yq3;have jd2:CalX l.prog w K mg base (4) "rooms_of" ["picture"] wf1:=sg0 jet jft jfs sc_q27 (by rintro _ _ _ _ ⟨_,rfl,_⟩; rfl) (k:=3) (λ cdv A outer s H E XE hr EX=>tn3 EX h_q9 [9] je9 [9] jgj [9] jge [9] jgm [9] z_dict hr) vq3;have jfa:Cal l.prog w K mg base (1) "numbers_of_cells" ["rooms"] spNc:=xg0 jez jf5 jf4 sc_q19 (by rintro _ _ _ ⟨_,_,rfl,_⟩; rfl) (k:=0) (λ cdv A outer s H E hr=>wo3 z_len z_range hr) yr3;have jgn:CalX l.prog w K mg base (5) "room_at" ["picture", "cell"] zu2:=sg0 jey jf3 jf2 xl3 (by rintro _ _ _ _ ⟨_,_,rfl,_⟩; rfl) (k:=4) (λ cdv A outer s H E XE hr EX=>sn3 EX jfa [9] jd2 [9] hr) uq3;have h_q8:Cal l.prog w K mg base (1) "cells_beside" ["stroke"] spCb:=xg0 F_q8 m_q8 b_q8 sc_q8 (by rintro _ _ _ ⟨_,rfl,_⟩; rfl) (k:=0) (λ cdv A outer s H E hr=>te4 hr) wg4;have jgo:CalX l.prog w K mg base (5) "walls_of" ["picture"] yu2:=sg0 je0 jf7 jf6 sc_q35 (by rintro _ _ _ _ ⟨_,rfl,_⟩; rfl) (k:=4) (λ cdv A outer s H E XE hr EX=>xn3 EX h_q8 [9] jfa [9] jd2 [9] z_tuple hr) sp3;have jfb:CalX l.prog w K mg base (4) "is_ring" ["picture"] wg2:=sg0 je1 jf9 jf8 zl3 (by rintro _ _ _ _ ⟨_,rfl,_⟩; rfl) (k:=3) (λ cdv A outer s H E XE hr EX=>to3 EX jgi [9] z_len hr) vr3;have h_q7:CalX l.prog w K mg base (5) "area_of" ["picture"] wu2:=sg0 F_q7 m_q7 b_q7 xd4 (by rintro _ _ _ _ ⟨_,rfl,_⟩; rfl) (k:=4) (λ cdv A outer s H E XE hr EX=>se4 EX jfb [9] hr) vg4;have h_q4:Cal l.prog w K mg base (1) "_law_state" ["script", "k"] uh0:=xg0 F_q4 m_q4 b_q4 sc_q4 (by rintro _ _ _ ⟨_,_,rfl,_⟩; rfl) (k:=0) (λ cdv A outer s H E hr=>zf4 z_len hr) sg4;have h_q5:Cal l.prog w K mg base (1) "_law_take" ["state", "many"] spTk:=xg0 F_q5 m_q5 b_q5 sc_q5 (by rintro _ _ _ ⟨_,_,_,_,rfl,_⟩; rfl) (k:=0) (λ cdv A outer s H E hr=>yf4 hr) tg4;have h_q3:Cal l.prog w K mg base (2) "_law_lines" ["state", "most"] spLn:=xg0 F_q3 m_q3 b_q3 sc_q3 (by rintro _ _ _ ⟨_,_,_,rfl,_⟩; rfl) (k:=1) (λ cdv A outer s H E hr=>wf4 h_q5 [9] z_range z_set z_sorted z_tuple hr) xh4;have h_q6:CalM l.prog w K mg base (1) "_law_which" ["e"] spMk:=uc3 F_q6 m_q6 b_q6 sc_q6 (by rintro _ _ _ ⟨_,rfl,_⟩; rfl) (k:=0) (λ cdv A outer s H E hr=>xf4 m_BadNote x_BadNote m_NoNumber x_NoNumber m_NoPicture x_NoPicture m_NoRoom x_NoRoom m_NoStep x_NoStep m_NoWord x_NoWord x_ValueError z_ValueError z_isinstance hr) ug4;have h_q0:CalX l.prog w K mg base (6) "_law_asked" ["way", "lines"] yu1:=sg0 F_q0 m_q0 b_q0 yd4 (by rintro _ _ _ _ ⟨_,_,_,rfl,_⟩; rfl) (k:=5) (λ cdv A outer s H E XE hr EX=>tf4 EX h_q7 [9] jfb [9] jgn [9] jd2 [9] jgo [9] hr) wh4;have h_q2:Cal l.prog w K mg base (7) "_law_flags" ["way", "lines"] spFl:=xg0 F_q2 m_q2 b_q2 sc_q2 (by rintro _ _ _ ⟨_,_,_,rfl,_⟩; rfl) (k:=6) (λ cdv A outer s H E hr=>vf4 h_q0 [9] h_q6 [9] m_PenError k2_PenError k3 ok_PenError hr) yh4;have h_q1:Cal l.prog w K mg base (2) "_law_bad" ["state", "lines"] spBd:=xg0 F_q1 m_q1 b_q1 sc_q1 (by rintro _ _ _ ⟨_,_,_,_,rfl,_⟩; rfl) (k:=1) (λ cdv A outer s H E hr=>uf4 h_q5 [9] z_len hr) zh4;exact tb2 je8 sc_q16 (by rintro _ _ _ ⟨_,rfl,_⟩; rfl) (k:=7) (λ cdv A outer s H E hr=>uo3 h_q1 [9] h_q2 [9] h_q3 [9] h_q4 [9] h_q5 [9] z_max z_range z_sorted z_tuple hr) wr3
theorem walk {l:PySem.W.OpenLaw} {q:Program} {loose:List Str} {XP:(Str->Option Value)->Heap->Prop} {YP:World->Heap->Prop} {d:DefRec} {K:Params->Fg} (hn:l.most=some 63) (hdf:d.params.defaults=[])
    (hY:∀ (w:World) (h:Heap),YP w h->(K w.params).In h)
    (F:∀ (w:World) (mg:[23]) (fa:Addr) (h:Heap),(K w.params).In h->h.Ns mainGlobals mg->mg d.name=some (.ref fa) ->
     ∃ fd:FuncData,(∀ (s:[39]) (u:Value),BindsTo s fd ⟨[u],[]⟩ [("script",u)]) /\ ∀ base:Heap,(K w.params).In base->base.Ns mainGlobals mg->FnOk l.prog w (K w.params) mg base CX0 8 fa fd ["script"] (lift (K w.params) ug2)) :
    PySem.W.WalkO q loose XP YP l.row.toRowW d [] (λ f vs=>PySem.call f vs) :=
 L2.walk_of (n:=63) (k:=8) (x := "script") (CX:=λ _=>CX0) (sp:=λ w=>lift (K w.params) ug2) hn [9] hdf ⟨rfl,by decide,by decide⟩ hY F (λ _ _ a ns hl hO hS=>wk2 hO hS ⟨ns,rfl,hl,λ _=>rfl⟩) λ _ _ _ _ _ z=>z
end Pv
open PySem PySem.W PyProof.Rows
set_option maxRecDepth 100000 in
set_option maxHeartbeats 0 in
theorem PySem.Challenge.cw_penwright_k66_pictures_refused_holds : PySem.Challenge.rw_penwright_k66_pictures_refused.Holds := by
 w_on
 refine PySem.W.holds_law Pv.h_said λ said=>?_;refine PySem.W.holds_open (YP:=PySem.W.Hook.says (kHook Pv.KK Pv.KA Pv.ke)) Pv.h_left (PySem.W.Hook.of (kHook Pv.KK Pv.KA Pv.ke)) (PySem.W.Hook.keeps (kHook Pv.KK Pv.KA Pv.ke)) (λ s e=>PySem.W.xl_of s (Bool.and_eq_true_iff.mp e).1) PySem.W.XL.keeps (by rfl) (by rfl) (by rfl) (λ s e=>PySem.W.recFacts_of (Bool.and_eq_true_iff.mp e).2) (by rfl) said (by decide +kernel) ⟨rfl,rfl,rfl,rfl,rfl,by decide +kernel⟩ ?hw ?hc
 case hw=>w_witness2
 k_fill
 refine Pv.walk (l:=PySem.Challenge.rw_penwright_k66_pictures_refused) rfl rfl (λ w h Y=>PySem.W.kIn_of Y) ?F
 case F =>
  intro w mg fa h KX G hmg;refine' Pv.all_mk KX G hmg ?jc2 ?jc3 ?jc4 ?jc5 ?jc6 ?jc7 ?jc8 ?jc9 ?jda ?jdb ?jdc ?jdd ?jde ?jdf ?jdg ?jdh ?jdi ?jdj ?jdk ?jdl ?a_q9 ?A_q9 ?jdm ?jdn ?jdo ?jdp ?jdq ?jdr ?jds ?jdt ?jdu ?jdv ?jdw ?jdx ?a_q8 ?A_q8 ?jdy ?jdz ?a_q7 ?A_q7 ?a_q4 ?A_q4 ?a_q5 ?A_q5 ?a_q3 ?A_q3 ?a_q6 ?A_q6 ?a_q0 ?A_q0 ?a_q2 ?A_q2 ?a_q1 ?A_q1 ?jc1 ?jd0 ?jcw ?ql_1 ?jbi ?jb5 ?jbn ?jbo ?jbr ?ja3 ?ja4 ?jaa ?ja2 ?jbj ?jac ?jby ?jch ?jci ?jbz ?jb0 ?jcj ?jb1 ?jb2 ?jbs ?ja5 ?ja6 ?jbt ?ja7 ?ja8 ?ja9 ?jba ?jbb ?jbc ?jbd ?jcm ?jb6 ?jb7 ?jb8 ?jb9 ?jca ?jcb ?jcc ?jah ?jai ?jav ?jaw ?jad ?jae ?jas ?jat ?jak ?jal ?jam ?jan ?jao ?jap ?jax ?jay ?jaq ?jar ?jaz ?ja0 ?jab ?jaj ?k3s ?jbk ?jaf ?jau ?jbe ?jcs ?jbf ?jcx ?jcy ?jcz ?jcn ?jc0 ?jck ?jco
  (case jcw | ql_1 | jbi | jb5 | jbn | jbo | jbr | ja3 | ja4 | jaa | ja2 | jbj | jac | jby | jch | jci | jbz | jb0 | jcj | jb1 | jb2 | jbs | ja5 | ja6 | ja7 | ja8 | ja9 | jba | jbb | jbc | jbd | jb6 | jb7 | jb8 | jb9 | jca | jcb | jcc | jah | jav | jad | jas | jak | jam | jao | jax | jaq | jaz | jab | jaj | k3s | jbk | jaf | jau | jbe | jcs | jbf | jcx | jcy | jcz | jcn | jc0 | jck | jco=>k_is)
  (case jc2 | jc4 | jc6 | jc8 | jda | jdc | jde | jdg | jdi | jdk | a_q9 | jdm | jdo | jdq | jds | jdu | jdw | a_q8 | jdy | a_q7 | a_q4 | a_q5 | a_q3 | a_q6 | a_q0 | a_q2 | a_q1 | jc1=>(show _=_; k_is))
  (case jc3 | jc5 | jc7 | jc9 | jdb | jdd | jdf | jdh | jdj | jdl | A_q9 | jdn | jdp | jdr | jdt | jdv | jdx | A_q8 | jdz | A_q7 | A_q4 | A_q5 | A_q3 | A_q6 | A_q0 | A_q2 | A_q1 | jd0=>(refine' Pv.fnA_mk ?l ?c ?k; (case l=>k_is); (case c=>k_is); (case k=>k_is)))
  (case jbt | jcm=>k_exc)
  (case jai | jaw | jae | jat | jal | jan | jap | jay | jar | ja0=>rfl)
